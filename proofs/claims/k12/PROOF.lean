import PyProof.Rows.All
import Wide.All
import OpenK.AllK
import Wide.FinOn
import KE.KStateDown
import HandS.ForMost
import HandS.Flow
import HandS.IsInst
import HandS.Defaults
import HandS.Zip
import HandS.TupAny
import HandS.WideBits
import HandS.HeadEnd
import HandS.Style
import HandS.TupMul
import HandS.HeadHook4
import HandS.Head0
import HandS.Head1
import HandS.Head2
import KE.BitLaws
import PyProof.Rows.ReprShort
import HandS.Text
import PySem.Challenge.RW_suresieves_k12_whole_tight_the_same_word
set_option Elab.async false
set_option linter.all false
set_option maxRecDepth 100000
/-! a small evaluator over trees: data, how they lie in the abstract heap -/
namespace Ev
open PySem PySem.Spec PyProof.Rows L2

/-- data as trees; ref: a list or dict that may change, by its number in the store; fn: a def by its name -/
inductive D where
  | non | bl (b : Bool) | int (i : Int) | str (x : Str) | ty (n : String) | fn (g : Str)
  | tup (l : List D) | lst (l : List D) | rls (l : List D) | ref (n : Nat)
  deriving Inhabited

/-- what may change -/
inductive MO where
  | lst (l : List D)
  | dct (l : List (Str × D))
  deriving Inhabited
abbrev Sto := List MO
abbrev EnvD := List (Option D)

/-- what is fixed: the written part, where the defs stand -/
structure Fx where
  K : PySem.W.Frag
  fa : Str → Addr
  /-- lists that are being made -/
  lk : List Addr := []

/-- a written list -/
def KL (K : PySem.W.Frag) (a : Addr) (xs : List V) : Prop :=
  ∃ (ob : Obj) (its : Array Value) (n : Nat), K.lookup a = some ob ∧ ob.cls = .type "list" ∧ ob.dict = none ∧ ob.data = .seq its n ∧ its.size ≤ sizeLine ∧ Vals xs its.toList

mutual
inductive Rep (F : Fx) (io : List Addr) (H : Hp) : D → V → Prop
  | non : Rep F io H .non .non
  | bl (b : Bool) : Rep F io H (.bl b) (.bl b)
  | int (i : Int) : Rep F io H (.int i) (.int i)
  | str (x : Str) : Rep F io H (.str x) (.str x)
  | ty (n : String) : Rep F io H (.ty n) (.ty n)
  | fn (g : Str) : Rep F io H (.fn g) (.ref (F.fa g))
  | tup {a : Addr} {xs : List V} {ds : List D} : SqT F.K H a xs → Reps F io H ds xs → Rep F io H (.tup ds) (.ref a)
  | lst {a : Addr} {xs : List V} {ds : List D} : a ∉ io → a ∉ F.lk → H a = some (.lst xs) → Reps F io H ds xs → Rep F io H (.lst ds) (.ref a)
  | rlsF {a : Addr} {ob : Obj} {xs : List V} {ds : List D} : H a = some (.frz ob (.lst xs)) → Reps F io H ds xs → Rep F io H (.rls ds) (.ref a)
  | rlsK {a : Addr} {xs : List V} {ds : List D} : KL F.K a xs → Reps F io H ds xs → Rep F io H (.rls ds) (.ref a)
  | ref {n : Nat} {a : Addr} : io[n]? = some a → Rep F io H (.ref n) (.ref a)
inductive Reps (F : Fx) (io : List Addr) (H : Hp) : List D → List V → Prop
  | nil : Reps F io H [] []
  | cons {d : D} {v : V} {ds : List D} {vs : List V} : Rep F io H d v → Reps F io H ds vs → Reps F io H (d :: ds) (v :: vs)
end

/-- what evaluation leaves of the abstract heap -/
structure Grow (F : Fx) (io : List Addr) (H : Hp) (io' : List Addr) (H' : Hp) : Prop where
  more : ∃ js, io' = io ++ js ∧ ∀ j ∈ js, H j = none
  keep : ∀ a o, H a = some o → a ∉ io → H' a = some o
  tups : ∀ a xs, H a = some (.tup xs) → H' a = some (.tup xs)
  frzs : ∀ a o u, H a = some (.frz o u) → H' a = some (.frz o u)
  lsts : ∀ a, H' a = none → H a = none

theorem Grow.refl {F : Fx} (io : List Addr) (H : Hp) : Grow F io H io H := ⟨⟨[], by simp, fun _ h => by simp at h⟩, fun _ _ h _ => h, fun _ _ h => h, fun _ _ _ h => h, fun _ h => h⟩
theorem Grow.trans {F : Fx} {io io1 io2 : List Addr} {H H1 H2 : Hp} (g : Grow F io H io1 H1) (k : Grow F io1 H1 io2 H2) : Grow F io H io2 H2 := by
  obtain ⟨js, e1, n1⟩ := g.more
  obtain ⟨ks, e2, n2⟩ := k.more
  refine ⟨⟨js ++ ks, by rw [e2, e1, List.append_assoc], fun j hj => ?_⟩, fun a o h na => ?_, fun a xs h => k.tups _ _ (g.tups _ _ h), fun a o u h => k.frzs _ _ _ (g.frzs _ _ _ h), fun a h => g.lsts _ (k.lsts _ h)⟩
  · rcases List.mem_append.mp hj with h | h
    · exact n1 j h
    · exact g.lsts j (n2 j h)
  · refine k.keep a o (g.keep a o h na) (fun hm => ?_)
    rw [e1] at hm
    rcases List.mem_append.mp hm with q | q
    · exact na q
    · have := n1 a q
      rw [h] at this
      cases this
theorem Grow.io_get {F : Fx} {io io' : List Addr} {H H' : Hp} (g : Grow F io H io' H') {n : Nat} {a : Addr} (h : io[n]? = some a) : io'[n]? = some a := by
  obtain ⟨js, e, _⟩ := g.more
  obtain ⟨hl, _⟩ := List.getElem?_eq_some_iff.mp h
  rw [e, List.getElem?_append_left hl]
  exact h
theorem Grow.nin {F : Fx} {io io' : List Addr} {H H' : Hp} (g : Grow F io H io' H') {a : Addr} {o : HO} (h : H a = some o) (na : a ∉ io) : a ∉ io' := fun hm => by
  obtain ⟨js, e, n⟩ := g.more
  rw [e] at hm
  rcases List.mem_append.mp hm with q | q
  · exact na q
  · have := n a q
    rw [h] at this
    cases this
theorem Grow.sqT {F : Fx} {io io' : List Addr} {H H' : Hp} (g : Grow F io H io' H') {a : Addr} {xs : List V} (h : SqT F.K H a xs) : SqT F.K H' a xs := by
  rcases h with (h | ⟨o, h⟩) | h
  · exact .inl (.inl (g.tups _ _ h))
  · exact .inl (.inr ⟨o, g.frzs _ _ _ h⟩)
  · exact .inr h

/-- what a value leans on -/
structure Kp (F F' : Fx) (io : List Addr) (H : Hp) (io' : List Addr) (H' : Hp) : Prop where
  hK : F'.K = F.K
  hf : F'.fa = F.fa
  get : ∀ (n : Nat) a, io[n]? = some a → io'[n]? = some a
  lst : ∀ a xs, H a = some (.lst xs) → a ∉ io → a ∉ F.lk → a ∉ io' ∧ a ∉ F'.lk ∧ H' a = some (.lst xs)
  tups : ∀ a xs, H a = some (.tup xs) → H' a = some (.tup xs)
  frzs : ∀ a o u, H a = some (.frz o u) → H' a = some (.frz o u)
theorem Grow.kp {F : Fx} {io io' : List Addr} {H H' : Hp} (g : Grow F io H io' H') : Kp F F io H io' H' :=
  ⟨rfl, rfl, fun n a h => g.io_get h, fun a xs h n m => ⟨g.nin h n, m, g.keep _ _ h n⟩, g.tups, g.frzs⟩
theorem Kp.sqT {F F' : Fx} {io io' : List Addr} {H H' : Hp} (g : Kp F F' io H io' H') {a : Addr} {xs : List V} (h : SqT F.K H a xs) : SqT F'.K H' a xs := by
  rw [g.hK]
  rcases h with (h | ⟨o, h⟩) | h
  · exact .inl (.inl (g.tups _ _ h))
  · exact .inl (.inr ⟨o, g.frzs _ _ _ h⟩)
  · exact .inr h
mutual
theorem Rep.kp {F F' : Fx} {io io' : List Addr} {H H' : Hp} (g : Kp F F' io H io' H') : ∀ (d : D) (v : V), Rep F io H d v → Rep F' io' H' d v
  | .non, _, h => by cases h; exact .non
  | .bl _, _, h => by cases h; exact .bl _
  | .int _, _, h => by cases h; exact .int _
  | .str _, _, h => by cases h; exact .str _
  | .ty _, _, h => by cases h; exact .ty _
  | .fn _, _, h => by cases h; rw [← g.hf]; exact .fn _
  | .ref _, _, h => by
    cases h with
    | ref e => exact .ref (g.get _ _ e)
  | .tup ds, _, h => by
    cases h with
    | tup s r => exact .tup (g.sqT s) (Reps.kp g ds _ r)
  | .lst ds, _, h => by
    cases h with
    | lst n m s r =>
      obtain ⟨h1, h2, h3⟩ := g.lst _ _ s n m
      exact .lst h1 h2 h3 (Reps.kp g ds _ r)
  | .rls ds, _, h => by
    cases h with
    | rlsF s r => exact .rlsF (g.frzs _ _ _ s) (Reps.kp g ds _ r)
    | rlsK s r => exact .rlsK (by rw [g.hK]; exact s) (Reps.kp g ds _ r)
theorem Reps.kp {F F' : Fx} {io io' : List Addr} {H H' : Hp} (g : Kp F F' io H io' H') : ∀ (ds : List D) (vs : List V), Reps F io H ds vs → Reps F' io' H' ds vs
  | [], _, h => by cases h; exact .nil
  | d :: ds, _, h => by
    cases h with
    | cons a b => exact .cons (Rep.kp g d _ a) (Reps.kp g ds _ b)
end
theorem Rep.grow {F : Fx} {io io' : List Addr} {H H' : Hp} (g : Grow F io H io' H') (d : D) (v : V) (h : Rep F io H d v) : Rep F io' H' d v := Rep.kp g.kp d v h
theorem Reps.grow {F : Fx} {io io' : List Addr} {H H' : Hp} (g : Grow F io H io' H') (ds : List D) (vs : List V) (h : Reps F io H ds vs) : Reps F io' H' ds vs := Reps.kp g.kp ds vs h
section
variable {F : Fx} {io io' : List Addr} {H H' : Hp}
theorem Rep.up {d : D} {v : V} (h : Rep F io H d v) (g : Grow F io H io' H') : Rep F io' H' d v := Rep.grow g d v h
theorem Reps.up {d : List D} {v : List V} (h : Reps F io H d v) (g : Grow F io H io' H') : Reps F io' H' d v := Reps.grow g d v h
theorem Reps.len : ∀ {ds : List D} {vs : List V}, Reps F io H ds vs → ds.length = vs.length
  | _, _, .nil => rfl
  | _, _, .cons _ t => by rw [List.length_cons, List.length_cons, Reps.len t]
theorem Reps.get : ∀ {ds : List D} {vs : List V} {i : Nat} {d : D}, Reps F io H ds vs → ds[i]? = some d → ∃ v, vs[i]? = some v ∧ Rep F io H d v
  | _, _, _, _, .nil, e => by simp at e
  | _, _, 0, _, .cons r _, e => by simp at e; subst e; exact ⟨_, rfl, r⟩
  | _, _, i + 1, d, .cons _ t, e => by
    obtain ⟨v, h1, h2⟩ := Reps.get (i := i) (d := d) t (by simpa using e)
    exact ⟨v, by simpa using h1, h2⟩
theorem Reps.getV : ∀ {ds : List D} {vs : List V} {i : Nat} {v : V}, Reps F io H ds vs → vs[i]? = some v → ∃ d, ds[i]? = some d ∧ Rep F io H d v
  | _, _, _, _, .nil, e => by simp at e
  | _, _, 0, _, .cons r _, e => by simp at e; subst e; exact ⟨_, rfl, r⟩
  | _, _, i + 1, d, .cons _ t, e => by
    obtain ⟨v, h1, h2⟩ := Reps.getV (i := i) (v := d) t (by simpa using e)
    exact ⟨v, by simpa using h1, h2⟩
theorem Reps.app : ∀ {ds es : List D} {vs ws : List V}, Reps F io H ds vs → Reps F io H es ws → Reps F io H (ds ++ es) (vs ++ ws)
  | _, _, _, _, .nil, s => s
  | _, _, _, _, .cons r t, s => .cons r (Reps.app t s)
theorem Reps.take : ∀ {ds : List D} {vs : List V} (n : Nat), Reps F io H ds vs → Reps F io H (ds.take n) (vs.take n)
  | _, _, 0, _ => .nil
  | _, _, _ + 1, .nil => .nil
  | _, _, n + 1, .cons r t => .cons r (Reps.take n t)
theorem Reps.drop : ∀ {ds : List D} {vs : List V} (n : Nat), Reps F io H ds vs → Reps F io H (ds.drop n) (vs.drop n)
  | _, _, 0, r => r
  | _, _, _ + 1, .nil => .nil
  | _, _, n + 1, .cons _ t => Reps.drop n t
theorem Reps.set {d : D} {v : V} (r : Rep F io H d v) : ∀ {ds : List D} {vs : List V} (i : Nat), Reps F io H ds vs → Reps F io H (ds.set i d) (vs.set i v)
  | _, _, _, .nil => .nil
  | _, _, 0, .cons _ t => .cons r t
  | _, _, i + 1, .cons q t => .cons q (Reps.set r i t)
end

/-! ### the store -/
def MOk (F : Fx) (io : List Addr) (H : Hp) (a : Addr) : MO → Prop
  | .lst ds => ∃ xs, H a = some (.lst xs) ∧ Reps F io H ds xs
  | .dct kvs => ∃ ys : List (Key × V), H a = some (.dK ys) ∧ ys.map (·.1) = kvs.map (fun p => Sum.inr p.1) ∧ Reps F io H (kvs.map (·.2)) (ys.map (·.2))
structure StOK (F : Fx) (io : List Addr) (H : Hp) (S : Sto) : Prop where
  len : io.length = S.length
  nd : io.Nodup
  lk : ∀ a ∈ F.lk, a ∉ io ∧ ∃ o, H a = some o
  at_ : ∀ (n : Nat) (a : Addr) (m : MO), io[n]? = some a → S[n]? = some m → MOk F io H a m
section
variable {F : Fx} {io io' : List Addr} {H H' : Hp} {S : Sto}
theorem MOk.some_ {a : Addr} {m : MO} (h : MOk F io H a m) : ∃ o, H a = some o ∧ (∀ xs, o ≠ .tup xs) ∧ ∀ b u, o ≠ .frz b u := by
  cases m with
  | lst ds => obtain ⟨xs, e, _⟩ := h; exact ⟨_, e, fun _ z => (nomatch z), fun _ _ z => (nomatch z)⟩
  | dct ds => obtain ⟨xs, e, _⟩ := h; exact ⟨_, e, fun _ z => (nomatch z), fun _ _ z => (nomatch z)⟩
theorem StOK.of_mem (k : StOK F io H S) {a : Addr} (h : a ∈ io) : ∃ (n : Nat) (m : MO), io[n]? = some a ∧ S[n]? = some m ∧ MOk F io H a m := by
  obtain ⟨n, hn, e⟩ := List.mem_iff_getElem.mp h
  have h1 : io[n]? = some a := by rw [List.getElem?_eq_getElem hn, e]
  have h2 : n < S.length := by rw [← k.len]; exact hn
  have h3 : S[n]? = some S[n] := List.getElem?_eq_getElem h2
  exact ⟨n, _, h1, h3, k.at_ n a _ h1 h3⟩
theorem StOK.fresh (k : StOK F io H S) {p : Addr} (h : H p = none) : p ∉ io := fun hm => by
  obtain ⟨n, m, _, _, q⟩ := k.of_mem hm
  obtain ⟨o, e, _⟩ := q.some_
  rw [h] at e
  cases e
theorem StOK.ntup (k : StOK F io H S) {p : Addr} {xs : List V} (h : H p = some (.tup xs)) : p ∉ io := fun hm => by
  obtain ⟨n, m, _, _, q⟩ := k.of_mem hm
  obtain ⟨o, e, z, _⟩ := q.some_
  rw [h] at e
  exact z xs (Option.some.inj e).symm
theorem StOK.nlk (k : StOK F io H S) {p : Addr} (h : H p = none) : p ∉ F.lk := fun hm => by
  obtain ⟨_, o, e⟩ := k.lk p hm
  rw [h] at e
  cases e
/-- a new immutable object -/
theorem grow_new (k : StOK F io H S) {p : Addr} (h : H p = none) (o : HO) : Grow F io H io (upd H p o) := by
  refine ⟨⟨[], by simp, fun _ z => by simp at z⟩, fun a u e _ => ?_, fun a u e => ?_, fun a u v e => ?_, fun a e => ?_⟩
  · rw [upd_ne (ne_of_none e h)]; exact e
  · rw [upd_ne (ne_of_none e h)]; exact e
  · rw [upd_ne (ne_of_none e h)]; exact e
  · by_cases q : a = p
    · rw [q]; exact h
    · rw [upd_ne q] at e; exact e
theorem MOk.grow {a : Addr} {m : MO} (h : MOk F io H a m) (g : Grow F io H io' H') (e : H' a = H a) : MOk F io' H' a m := by
  cases m with
  | lst ds => obtain ⟨xs, q, r⟩ := h; exact ⟨xs, by rw [e]; exact q, r.up g⟩
  | dct ds => obtain ⟨xs, q, r1, r⟩ := h; exact ⟨xs, by rw [e]; exact q, r1, r.up g⟩
theorem StOK.new (k : StOK F io H S) {p : Addr} (h : H p = none) (o : HO) : StOK F io (upd H p o) S :=
  ⟨k.len, k.nd, fun a ha => by
    obtain ⟨ni, u, e⟩ := k.lk a ha
    exact ⟨ni, u, by rw [upd_ne (ne_of_none e h)]; exact e⟩, fun n a m h1 h2 => by
    have q := k.at_ n a m h1 h2
    obtain ⟨u, e, _⟩ := q.some_
    exact q.grow (grow_new k h o) (upd_ne (ne_of_none e h))⟩
/-- a new object of the store -/
theorem grow_newR (k : StOK F io H S) {p : Addr} (h : H p = none) (o : HO) : Grow F io H (io ++ [p]) (upd H p o) := by
  have g := grow_new k h o
  exact ⟨⟨[p], rfl, fun j hj => by simp at hj; rw [hj]; exact h⟩, g.keep, g.tups, g.frzs, g.lsts⟩
theorem StOK.newR (k : StOK F io H S) {p : Addr} (h : H p = none) {o : HO} {m : MO} (hm : MOk F (io ++ [p]) (upd H p o) p m) : StOK F (io ++ [p]) (upd H p o) (S ++ [m]) := by
  refine ⟨by rw [List.length_append, List.length_append, k.len]; rfl, ?_, fun a ha => by
    obtain ⟨ni, u, e⟩ := k.lk a ha
    refine ⟨fun z => ?_, u, by rw [upd_ne (ne_of_none e h)]; exact e⟩
    rcases List.mem_append.mp z with z | z
    · exact ni z
    · simp at z
      rw [z, h] at e
      exact absurd e (by simp), fun n a x h1 h2 => ?_⟩
  · refine List.nodup_append.mpr ⟨k.nd, by simp, fun a ha b hb z => ?_⟩
    simp at hb
    subst hb
    subst z
    exact k.fresh h ha
  · by_cases hn : n < io.length
    · rw [List.getElem?_append_left hn] at h1
      rw [List.getElem?_append_left (by rw [← k.len]; exact hn)] at h2
      have q := k.at_ n a x h1 h2
      obtain ⟨u, e, _⟩ := q.some_
      exact q.grow (grow_newR k h o) (upd_ne (ne_of_none e h))
    · have hn2 : n = io.length := by
        obtain ⟨hl, _⟩ := List.getElem?_eq_some_iff.mp h1
        rw [List.length_append] at hl
        simp at hl
        omega
      subst hn2
      rw [List.getElem?_append_right (Nat.le_refl _)] at h1
      rw [k.len, List.getElem?_append_right (Nat.le_refl _)] at h2
      simp at h1 h2
      subst h1
      subst h2
      exact hm
/-- an object of the store changed -/
theorem grow_set (k : StOK F io H S) {n : Nat} {p : Addr} (h : io[n]? = some p) (hn : n < S.length) (o : HO) : Grow F io H io (upd H p o) := by
  have hp : p ∈ io := List.mem_of_getElem? h
  obtain ⟨n', m, _, _, q⟩ := k.of_mem hp
  obtain ⟨u, e, z1, z2⟩ := q.some_
  refine ⟨⟨[], by simp, fun _ z => by simp at z⟩, fun a u e' na => ?_, fun a u' e' => ?_, fun a u' v e' => ?_, fun a e' => ?_⟩
  · rw [upd_ne (fun z => na (by rw [z]; exact hp))]; exact e'
  · rw [upd_ne (fun z => by rw [z, e] at e'; exact z1 _ (Option.some.inj e'))]; exact e'
  · rw [upd_ne (fun z => by rw [z, e] at e'; exact z2 _ _ (Option.some.inj e'))]; exact e'
  · by_cases q : a = p
    · rw [q, upd_same] at e'; cases e'
    · rw [upd_ne q] at e'; exact e'
theorem StOK.set (k : StOK F io H S) {n : Nat} {p : Addr} (h : io[n]? = some p) (hn : n < S.length) {o : HO} {m : MO} (hm : MOk F io (upd H p o) p m) : StOK F io (upd H p o) (S.set n m) := by
  refine ⟨by rw [List.length_set]; exact k.len, k.nd, fun a ha => by
    obtain ⟨ni, u, e⟩ := k.lk a ha
    refine ⟨ni, ?_⟩
    by_cases q : a = p
    · exact ⟨_, by rw [q]; exact upd_same⟩
    · exact ⟨u, by rw [upd_ne q]; exact e⟩, fun i a x h1 h2 => ?_⟩
  by_cases e : i = n
  · subst e
    rw [h] at h1
    cases h1
    rw [List.getElem?_set_self hn] at h2
    cases h2
    exact hm
  · rw [List.getElem?_set_ne (Ne.symm e)] at h2
    have q := k.at_ i a x h1 h2
    have ne : a ≠ p := fun z => by
      subst z
      obtain ⟨hi, ei⟩ := List.getElem?_eq_some_iff.mp h1
      obtain ⟨hj, ej⟩ := List.getElem?_eq_some_iff.mp h
      exact e ((List.getElem_inj k.nd).mp (ei.trans ej.symm))
    exact q.grow (grow_set k h hn o) (upd_ne ne)
end

theorem MOk.kp {F F' : Fx} {io io' : List Addr} {H H' : Hp} {a : Addr} {m : MO} (h : MOk F io H a m) (g : Kp F F' io H io' H') (e : H' a = H a) : MOk F' io' H' a m := by
  cases m with
  | lst ds => obtain ⟨xs, q, r⟩ := h; exact ⟨xs, by rw [e]; exact q, Reps.kp g _ _ r⟩
  | dct ds => obtain ⟨xs, q, r1, r⟩ := h; exact ⟨xs, by rw [e]; exact q, r1, Reps.kp g _ _ r⟩
/-! ### the slots -/
structure SlOK (F : Fx) (io : List Addr) (H : Hp) (st : L2.St) (env : EnvD) : Prop where
  len : env.length = st.length
  at_ : ∀ (i : Nat) (d : D), env[i]? = some (some d) → ∃ v, st[i]? = some (some v) ∧ Rep F io H d v
section
variable {F : Fx} {io io' : List Addr} {H H' : Hp} {st : L2.St} {env : EnvD}
theorem SlOK.up (k : SlOK F io H st env) (g : Grow F io H io' H') : SlOK F io' H' st env := ⟨k.len, fun i d e => by
  obtain ⟨v, h1, h2⟩ := k.at_ i d e
  exact ⟨v, h1, h2.up g⟩⟩
theorem SlOK.kp {F F' : Fx} {io io' : List Addr} {H H' : Hp} {st : L2.St} {env : EnvD} (k : SlOK F io H st env) (g : Kp F F' io H io' H') : SlOK F' io' H' st env := ⟨k.len, fun i d e => by
  obtain ⟨v, h1, h2⟩ := k.at_ i d e
  exact ⟨v, h1, Rep.kp g _ _ h2⟩⟩
theorem SlOK.set (k : SlOK F io H st env) {d : D} {v : V} (r : Rep F io H d v) (i : Nat) : SlOK F io H (st.set i (some v)) (env.set i (some d)) := by
  refine ⟨by rw [List.length_set, List.length_set]; exact k.len, fun j e hj => ?_⟩
  by_cases q : i = j
  · subst q
    obtain ⟨hl, _⟩ := List.getElem?_eq_some_iff.mp hj
    rw [List.length_set] at hl
    rw [List.getElem?_set_self hl] at hj
    cases hj
    exact ⟨v, List.getElem?_set_self (by rw [← k.len]; exact hl), r⟩
  · rw [List.getElem?_set_ne q] at hj
    rw [List.getElem?_set_ne q]
    exact k.at_ j e hj
end
end Ev

/-! the evaluator -/
namespace Ev
open PySem PySem.Spec PyProof.Rows L2

mutual
def py : D → Option PyData
  | .non => some .none
  | .bl b => some (.bool b)
  | .int i => some (.int i)
  | .str x => some (.str x)
  | .tup l => (pys l).map .tuple
  | .lst l => (pys l).map .list
  | .rls l => (pys l).map .list
  | .ty _ => none
  | .fn _ => none
  | .ref _ => none
def pys : List D → Option (List PyData)
  | [] => some []
  | d :: ds => (py d).bind fun p => (pys ds).map (p :: ·)
end
mutual
def same : D → D → Bool
  | .non, .non => true
  | .bl a, .bl b => decide (a = b)
  | .int a, .int b => decide (a = b)
  | .str a, .str b => decide (a = b)
  | .ty a, .ty b => decide (a = b)
  | .fn a, .fn b => decide (a = b)
  | .ref a, .ref b => decide (a = b)
  | .tup a, .tup b => sames a b
  | .lst a, .lst b => sames a b
  | .rls a, .rls b => sames a b
  | _, _ => false
def sames : List D → List D → Bool
  | [], [] => true
  | a :: as, b :: bs => same a b && sames as bs
  | _, _ => false
end
/-- a list of the store as a list -/
def der (S : Sto) : D → D
  | .ref n => match S[n]? with
    | some (.lst l) => .lst l
    | _ => .ref n
  | d => d
/-- the items of a list (false), of a tuple (true) -/
def seqOf (S : Sto) : D → Option (Bool × List D)
  | .tup l => some (true, l)
  | .lst l => some (false, l)
  | .rls l => some (false, l)
  | .ref n => match S[n]? with
    | some (.lst l) => some (false, l)
    | _ => none
  | _ => none
def truth (S : Sto) : D → Option Bool
  | .non => some false
  | .bl b => some b
  | .int i => some (i != 0)
  | .str x => if x.length ≤ sizeLine then some ((x.length : Int) != 0) else none
  | .tup l => some (!l.isEmpty)
  | .lst l => some (!l.isEmpty)
  | .rls l => some (!l.isEmpty)
  | .ref n => match S[n]? with
    | some (.lst l) => some (!l.isEmpty)
    | _ => none
  | _ => none
/-- what == of scalars tells -/
def scalEq : D → D → Option Bool
  | .int i, .int j => some (decide (i = j))
  | .str x, .str y => some (decide (x = y))
  | .bl a, .bl b => some (decide (a = b))
  | .non, .non => some true
  | .non, .int _ => some false
  | .int _, .non => some false
  | .non, .bl _ => some false
  | .bl _, .non => some false
  | .non, .str _ => some false
  | .str _, .non => some false
  | .int _, .str _ => some false
  | .str _, .int _ => some false
  | .bl _, .str _ => some false
  | .str _, .bl _ => some false
  | _, _ => none
def dataEq (p q : Option PyData) : Option Bool := match p, q with
  | some p, some q => if SeqAt.shaped p = true ∧ SeqAt.shaped q = true then some (PyData.eqv p q) else none
  | _, _ => none
def deq (S : Sto) (a b : D) : Option Bool := match scalEq a b with
  | some r => some r
  | none => dataEq (py (der S a)) (py (der S b))
def flatD : D → Bool
  | .non => true
  | .bl _ => true
  | .int _ => true
  | .str _ => true
  | _ => false
def flatEq : D → D → Bool
  | .non, .non => true
  | .bl a, .bl b => a == b
  | .bl a, .int b => (if a then 1 else 0) == b
  | .int a, .bl b => a == (if b then 1 else 0)
  | .int a, .int b => a == b
  | .str a, .str b => a == b
  | _, _ => false
def din (S : Sto) (a b : D) : Option Bool := match b with
  | .str y => match a with
    | .str x => some (!(Builtin.Str.occurrences y x 0 y.length 1).isEmpty)
    | _ => none
  | _ => match seqOf S b with
    | some (_, l) => if flatD a = true ∧ l.all flatD = true then some (l.any fun y => flatEq y a) else none
    | none => none
def isNon : D → Bool
  | .non => true
  | _ => false
def intLt (f : Int → Int → Bool) : D → D → Option Bool
  | .int i, .int j => some (f i j)
  | _, _ => none
def cop (S : Sto) (op : CmpOp) (a b : D) : Option Bool := match op with
  | .Eq => deq S a b
  | .NotEq => (deq S a b).map (!·)
  | .Lt => intLt (fun i j => decide (i < j)) a b
  | .LtE => intLt (fun i j => decide (i ≤ j)) a b
  | .Gt => intLt (fun i j => decide (j < i)) a b
  | .GtE => intLt (fun i j => decide (j ≤ i)) a b
  | .Is => match b with
    | .non => some (isNon a)
    | .bl b => match a with
      | .bl a => some (decide (a = b))
      | _ => none
    | _ => none
  | .IsNot => match b with
    | .non => some (!isNon a)
    | _ => none
  | .In => din S a b
  | .NotIn => (din S a b).map (!·)
def ibop (op : Operator) (i j : Int) : Option Int := match op with
  | .Add => some (i + j)
  | .Sub => some (i - j)
  | .Mult => if (-(2 ^ 64) < i ∧ i < 2 ^ 64) ∨ (-(2 ^ 64) < j ∧ j < 2 ^ 64) then some (i * j) else none
  | .FloorDiv => if 0 < j ∧ j < 1073741824 then some (i / j) else none
  | .Mod => if 0 < j then some (i % j) else none
  | .Pow => if 0 ≤ j ∧ j ≤ 1000000 ∧ i.natAbs < 2 ^ 64 then some (i ^ j.toNat) else none
  | .LShift => if 0 ≤ j ∧ j ≤ 1000000 ∧ i.natAbs < 2 ^ 64 then some (i * 2 ^ j.toNat) else none
  | .RShift => if 0 ≤ j then some (i / 2 ^ j.toNat) else none
  | .BitAnd => some (Builtin.bitAnd i j)
  | .BitOr => some (Builtin.bitOr i j)
  | .BitXor => some (Builtin.bitXor i j)
  | _ => none
def bop (op : Operator) (a b : D) : Option D := match a, b with
  | .tup x, .int k => match op with
    | .Mult => if x ≠ [] ∧ 2 ≤ k ∧ k ≤ 1000 ∧ x.length ≤ 1000 then some (.tup (List.replicate k.toNat x).flatten) else none
    | _ => none
  | .int i, .int j => (ibop op i j).map .int
  | .str x, .str y => match op with
    | .Add => if x.length + y.length ≤ sizeLine then some (.str (x ++ y)) else none
    | _ => none
  | .tup x, .tup y => match op with
    | .Add => if x.length + y.length ≤ sizeLine then some (.tup (x ++ y)) else none
    | _ => none
  | .lst x, .lst y => match op with
    | .Add => if x.length + y.length ≤ sizeLine then some (.lst (x ++ y)) else none
    | _ => none
  | _, _ => none
def refL (S : Sto) : D → Option (List D)
  | .lst l => some l
  | .ref n => match S[n]? with
    | some (.lst l) => some l
    | _ => none
  | _ => none
/-- with the store: lists of it joined -/
def catS (S : Sto) (op : Operator) (a b : D) : Option D := match op with
  | .Add => match refL S a, refL S b with
    | some l, some m => if l.length + m.length ≤ sizeLine then some (.lst (l ++ m)) else none
    | _, _ => none
  | _ => none
def binS (S : Sto) (op : Operator) (a b : D) : Option D := match bop op a b with
  | some d => some d
  | none => catS S op a b
def tyn (S : Sto) : D → Option String
  | .non => some "NoneType"
  | .bl _ => some "bool"
  | .int _ => some "int"
  | .str _ => some "str"
  | .tup _ => some "tuple"
  | .lst _ => some "list"
  | .rls _ => some "list"
  | .ref n => match S[n]? with
    | some (.lst _) => some "list"
    | some (.dct _) => some "dict"
    | none => none
  | _ => none
def toInt : D → Option Int
  | .int i => some i
  | _ => none
def toBl : D → Option Bool
  | .bl i => some i
  | _ => none
def toInts : List D → Option (List Int)
  | [] => some []
  | d :: ds => (toInt d).bind fun i => (toInts ds).map (i :: ·)
def mxI : List Int → Option Int
  | [] => none
  | x :: r => some (r.foldl (fun a b => if b > a then b else a) x)
def mnI : List Int → Option Int
  | [] => none
  | x :: r => some (r.foldl (fun a b => if b < a then b else a) x)
def bls : List D → Option (List Bool)
  | [] => some []
  | d :: ds => (toBl d).bind fun b => (bls ds).map (b :: ·)
/-- repr -/
def shw (p : Option PyData) : Option D := match p with
  | some p => if p.showable = true ∧ p.shown.length ≤ sizeLine ∧ p.depth ≤ 60 then some (.str p.shown) else none
  | none => none
inductive Bf where
  | len | isinstance | int | abs | max | min | repr | divmod | all | tuple | list | str
  deriving DecidableEq
def Bf.name : Bf → Str
  | .len => "len" | .isinstance => "isinstance" | .int => "int" | .abs => "abs" | .max => "max" | .min => "min" | .repr => "repr" | .divmod => "divmod" | .all => "all" | .tuple => "tuple" | .list => "list" | .str => "str"
def bfun (S : Sto) (f : Bf) (as : List D) : Option D := match f, as with
  | .len, [.str x] => if x.length ≤ sizeLine then some (.int x.length) else none
  | .len, [d] => (seqOf S d).map fun p => .int p.2.length
  | .isinstance, [d, .ty n] => (tyn S d).bind fun t => (kitB t n).map .bl
  | .int, [.int i] => some (.int i)
  | .int, [.bl b] => some (.int (if b then 1 else 0))
  | .max, [d] => match seqOf S d with
    | some (false, l) => (toInts l).bind fun ns => (mxI ns).map .int
    | _ => none
  | .min, [d] => match seqOf S d with
    | some (false, l) => (toInts l).bind fun ns => (mnI ns).map .int
    | _ => none
  | .abs, [.int i] => some (.int (if i < 0 then -i else i))
  | .max, [.int i, .int j] => some (.int (if j > i then j else i))
  | .min, [.int i, .int j] => some (.int (if j < i then j else i))
  | .repr, [d] => match seqOf S d with
    | some _ => shw (py (der S d))
    | none => none
  | .divmod, [.int i, .int j] => if 0 < j ∧ j < 1073741824 then some (.tup [.int (i / j), .int (i % j)]) else none
  | .all, [d] => match seqOf S d with
    | some (false, l) => (bls l).map fun bs => .bl (bs.all id)
    | _ => none
  | .tuple, [d] => (seqOf S d).map fun p => .tup p.2
  | .list, [d] => (seqOf S d).map fun p => .lst p.2
  | _, _ => none
def atD (l : List D) (i : Int) : Option D := atI l i
def cutD (xs : List D) (lo hi : Option Int) : List D := (xs.drop (HT.sIx xs.length 0 lo)).take (HT.sIx xs.length xs.length hi - HT.sIx xs.length 0 lo)
def look (x : Str) : List (Str × D) → Option D
  | [] => none
  | (k, d) :: r => if k = x then some d else look x r
def ixf (S : Sto) (a b : D) : Option D := match a, b with
  | .ref n, .str x => match S[n]? with
    | some (.dct kvs) => look x kvs
    | _ => none
  | .str z, .int i => if z.length ≤ sizeLine then (atI z.cps.toList i).map fun c => .str ⟨#[c]⟩ else none
  | d, .int i => (seqOf S d).bind fun p => atD p.2 i
  | _, _ => none
def slf (S : Sto) (a : D) (lo hi : Option Int) : Option D := match a with
  | .str z => if z.length ≤ sizeLine then some (.str (cutS z lo hi)) else none
  | d => match seqOf S d with
    | some (true, l) => some (.tup (cutD l lo hi))
    | some (false, l) => some (.lst (cutD l lo hi))
    | none => none

/-- targets: a name's slot; o[i]; several -/
inductive E where
  | var (i : Nat) | cst (d : D) | glob (g : Str)
  | bin (op : Operator) (a b : E) | neg (a : E) | not' (a : E) | inv (a : E) | blen (a : E) | calll (i : Nat) (as : List E)
  | cmp (op : CmpOp) (a b : E) | chain (op op' : CmpOp) (a b c : E)
  | and' (a b : E) | or' (a b : E) | ife (c a b : E)
  | call (f : Str) (as : List E) | callk (f : Str) (ks : List Str) (ix : List Nat) (ws : List E)
  | blt (f : Bf) (as : List E)
  | tup (as : List E) | lst (as : List E) | newl (as : List E) | newd (ks : List Str) (as : List E)
  | idx (a b : E) | sl (a : E) (fl fh : Bool) (lo hi : E)
  | comp (vs : List Nat) (tg : List Nat) (one : Bool) (k : Nat) (its : List E) (fi : Bool) (cd elt : E)
  deriving Inhabited

def wipeD (env : EnvD) : List Nat → EnvD
  | [] => env
  | v :: vs => (wipeD env vs).set v none
def setAll : List Nat → List D → EnvD → Option EnvD
  | [], [], env => some env
  | i :: is, d :: ds, env => setAll is ds (env.set i (some d))
  | _, _, _ => none
/-- a target of one name, or of several -/
def bindT (tg : List Nat) (one : Bool) (d : D) (env : EnvD) : Option EnvD := match one with
  | true => setAll tg [d] env
  | false => match d with
    | .tup l => setAll tg l env
    | _ => none
def rangeD (lo hi : Int) : List D := (List.range (hi - lo).toNat).map fun (i : Nat) => D.int (lo + i)
def inR (i : Int) : Bool := decide (-(2 ^ 62) ≤ i ∧ i < 2 ^ 62)
/-- what is walked, and whether it still stands so: 0 a list or tuple, 1 a range, 2 enumerate, 3 zip -/
def stays (n : Nat) (l : List D) (S : Sto) : Bool := match S[n]? with
  | some (.lst l2) => sames l l2
  | _ => false
def enumD (n : Nat) : List D → List D
  | [] => []
  | d :: r => .tup [.int n, d] :: enumD (n + 1) r
def itemsOf (S : Sto) (k : Nat) (as : List D) : Option (List D × (Sto → Bool)) := match k, as with
  | 0, [.tup l] => some (l, fun _ => true)
  | 0, [.lst l] => some (l, fun _ => true)
  | 0, [.rls l] => some (l, fun _ => true)
  | 0, [.ref n] => match S[n]? with
    | some (.lst l) => some (l, stays n l)
    | _ => none
  | 2, [.tup l] => some (enumD 0 l, fun _ => true)
  | 2, [.lst l] => some (enumD 0 l, fun _ => true)
  | 2, [.rls l] => some (enumD 0 l, fun _ => true)
  | 1, [.int j] => if inR j = true then some (rangeD 0 j, fun _ => true) else none
  | 1, [.int i, .int j] => if inR i = true ∧ inR j = true then some (rangeD i j, fun _ => true) else none
  | _, _ => none
/-- the def's own call -/
abbrev CallF := Str → List D → Sto → Option (D × Sto)
def compLoop (gd : Sto → Bool) (bd : D → EnvD → Option EnvD) (cd : EnvD → Sto → Option (Bool × Sto)) (el : EnvD → Sto → Option (D × Sto)) (env : EnvD) : List D → Sto → List D → Option (List D × Sto)
  | [], S, acc => if gd S = true then some (acc, S) else none
  | d :: ds, S, acc => if gd S = true then match bd d env with
      | none => none
      | some env1 => match cd env1 S with
        | none => none
        | some (false, S1) => compLoop gd bd cd el env ds S1 acc
        | some (true, S1) => match el env1 S1 with
          | none => none
          | some (x, S2) => if acc.length < sizeLine then compLoop gd bd cd el env ds S2 (acc ++ [x]) else none
    else none
def pick (ix : List Nat) (ds : List D) : Option (List D) := match ix with
  | [] => some []
  | i :: is => match ds[i]? with
    | some d => (pick is ds).map (d :: ·)
    | none => none
def putD (x : Str) (d : D) (l : List (Str × D)) : List (Str × D) :=
  if (l.any fun p => decide (p.1 = x)) = true then l.map (fun p => if p.1 = x then (p.1, d) else p) else l ++ [(x, d)]
def putAll : List (Str × D) → List (Str × D) → List (Str × D)
  | l, [] => l
  | l, (k, d) :: r => putAll (putD k d l) r
structure Gb where
  cl : CallF
  glb : Str → Option D
mutual
def ev (G : Gb) : E → EnvD → Sto → Option (D × Sto)
  | .var i, env, S => match env[i]? with
    | some (some d) => some (d, S)
    | _ => none
  | .cst d, _, S => some (d, S)
  | .glob g, _, S => match G.glb g with
    | some d => some (d, S)
    | none => none
  | .bin op a b, env, S => match ev G a env S with
    | none => none
    | some (x, S1) => match ev G b env S1 with
      | none => none
      | some (y, S2) => match binS S2 op x y with
        | none => none
        | some d => some (d, S2)
  | .neg a, env, S => match ev G a env S with
    | some (.int i, S1) => some (.int (-i), S1)
    | _ => none
  | .inv a, env, S => match ev G a env S with
    | some (.int i, S1) => some (.int (Builtin.bitNot i), S1)
    | _ => none
  | .blen a, env, S => match ev G a env S with
    | some (.int i, S1) => some (.int (Builtin.Int.intBits i : Nat), S1)
    | _ => none
  | .calll i as, env, S => match env[i]? with
    | some (some (.fn g)) => match evs G as env S with
      | none => none
      | some (ds, S1) => G.cl g ds S1
    | _ => none
  | .not' a, env, S => match ev G a env S with
    | none => none
    | some (x, S1) => match truth S1 x with
      | none => none
      | some t => some (.bl (!t), S1)
  | .cmp op a b, env, S => match ev G a env S with
    | none => none
    | some (x, S1) => match ev G b env S1 with
      | none => none
      | some (y, S2) => match cop S2 op x y with
        | none => none
        | some t => some (.bl t, S2)
  | .chain op op' a b c, env, S => match ev G a env S with
    | none => none
    | some (x, S1) => match ev G b env S1 with
      | none => none
      | some (y, S2) => match cop S2 op x y with
        | none => none
        | some false => some (.bl false, S2)
        | some true => match ev G c env S2 with
          | none => none
          | some (z, S3) => match cop S3 op' y z with
            | none => none
            | some t => some (.bl t, S3)
  | .and' a b, env, S => match ev G a env S with
    | none => none
    | some (x, S1) => match truth S1 x with
      | none => none
      | some true => ev G b env S1
      | some false => some (x, S1)
  | .or' a b, env, S => match ev G a env S with
    | none => none
    | some (x, S1) => match truth S1 x with
      | none => none
      | some true => some (x, S1)
      | some false => ev G b env S1
  | .ife c a b, env, S => match ev G c env S with
    | none => none
    | some (x, S1) => match truth S1 x with
      | none => none
      | some true => ev G a env S1
      | some false => ev G b env S1
  | .call f as, env, S => match evs G as env S with
    | none => none
    | some (ds, S1) => G.cl f ds S1
  | .callk f _ ix ws, env, S => match evs G ws env S with
    | none => none
    | some (ds, S1) => match pick ix ds with
      | none => none
      | some as => G.cl f as S1
  | .blt f as, env, S => match evs G as env S with
    | none => none
    | some (ds, S1) => match bfun S1 f ds with
      | none => none
      | some d => some (d, S1)
  | .tup as, env, S => match evs G as env S with
    | none => none
    | some (ds, S1) => if ds.length ≤ sizeLine then some (.tup ds, S1) else none
  | .lst as, env, S => match evs G as env S with
    | none => none
    | some (ds, S1) => if ds.length ≤ sizeLine then some (.lst ds, S1) else none
  | .newl as, env, S => match evs G as env S with
    | none => none
    | some (ds, S1) => if ds.length ≤ sizeLine then some (.ref S1.length, S1 ++ [.lst ds]) else none
  | .newd ks as, env, S => match evs G as env S with
    | none => none
    | some (ds, S1) => if ks.length = ds.length then some (.ref S1.length, S1 ++ [.dct (putAll [] (ks.zip ds))]) else none
  | .idx a b, env, S => match ev G a env S with
    | none => none
    | some (x, S1) => match ev G b env S1 with
      | none => none
      | some (y, S2) => match ixf S2 x y with
        | none => none
        | some d => some (d, S2)
  | .sl a fl fh lo hi, env, S => match ev G a env S with
    | none => none
    | some (x, S1) => match (match fl with
        | false => some (none, S1)
        | true => match ev G lo env S1 with
          | some (.int i, S2) => some (some i, S2)
          | _ => none) with
      | none => none
      | some (l, S2) => match (match fh with
          | false => some (none, S2)
          | true => match ev G hi env S2 with
            | some (.int i, S3) => some (some i, S3)
            | _ => none) with
        | none => none
        | some (h, S3) => match slf S3 x l h with
          | none => none
          | some d => some (d, S3)
  | .comp vs tg one k its fi cd elt, env, S => match evs G its env S with
    | none => none
    | some (as, S1) => match itemsOf S1 k as with
      | none => none
      | some (ds, gd) => match compLoop gd (bindT tg one) (fun e S => match fi with
          | false => some (true, S)
          | true => match ev G cd e S with
            | none => none
            | some (x, S1) => match truth S1 x with
              | none => none
              | some t => some (t, S1)) (ev G elt) (wipeD env vs) ds S1 [] with
        | none => none
        | some (l, S2) => some (.lst l, S2)
def evs (G : Gb) : List E → EnvD → Sto → Option (List D × Sto)
  | [], _, S => some ([], S)
  | e :: es, env, S => match ev G e env S with
    | none => none
    | some (d, S1) => match evs G es env S1 with
      | none => none
      | some (ds, S2) => some (d :: ds, S2)
end

/-! ### statements -/
inductive Tg where
  | name (i : Nat) | sub (o i : E)
  deriving Inhabited
inductive T where
  | asg (t : Tg) (e : E) | tup (ts : List Tg) (e : E) | par (is : List Nat) (es : List E)
  | aug (i : Nat) (op : Operator) (e : E)
  | expr (e : E) | ret (e : E) | retN | pass | brk | cont | stop
  | append (o e : E) | update (o e : E)
  | ife (c : E) (a b : List T)
  | for' (tg : List Nat) (one : Bool) (k : Nat) (its : List E) (body : List T)
  | while' (c : E) (body : List T)
  deriving Inhabited
def isL (S : Sto) (n : Nat) : Bool := match S[n]? with
  | some (.lst _) => true
  | _ => false
def isDc (S : Sto) (n : Nat) : Bool := match S[n]? with
  | some (.dct _) => true
  | _ => false
inductive Fl where
  | nx | bk | ct | rt (d : D)
def asgT (G : Gb) (t : Tg) (d : D) (env : EnvD) (S : Sto) : Option (EnvD × Sto) := match t with
  | .name i => some (env.set i (some d), S)
  | .sub o i => match ev G o env S with
    | some (.ref n, S1) => match ev G i env S1 with
      | some (.int j, S2) => match S2[n]? with
        | some (.lst l) => match ixN l.length j with
          | some k => some (env, S2.set n (.lst (l.set k d)))
          | none => none
        | _ => none
      | _ => none
    | _ => none
def asgTs (G : Gb) : List Tg → List D → EnvD → Sto → Option (EnvD × Sto)
  | [], [], env, S => some (env, S)
  | t :: ts, d :: ds, env, S => match asgT G t d env S with
    | none => none
    | some (env1, S1) => asgTs G ts ds env1 S1
  | _, _, _, _ => none
def forLoop (gd : Sto → Bool) (bd : D → EnvD → Option EnvD) (body : EnvD → Sto → Option (Fl × EnvD × Sto)) : List D → EnvD → Sto → Option (Fl × EnvD × Sto)
  | [], env, S => if gd S = true then some (.nx, env, S) else none
  | d :: ds, env, S => if gd S = true then match bd d env with
      | none => none
      | some env1 => match body env1 S with
        | none => none
        | some (.nx, env2, S2) => forLoop gd bd body ds env2 S2
        | some (.ct, env2, S2) => forLoop gd bd body ds env2 S2
        | some (.bk, env2, S2) => some (.nx, env2, S2)
        | some (.rt d, env2, S2) => some (.rt d, env2, S2)
    else none
def whileLoop (cd : EnvD → Sto → Option (Bool × Sto)) (body : EnvD → Sto → Option (Fl × EnvD × Sto)) : Nat → EnvD → Sto → Option (Fl × EnvD × Sto)
  | 0, _, _ => none
  | n + 1, env, S => match cd env S with
    | none => none
    | some (false, S1) => some (.nx, env, S1)
    | some (true, S1) => match body env S1 with
      | none => none
      | some (.nx, env2, S2) => whileLoop cd body n env2 S2
      | some (.ct, env2, S2) => whileLoop cd body n env2 S2
      | some (.bk, env2, S2) => some (.nx, env2, S2)
      | some (.rt d, env2, S2) => some (.rt d, env2, S2)
def cond (G : Gb) (c : E) (env : EnvD) (S : Sto) : Option (Bool × Sto) := match ev G c env S with
  | none => none
  | some (x, S1) => match truth S1 x with
    | none => none
    | some t => some (t, S1)
mutual
def ex (G : Gb) (w : Nat) : T → EnvD → Sto → Option (Fl × EnvD × Sto)
  | .asg t e, env, S => match ev G e env S with
    | none => none
    | some (d, S1) => match asgT G t d env S1 with
      | none => none
      | some (env1, S2) => some (.nx, env1, S2)
  | .tup ts e, env, S => match ev G e env S with
    | some (.tup l, S1) => match asgTs G ts l env S1 with
      | none => none
      | some (env1, S2) => some (.nx, env1, S2)
    | _ => none
  | .par is es, env, S => match evs G es env S with
    | none => none
    | some (ds, S1) => match setAll is ds env with
      | none => none
      | some env1 => some (.nx, env1, S1)
  | .aug i op e, env, S => match env[i]? with
    | some (some (.int x)) => match ev G e env S with
      | some (.int y, S1) => match ibop op x y with
        | some z => some (.nx, env.set i (some (.int z)), S1)
        | none => none
      | _ => none
    | _ => none
  | .expr e, env, S => match ev G e env S with
    | none => none
    | some (_, S1) => some (.nx, env, S1)
  | .ret e, env, S => match ev G e env S with
    | none => none
    | some (d, S1) => some (.rt d, env, S1)
  | .retN, env, S => some (.rt .non, env, S)
  | .pass, env, S => some (.nx, env, S)
  | .brk, env, S => some (.bk, env, S)
  | .cont, env, S => some (.ct, env, S)
  | .stop, _, _ => none
  | .append o e, env, S => match ev G o env S with
    | some (.ref n, S1) => if isL S1 n = true then match ev G e env S1 with
      | some (d, S2) => match S2[n]? with
        | some (.lst l) => if l.length < sizeLine then some (.nx, env, S2.set n (.lst (l ++ [d]))) else none
        | _ => none
      | none => none
      else none
    | _ => none
  | .update o e, env, S => match ev G o env S with
    | some (.ref n, S1) => if isDc S1 n = true then match ev G e env S1 with
      | some (.ref m, S2) => match S2[n]?, S2[m]? with
        | some (.dct kvs), some (.dct more) => if n ≠ m ∧ kvs.length + more.length ≤ sizeLine then some (.nx, env, S2.set n (.dct (putAll kvs more))) else none
        | _, _ => none
      | _ => none
      else none
    | _ => none
  | .ife c a b, env, S => match cond G c env S with
    | none => none
    | some (true, S1) => exs G w a env S1
    | some (false, S1) => exs G w b env S1
  | .for' tg one k its body, env, S => match evs G its env S with
    | none => none
    | some (as, S1) => match itemsOf S1 k as with
      | none => none
      | some (ds, gd) => forLoop gd (bindT tg one) (exs G w body) ds env S1
  | .while' c body, env, S => whileLoop (cond G c) (exs G w body) w env S
def exs (G : Gb) (w : Nat) : List T → EnvD → Sto → Option (Fl × EnvD × Sto)
  | [], env, S => some (.nx, env, S)
  | t :: ts, env, S => match ex G w t env S with
    | none => none
    | some (.nx, env1, S1) => exs G w ts env1 S1
    | some r => some r
end
/-- a def: how many slots, its parameters, its body -/
structure Df where
  ps : List Str
  n : Nat
  body : List T
def startD (d : Df) (as : List D) : EnvD := as.map some ++ List.replicate (d.n - as.length) none
def callN (df : Str → Option Df) (glb : Str → Option D) (w : Nat) : Nat → CallF
  | 0, _, _, _ => none
  | k + 1, f, as, S => match df f with
    | none => none
    | some d => if as.length = d.ps.length then match exs ⟨callN df glb w k, glb⟩ w d.body (startD d as) S with
        | some (.rt r, _, S1) => some (r, S1)
        | some (.nx, _, S1) => some (.non, S1)
        | _ => none
      else none
end Ev

/-! what the evaluator tells is what is done: operations by values -/
namespace Ev
open PySem PySem.Spec PyProof.Rows L2
section
variable {X : Cx}
theorem PEw {e : Expr} {t t' : TE} (h : PE X e t) (k : ∀ st H Q, t' st H Q → t st H Q) : PE X e t' := ⟨fun pins s st H Q I q => h.run pins s st H Q I (k st H Q q)⟩
theorem PTw {e : Expr} {t t' : TT} (h : PT X e t) (k : ∀ st H Q, t' st H Q → t st H Q) : PT X e t' := ⟨fun pins s st H Q I q => h.run pins s st H Q I (k st H Q q)⟩
theorem PWw {e : Expr} {t t' : TT} (h : PW X e t) (k : ∀ st H Q, t' st H Q → t st H Q) : PW X e t' := ⟨fun w pins s st H Q I q => h.run w pins s st H Q I (k st H Q q)⟩
theorem PAw {e : List Expr} {t t' : TA} (h : PA X e t) (k : ∀ st H Q, t' st H Q → t st H Q) : PA X e t' := ⟨fun pos pins s st H Q I q => h.run pos pins s st H Q I (k st H Q q)⟩
theorem PSw {e : Stmt} {t t' : TS} (h : PS X e t) (k : ∀ D st H, t' D st H → t D st H) : PS X e t' := ⟨fun pins s st H D I q => h.run pins s st H D I (k D st H q)⟩
theorem PSsw {e : List Stmt} {t t' : TS} (h : PSs X e t) (k : ∀ D st H, t' D st H → t D st H) : PSs X e t' := ⟨fun pins s st H D I q => h.run pins s st H D I (k D st H q)⟩
theorem OpRw {f : Value → Value → Sem Value} {r r' : R2} (h : OpR X f r) (k : ∀ x y H Q, r' x y H Q → r x y H Q) : OpR X f r' := fun pins s st H x y v u Q I rx ry q => h pins s st H x y v u Q I rx ry (k x y H Q q)
theorem OpRno {f : Value → Value → Sem Value} {r : R2} (k : ∀ x y H Q, ¬ r x y H Q) : OpR X f r := fun pins s st H x y v u Q I rx ry q => (k _ _ _ _ q).elim
theorem CallRw {f : Value} {r r' : List V → Hp → VK → Prop} (h : CallR X f r) (k : ∀ x H Q, r' x H Q → r x H Q) : CallR X f r' := fun pins s st H x v Q I rx q => h pins s st H x v Q I rx (k x H Q q)
theorem IxRw {r r' : R2} (h : IxR X r) (k : ∀ x y H Q, r' x y H Q → r x y H Q) : IxR X r' := fun a b pins s st H x y v u Q I rx ry q hs => h a b pins s st H x y v u Q I rx ry (k x y H Q q) hs
theorem SlRw {r r' : V → Option Int → Option Int → Hp → VK → Prop} (h : SlR X r) (k : ∀ x a b H Q, r' x a b H Q → r x a b H Q) : SlR X r' := fun pins s st H x v vl vu lo hi sl Q I rx hs pl pu q => h pins s st H x v vl vu lo hi sl Q I rx hs pl pu (k x lo hi H Q q)
end

/-! ### data -/
section
variable {F : Fx} {io : List Addr} {H : Hp} {S : Sto}
mutual
theorem Rep.dp : ∀ (d : D) (v : V) (p : PyData), py d = some p → Rep F io H d v → Dp F.K H v p
  | .non, _, _, e, h => by cases h; simp only [py, Option.some.injEq] at e; subst e; exact .non
  | .bl b, _, _, e, h => by cases h; simp only [py, Option.some.injEq] at e; subst e; exact .bl b
  | .int b, _, _, e, h => by cases h; simp only [py, Option.some.injEq] at e; subst e; exact .int b
  | .str b, _, _, e, h => by cases h; simp only [py, Option.some.injEq] at e; subst e; exact .str b
  | .ty _, _, _, e, _ => by simp [py] at e
  | .fn _, _, _, e, _ => by simp [py] at e
  | .ref _, _, _, e, _ => by simp [py] at e
  | .tup l, _, _, e, h => by
    simp only [py, Option.map_eq_some_iff] at e
    obtain ⟨ps, e1, e2⟩ := e
    subst e2
    cases h with
    | tup s r => exact .tup s (Reps.dp l _ ps e1 r)
  | .lst l, _, _, e, h => by
    simp only [py, Option.map_eq_some_iff] at e
    obtain ⟨ps, e1, e2⟩ := e
    subst e2
    cases h with
    | lst n m s r => exact .lst (.inl (.inl s)) (Reps.dp l _ ps e1 r)
  | .rls l, _, _, e, h => by
    simp only [py, Option.map_eq_some_iff] at e
    obtain ⟨ps, e1, e2⟩ := e
    subst e2
    cases h with
    | rlsF s r => exact .lst (.inl (.inr ⟨_, s⟩)) (Reps.dp l _ ps e1 r)
    | rlsK s r => exact .lst (.inr s) (Reps.dp l _ ps e1 r)
theorem Reps.dp : ∀ (ds : List D) (vs : List V) (ps : List PyData), pys ds = some ps → Reps F io H ds vs → DpAll F.K H vs ps
  | [], _, _, e, h => by cases h; simp only [pys, Option.some.injEq] at e; subst e; exact .nil
  | d :: ds, _, _, e, h => by
    simp only [pys] at e
    obtain ⟨p, e1, e2⟩ := Option.bind_eq_some_iff.mp e
    obtain ⟨ps, e3, e4⟩ := Option.map_eq_some_iff.mp e2
    subst e4
    cases h with
    | cons a b => exact .cons (Rep.dp d _ p e1 a) (Reps.dp ds _ ps e3 b)
end
theorem StOK.lst_at (k : StOK F io H S) {n : Nat} {a : Addr} {l : List D} (h1 : io[n]? = some a) (h2 : S[n]? = some (.lst l)) : ∃ xs, H a = some (.lst xs) ∧ Reps F io H l xs := k.at_ n a _ h1 h2
theorem der_dp (k : StOK F io H S) {d : D} {v : V} {p : PyData} (e : py (der S d) = some p) (r : Rep F io H d v) : Dp F.K H v p := by
  cases d with
  | ref n =>
    cases r with
    | ref h =>
      simp only [der] at e
      cases q : S[n]? with
      | none => rw [q] at e; simp [py] at e
      | some m =>
        cases m with
        | dct l => rw [q] at e; simp [py] at e
        | lst l =>
          rw [q] at e
          simp only [py, Option.map_eq_some_iff] at e
          obtain ⟨ps, e1, e2⟩ := e
          subst e2
          obtain ⟨xs, h1, h2⟩ := k.lst_at h q
          exact .lst (.inl (.inl h1)) (Reps.dp l _ ps e1 h2)
  | _ => exact Rep.dp _ _ _ e r
/-- a list or a tuple, by its items -/
theorem seq_of (k : StOK F io H S) {d : D} {v : V} {b : Bool} {l : List D} (e : seqOf S d = some (b, l)) (r : Rep F io H d v) :
    ∃ a xs, v = .ref a ∧ Reps F io H l xs ∧ ((b = true ∧ SqT F.K H a xs) ∨ (b = false ∧ SqL F.K H a xs)) := by
  cases d with
  | tup l' =>
    simp only [seqOf, Option.some.injEq, Prod.mk.injEq] at e
    obtain ⟨rfl, rfl⟩ := e
    cases r with
    | tup s r => exact ⟨_, _, rfl, r, .inl ⟨rfl, s⟩⟩
  | lst l' =>
    simp only [seqOf, Option.some.injEq, Prod.mk.injEq] at e
    obtain ⟨rfl, rfl⟩ := e
    cases r with
    | lst n m s r => exact ⟨_, _, rfl, r, .inr ⟨rfl, .inl (.inl s)⟩⟩
  | rls l' =>
    simp only [seqOf, Option.some.injEq, Prod.mk.injEq] at e
    obtain ⟨rfl, rfl⟩ := e
    cases r with
    | rlsF s r => exact ⟨_, _, rfl, r, .inr ⟨rfl, .inl (.inr ⟨_, s⟩)⟩⟩
    | rlsK s r => exact ⟨_, _, rfl, r, .inr ⟨rfl, .inr s⟩⟩
  | ref n =>
    cases r with
    | ref h =>
      simp only [seqOf] at e
      cases q : S[n]? with
      | none => rw [q] at e; cases e
      | some m =>
        rw [q] at e
        cases m with
        | dct l => cases e
        | lst l2 =>
          simp only [Option.some.injEq, Prod.mk.injEq] at e
          obtain ⟨rfl, rfl⟩ := e
          obtain ⟨xs, h1, h2⟩ := k.lst_at h q
          exact ⟨_, _, rfl, h2, .inr ⟨rfl, .inl (.inl h1)⟩⟩
  | _ => simp [seqOf] at e
theorem Reps.isEmpty {ds : List D} {vs : List V} (r : Reps F io H ds vs) : ds.isEmpty = vs.isEmpty := by
  cases r <;> rfl
theorem truth_ok (k : StOK F io H S) {d : D} {v : V} {t : Bool} (e : truth S d = some t) (r : Rep F io H d v) : TruV F.K v H t := by
  cases d with
  | non => cases r; simp only [truth, Option.some.injEq] at e; exact e.symm
  | bl b => cases r; simp only [truth, Option.some.injEq] at e; exact e.symm
  | int b => cases r; simp only [truth, Option.some.injEq] at e; exact e.symm
  | str x =>
    cases r
    simp only [truth] at e
    split at e
    · rename_i hz
      exact ⟨hz, (Option.some.inj e).symm⟩
    · cases e
  | tup l =>
    simp only [truth, Option.some.injEq] at e
    obtain ⟨a, xs, rfl, r2, q⟩ := seq_of k (d := .tup l) (b := true) (l := l) rfl r
    rcases q with ⟨_, q⟩ | ⟨q, _⟩
    · exact .inr (.inl ⟨xs, q, by rw [← r2.isEmpty]; exact e.symm⟩)
    · cases q
  | lst l =>
    simp only [truth, Option.some.injEq] at e
    obtain ⟨a, xs, rfl, r2, q⟩ := seq_of k (d := .lst l) (b := false) (l := l) rfl r
    rcases q with ⟨q, _⟩ | ⟨_, q⟩
    · cases q
    · exact .inl ⟨xs, q, by rw [← r2.isEmpty]; exact e.symm⟩
  | rls l =>
    simp only [truth, Option.some.injEq] at e
    obtain ⟨a, xs, rfl, r2, q⟩ := seq_of k (d := .rls l) (b := false) (l := l) rfl r
    rcases q with ⟨q, _⟩ | ⟨_, q⟩
    · cases q
    · exact .inl ⟨xs, q, by rw [← r2.isEmpty]; exact e.symm⟩
  | ref n =>
    simp only [truth] at e
    cases q : S[n]? with
    | none => rw [q] at e; cases e
    | some m =>
      rw [q] at e
      cases m with
      | dct l => cases e
      | lst l =>
        simp only [Option.some.injEq] at e
        obtain ⟨a, xs, rfl, r2, q⟩ := seq_of k (d := .ref n) (b := false) (l := l) (by simp [seqOf, q]) r
        rcases q with ⟨q, _⟩ | ⟨_, q⟩
        · cases q
        · exact .inl ⟨xs, q, by rw [← r2.isEmpty]; exact e.symm⟩
  | _ => simp [truth] at e
end

/-! ### two-place operations -/
section
variable {X : Cx} {F : Fx}
/-- by values, for what the evaluator tells -/
def rB (F : Fx) (f : D → D → Option D) : R2 := fun x y H Q => ∃ io S a b d, StOK F io H S ∧ Rep F io H a x ∧ Rep F io H b y ∧ f a b = some d ∧ ∀ io' H' v, Grow F io H io' H' → StOK F io' H' S → Rep F io' H' d v → Q v H'
def rC (F : Fx) (f : Sto → D → D → Option Bool) : R2 := fun x y H Q => ∃ io S a b t, StOK F io H S ∧ Rep F io H a x ∧ Rep F io H b y ∧ f S a b = some t ∧ Q (.bl t) H
theorem int_case {op : Operator} {C : Int → Int → Prop} {g : Int → Int → Int} (h : OpR X (binaryOp op) (rI C fun i j => .int (g i j))) (he : ∀ i j z, ibop op i j = some z → C i j ∧ z = g i j)
    (hno : ∀ a b d, bop op a b = some d → ∃ i j, a = .int i ∧ b = .int j) : OpR X (binaryOp op) (rB F (bop op)) := by
  refine OpRw h fun x y H Q q => ?_
  obtain ⟨io, S, a, b, d, so, ra, rb, e, k⟩ := q
  obtain ⟨i, j, rfl, rfl⟩ := hno a b d e
  cases ra
  cases rb
  simp only [bop, Option.map_eq_some_iff] at e
  obtain ⟨z, e1, rfl⟩ := e
  obtain ⟨c, rfl⟩ := he i j z e1
  exact ⟨i, j, rfl, rfl, c, k io H _ (Grow.refl _ _) so (.int _)⟩
theorem of_rI0 {f : Value → Value → Sem Value} {g : Int → Int → V} (h : OpR X f (rI0 g)) : OpR X f (rI (fun _ _ => True) g) := OpRw h fun x y H Q ⟨i, j, e1, e2, _, q⟩ => ⟨i, j, e1, e2, q⟩
theorem only_ints {op : Operator} (h : op ≠ .Add ∧ op ≠ .Mult) (a b d : D) (e : bop op a b = some d) : ∃ i j, a = .int i ∧ b = .int j := by
  cases a <;> cases b <;> first
    | exact ⟨_, _, rfl, rfl⟩
    | (simp only [bop] at e; cases e; done)
    | (exfalso; simp only [bop] at e; split at e; exact h.1 rfl; cases e)
    | (exfalso; simp only [bop] at e; split at e; exact h.2 rfl; cases e)
theorem Reps.rep {io : List Addr} {H : Hp} {ds : List D} {vs : List V} (r : Reps F io H ds vs) : ∀ n : Nat, Reps F io H (List.replicate n ds).flatten (List.replicate n vs).flatten
  | 0 => .nil
  | n + 1 => by
    rw [List.replicate_succ, List.replicate_succ, List.flatten_cons, List.flatten_cons]
    exact r.app (Reps.rep r n)
theorem opB (hK : X.K = F.K) (op : Operator) : OpR X (binaryOp op) (rB F (bop op)) := by
  cases op with
  | Add =>
    refine OpRw (op_add.or (op_add_str.or (op_catA.or op_cat))) fun x y H Q q => ?_
    obtain ⟨io, S, a, b, d, so, ra, rb, e, k⟩ := q
    cases a <;> cases b <;> try (simp only [bop] at e; cases e; done)
    · cases ra; cases rb
      simp only [bop, ibop, Option.map_some, Option.some.injEq] at e
      subst e
      exact .inl ⟨_, _, rfl, rfl, k io H _ (Grow.refl _ _) so (.int _)⟩
    · cases ra; cases rb
      simp only [bop] at e
      split at e
      · rename_i hz
        cases e
        exact .inr (.inl ⟨_, _, rfl, rfl, hz, k io H _ (Grow.refl _ _) so (.str _)⟩)
      · cases e
    · cases ra with
      | tup s1 r1 =>
        cases rb with
        | tup s2 r2 =>
          simp only [bop] at e
          split at e
          · rename_i hz
            cases e
            rw [r1.len, r2.len] at hz
            refine .inr (.inr (.inl ⟨_, _, _, _, rfl, rfl, by rw [hK]; exact s1, by rw [hK]; exact s2, hz, fun z => ?_, fun z1 z2 => ?_, fun z1 z2 p hp => ?_⟩))
            · subst z
              cases r1
              exact k io H _ (Grow.refl _ _) so (.tup s2 r2)
            · subst z2
              cases r2
              rw [List.append_nil] at k
              exact k io H _ (Grow.refl _ _) so (.tup s1 r1)
            · exact k io _ _ (grow_new so hp _) (so.new hp _) (.tup (.inl (.inl upd_same)) ((r1.up (grow_new so hp _)).app (r2.up (grow_new so hp _))))
          · cases e
    · cases ra with
      | lst n1 m1 s1 r1 =>
        cases rb with
        | lst n2 m2 s2 r2 =>
          simp only [bop] at e
          split at e
          · rename_i hz
            cases e
            rw [r1.len, r2.len] at hz
            refine .inr (.inr (.inr ⟨_, _, _, _, rfl, rfl, s1, s2, hz, fun p hp => ?_⟩))
            exact k io _ _ (grow_new so hp _) (so.new hp _) (.lst (so.fresh hp) (so.nlk hp) upd_same ((r1.up (grow_new so hp _)).app (r2.up (grow_new so hp _))))
          · cases e
  | Sub => exact int_case (of_rI0 op_sub) (fun i j z e => by simp only [ibop, Option.some.injEq] at e; exact ⟨trivial, e.symm⟩) (only_ints ⟨by decide, by decide⟩)
  | Mult =>
    refine OpRw (op_mul.or op_repT) fun x y H Q q => ?_
    obtain ⟨io, S, a, b, d, so, ra, rb, e, k⟩ := q
    cases a <;> cases b <;> try (simp only [bop] at e; cases e; done)
    · cases ra
      cases rb
      simp only [bop, ibop, Option.map_eq_some_iff] at e
      obtain ⟨z, e1, rfl⟩ := e
      split at e1
      · rename_i hc
        cases e1
        exact .inl ⟨_, _, rfl, rfl, hc, k io H _ (Grow.refl _ _) so (.int _)⟩
      · cases e1
    · cases ra with
      | tup s1 r1 =>
        cases rb
        rename_i xs kk p ys
        simp only [bop] at e
        split at e
        · rename_i hc
          cases e
          have hne : ys ≠ [] := fun z => by
            subst z
            cases r1
            exact hc.1 rfl
          refine .inr ⟨p, kk, ys, rfl, rfl, by rw [hK]; exact s1, hne, hc.2.1, hc.2.2.1, by rw [← r1.len]; exact hc.2.2.2, fun q hq => ?_⟩
          exact k io _ _ (grow_new so hq _) (so.new hq _) (.tup (.inl (.inl upd_same)) ((Reps.rep r1 kk.toNat).up (grow_new so hq _)))
        · cases e
  | FloorDiv => exact int_case op_fdiv (fun i j z e => by
      simp only [ibop] at e
      split at e
      · rename_i hc
        exact ⟨hc, (Option.some.inj e).symm⟩
      · cases e) (only_ints ⟨by decide, by decide⟩)
  | Mod => exact int_case op_mod (fun i j z e => by
      simp only [ibop] at e
      split at e
      · rename_i hc
        exact ⟨hc, (Option.some.inj e).symm⟩
      · cases e) (only_ints ⟨by decide, by decide⟩)
  | Pow => exact int_case op_pow (fun i j z e => by
      simp only [ibop] at e
      split at e
      · rename_i hc
        exact ⟨hc, (Option.some.inj e).symm⟩
      · cases e) (only_ints ⟨by decide, by decide⟩)
  | LShift => exact int_case op_shl (fun i j z e => by
      simp only [ibop] at e
      split at e
      · rename_i hc
        exact ⟨hc, (Option.some.inj e).symm⟩
      · cases e) (only_ints ⟨by decide, by decide⟩)
  | RShift => exact int_case op_shr (fun i j z e => by
      simp only [ibop] at e
      split at e
      · rename_i hc
        exact ⟨hc, (Option.some.inj e).symm⟩
      · cases e) (only_ints ⟨by decide, by decide⟩)
  | BitAnd => exact int_case (of_rI0 op_and) (fun i j z e => by simp only [ibop, Option.some.injEq] at e; exact ⟨trivial, e.symm⟩) (only_ints ⟨by decide, by decide⟩)
  | BitOr => exact int_case (of_rI0 op_or) (fun i j z e => by simp only [ibop, Option.some.injEq] at e; exact ⟨trivial, e.symm⟩) (only_ints ⟨by decide, by decide⟩)
  | BitXor => exact int_case (of_rI0 op_xor) (fun i j z e => by simp only [ibop, Option.some.injEq] at e; exact ⟨trivial, e.symm⟩) (only_ints ⟨by decide, by decide⟩)
  | Div =>
    refine OpRno fun x y H Q q => ?_
    obtain ⟨io, S, a, b, d, so, ra, rb, e, k⟩ := q
    obtain ⟨i, j, rfl, rfl⟩ := only_ints ⟨by decide, by decide⟩ a b d e
    simp [bop, ibop] at e
  | MatMult =>
    refine OpRno fun x y H Q q => ?_
    obtain ⟨io, S, a, b, d, so, ra, rb, e, k⟩ := q
    obtain ⟨i, j, rfl, rfl⟩ := only_ints ⟨by decide, by decide⟩ a b d e
    simp [bop, ibop] at e
theorem refL_ok {io : List Addr} {H : Hp} {S : Sto} (so : StOK F io H S) {d : D} {v : V} {l : List D} (e : refL S d = some l) (r : Rep F io H d v) : ∃ a xs, v = .ref a ∧ H a = some (.lst xs) ∧ Reps F io H l xs := by
  cases d <;> simp only [refL] at e <;> try (cases e; done)
  · cases e
    cases r with
    | lst n m s rs => exact ⟨_, _, rfl, s, rs⟩
  · split at e
    · rename_i l2 q
      cases e
      cases r with
      | ref hn =>
        obtain ⟨xs, h0, h1⟩ := so.lst_at hn q
        exact ⟨_, xs, rfl, h0, h1⟩
    · cases e
def rBS (F : Fx) (op : Operator) : R2 := fun x y H Q => ∃ io S a b d, StOK F io H S ∧ Rep F io H a x ∧ Rep F io H b y ∧ binS S op a b = some d ∧ ∀ io' H' v, Grow F io H io' H' → StOK F io' H' S → Rep F io' H' d v → Q v H'
theorem opBS (hK : X.K = F.K) (op : Operator) : OpR X (binaryOp op) (rBS F op) := by
  by_cases h : op = .Add
  · subst h
    refine OpRw ((opB (F := F) hK .Add).or op_cat) fun x y H Q q => ?_
    obtain ⟨io, S, a, b, d, so, ra, rb, e, k⟩ := q
    unfold binS at e
    split at e
    · rename_i d' q1
      cases e
      exact .inl ⟨io, S, a, b, _, so, ra, rb, q1, k⟩
    · simp only [catS] at e
      split at e
      · rename_i l m q1 q2
        split at e
        · rename_i hz
          cases e
          obtain ⟨p1, xs, rfl, s1, r1⟩ := refL_ok so q1 ra
          obtain ⟨p2, ys, rfl, s2, r2⟩ := refL_ok so q2 rb
          rw [r1.len, r2.len] at hz
          refine .inr ⟨_, _, _, _, rfl, rfl, s1, s2, hz, fun p hp => ?_⟩
          exact k io _ _ (grow_new so hp _) (so.new hp _) (.lst (so.fresh hp) (so.nlk hp) upd_same ((r1.up (grow_new so hp _)).app (r2.up (grow_new so hp _))))
        · cases e
      · cases e
  · refine OpRw (opB (F := F) hK op) fun x y H Q q => ?_
    obtain ⟨io, S, a, b, d, so, ra, rb, e, k⟩ := q
    unfold binS at e
    split at e
    · rename_i d' q1
      cases e
      exact ⟨io, S, a, b, _, so, ra, rb, q1, k⟩
    · unfold catS at e
      split at e
      · exact absurd rfl h
      · cases e
theorem scal_ok {io : List Addr} {H : Hp} {a b : D} {x y : V} {t : Bool} (e : scalEq a b = some t) (ra : Rep F io H a x) (rb : Rep F io H b y) : scal x y = true ∧ decide (x = y) = t := by
  cases a <;> cases b <;> first
    | (simp only [scalEq] at e; cases e; done)
    | (cases ra; cases rb; simp only [scalEq, Option.some.injEq] at e; subst e; exact ⟨rfl, by simp⟩)
theorem int_lt {op : CmpOp} {g : Int → Int → Bool} (h : OpR X (compareOp op) (rI0 fun i j => .bl (g i j))) : OpR X (compareOp op) (rC F fun _ a b => intLt g a b) := by
  refine OpRw h fun x y H Q q => ?_
  obtain ⟨io, S, a, b, t, so, ra, rb, e, k⟩ := q
  cases a <;> cases b <;> try (simp only [intLt] at e; cases e; done)
  cases ra; cases rb
  simp only [intLt, Option.some.injEq] at e
  subst e
  exact ⟨_, _, rfl, rfl, k⟩
theorem flat_ok {io : List Addr} {H : Hp} {a : D} {x : V} (ra : Rep F io H a x) (h : flatD a = true) : flatV x = true := by
  cases a <;> first
    | (cases ra; rfl)
    | (simp [flatD] at h)
theorem flatEq_ok {io : List Addr} {H : Hp} {a b : D} {x y : V} (ra : Rep F io H a x) (rb : Rep F io H b y) (h : flatD a = true) (h' : flatD b = true) : flatEq a b = eqV x y := by
  cases a <;> cases b <;> first
    | (simp [flatD] at h; done)
    | (simp [flatD] at h'; done)
    | (cases ra; cases rb; rfl)
theorem flats_ok {io : List Addr} {H : Hp} : ∀ {l : List D} {xs : List V}, Reps F io H l xs → l.all flatD = true → xs.all flatV = true
  | _, _, .nil, _ => rfl
  | _, _, .cons r t, h => by
    simp only [List.all_cons, Bool.and_eq_true] at h ⊢
    exact ⟨flat_ok r h.1, flats_ok t h.2⟩
theorem any_ok {io : List Addr} {H : Hp} {a : D} {x : V} (ra : Rep F io H a x) (ha : flatD a = true) : ∀ {l : List D} {xs : List V}, Reps F io H l xs → l.all flatD = true → (l.any fun y => flatEq y a) = inV x xs
  | _, _, .nil, _ => rfl
  | _, _, .cons r t, h => by
    simp only [List.all_cons, Bool.and_eq_true] at h
    have ih := any_ok ra ha t h.2
    unfold inV at ih ⊢
    rw [List.any_cons, List.any_cons, ih, flatEq_ok r ra h.1 ha]
theorem din_ok {io : List Addr} {H : Hp} {S : Sto} {a b : D} {x y : V} {t : Bool} (so : StOK F io H S) (e : din S a b = some t) (ra : Rep F io H a x) (rb : Rep F io H b y) :
    (∃ i j, x = .str i ∧ y = .str j ∧ t = !(Builtin.Str.occurrences j i 0 j.length 1).isEmpty) ∨ (∃ p xs, y = .ref p ∧ (SqL F.K H p xs ∨ SqT F.K H p xs) ∧ flatV x = true ∧ xs.all flatV = true ∧ t = inV x xs) := by
  have other : ∀ {b' l}, seqOf S b = some (b', l) → (if flatD a = true ∧ l.all flatD = true then some (l.any fun y => flatEq y a) else none) = some t → (∃ p xs, y = .ref p ∧ (SqL F.K H p xs ∨ SqT F.K H p xs) ∧ flatV x = true ∧ xs.all flatV = true ∧ t = inV x xs) := by
    intro b' l es e
    split at e
    · rename_i hc
      cases e
      obtain ⟨p, xs, rfl, r2, q⟩ := seq_of so es rb
      refine ⟨p, xs, rfl, ?_, flat_ok ra hc.1, flats_ok r2 hc.2, any_ok ra hc.1 r2 hc.2⟩
      rcases q with ⟨_, q⟩ | ⟨_, q⟩
      · exact .inr q
      · exact .inl q
    · cases e
  cases b with
  | str z =>
    cases a with
    | str z2 =>
      simp only [din, Option.some.injEq] at e
      cases ra; cases rb
      exact .inl ⟨_, _, rfl, rfl, e.symm⟩
    | _ => simp [din] at e
  | _ =>
    refine .inr ?_
    simp only [din] at e
    split at e
    · rename_i es
      exact other es e
    · cases e
theorem opC (hK : X.K = F.K) (hu : X.A.units + 64 < cLine) (op : CmpOp) : OpR X (compareOp op) (rC F fun S => cop S op) := by
  cases op with
  | Eq =>
    refine OpRw (op_eq.or (op_eqD hu)) fun x y H Q q => ?_
    obtain ⟨io, S, a, b, t, so, ra, rb, e, k⟩ := q
    simp only [cop, deq] at e
    split at e
    · rename_i r es
      cases e
      obtain ⟨h1, h2⟩ := scal_ok es ra rb
      exact .inl ⟨h1, by rw [h2]; exact k⟩
    · rename_i es
      unfold dataEq at e
      split at e
      · rename_i p q ep eq
        split at e
        · rename_i hs
          cases e
          exact .inr ⟨p, q, by rw [hK]; exact der_dp so ep ra, by rw [hK]; exact der_dp so eq rb, hs.1, hs.2, k⟩
        · cases e
      · cases e
  | NotEq =>
    refine OpRw (op_ne.or (op_neD hu)) fun x y H Q q => ?_
    obtain ⟨io, S, a, b, t, so, ra, rb, e, k⟩ := q
    simp only [cop, Option.map_eq_some_iff] at e
    obtain ⟨t1, e, rfl⟩ := e
    simp only [deq] at e
    split at e
    · rename_i r es
      cases e
      obtain ⟨h1, h2⟩ := scal_ok es ra rb
      exact .inl ⟨h1, by rw [h2]; exact k⟩
    · rename_i es
      unfold dataEq at e
      split at e
      · rename_i p q ep eq
        split at e
        · rename_i hs
          cases e
          exact .inr ⟨p, q, by rw [hK]; exact der_dp so ep ra, by rw [hK]; exact der_dp so eq rb, hs.1, hs.2, k⟩
        · cases e
      · cases e
  | Lt => exact int_lt op_lt
  | LtE => exact int_lt op_le
  | Gt => exact int_lt op_gt
  | GtE => exact int_lt op_ge
  | Is =>
    refine OpRw (op_isN.or op_isBl) fun x y H Q q => ?_
    obtain ⟨io, S, a, b, t, so, ra, rb, e, k⟩ := q
    cases b <;> try (simp only [cop] at e; cases e; done)
    · left
      cases rb
      simp only [cop, Option.some.injEq] at e
      refine ⟨rfl, ?_⟩
      have e2 : decide (x = V.non) = t := by
        subst e
        cases a <;> (cases ra <;> simp [isNon])
      rw [e2]; exact k
    · right
      cases a <;> try (simp only [cop] at e; cases e; done)
      cases ra
      cases rb
      simp only [cop, Option.some.injEq] at e
      subst e
      exact ⟨_, _, rfl, rfl, k⟩
  | IsNot =>
    refine OpRw op_notN fun x y H Q q => ?_
    obtain ⟨io, S, a, b, t, so, ra, rb, e, k⟩ := q
    cases b <;> try (simp only [cop] at e; cases e; done)
    cases rb
    simp only [cop, Option.some.injEq] at e
    refine ⟨rfl, ?_⟩
    have e2 : (!decide (x = V.non)) = t := by
      subst e
      cases a <;> (cases ra <;> simp [isNon])
    rw [e2]; exact k
  | In =>
    refine OpRw (op_in_str.or op_in_seq) fun x y H Q q => ?_
    obtain ⟨io, S, a, b, t, so, ra, rb, e, k⟩ := q
    rcases din_ok so e ra rb with ⟨i, j, rfl, rfl, rfl⟩ | ⟨p, xs, rfl, h1, h2, h3, rfl⟩
    · exact .inl ⟨i, j, rfl, rfl, k⟩
    · exact .inr ⟨p, xs, rfl, by rw [hK]; exact h1, h2, h3, k⟩
  | NotIn =>
    refine OpRw (op_notin_str.or op_notIn_seq) fun x y H Q q => ?_
    obtain ⟨io, S, a, b, t, so, ra, rb, e, k⟩ := q
    simp only [cop, Option.map_eq_some_iff] at e
    obtain ⟨t1, e, rfl⟩ := e
    rcases din_ok so e ra rb with ⟨i, j, rfl, rfl, rfl⟩ | ⟨p, xs, rfl, h1, h2, h3, rfl⟩
    · exact .inl ⟨i, j, rfl, rfl, k⟩
    · exact .inr ⟨p, xs, rfl, by rw [hK]; exact h1, h2, h3, k⟩
end
end Ev

namespace Ev
open PySem PySem.Spec PyProof.Rows L2

/-! ### built-ins by values -/
section
variable {X : Cx} {F : Fx}
def rBf (F : Fx) (f : Bf) : List V → Hp → VK → Prop := fun vs H Q => ∃ io S ds d, StOK F io H S ∧ Reps F io H ds vs ∧ bfun S f ds = some d ∧ ∀ io' H' v, Grow F io H io' H' → StOK F io' H' S → Rep F io' H' d v → Q v H'
theorem Reps.one {io : List Addr} {H : Hp} {d : D} {vs : List V} (r : Reps F io H [d] vs) : ∃ v, vs = [v] ∧ Rep F io H d v := by
  cases r with
  | cons a b => cases b; exact ⟨_, rfl, a⟩
theorem Reps.two {io : List Addr} {H : Hp} {d e : D} {vs : List V} (r : Reps F io H [d, e] vs) : ∃ v u, vs = [v, u] ∧ Rep F io H d v ∧ Rep F io H e u := by
  cases r with
  | cons a b =>
    obtain ⟨u, rfl, q⟩ := b.one
    exact ⟨_, u, rfl, a, q⟩
theorem pys_noDict : ∀ (d : D) (p : PyData), py d = some p → p.hasDict = false := by
  intro d
  refine D.rec (motive_1 := fun d => ∀ p, py d = some p → p.hasDict = false) (motive_2 := fun l => ∀ ps, pys l = some ps → PyData.hasDictAll ps = false) ?_ ?_ ?_ ?_ ?_ ?_ ?_ ?_ ?_ ?_ ?_ ?_ d
  · intro p e; simp only [py, Option.some.injEq] at e; subst e; rfl
  · intro b p e; simp only [py, Option.some.injEq] at e; subst e; rfl
  · intro b p e; simp only [py, Option.some.injEq] at e; subst e; rfl
  · intro b p e; simp only [py, Option.some.injEq] at e; subst e; rfl
  · intro b p e; simp [py] at e
  · intro b p e; simp [py] at e
  · intro l ih p e
    simp only [py, Option.map_eq_some_iff] at e
    obtain ⟨ps, e1, rfl⟩ := e
    simp only [PyData.hasDict]
    exact ih ps e1
  · intro l ih p e
    simp only [py, Option.map_eq_some_iff] at e
    obtain ⟨ps, e1, rfl⟩ := e
    simp only [PyData.hasDict]
    exact ih ps e1
  · intro l ih p e
    simp only [py, Option.map_eq_some_iff] at e
    obtain ⟨ps, e1, rfl⟩ := e
    simp only [PyData.hasDict]
    exact ih ps e1
  · intro n p e; simp [py] at e
  · intro ps e; simp only [pys, Option.some.injEq] at e; subst e; rfl
  · intro d ds ih1 ih2 ps e
    simp only [pys] at e
    obtain ⟨p, e1, e2⟩ := Option.bind_eq_some_iff.mp e
    obtain ⟨qs, e3, rfl⟩ := Option.map_eq_some_iff.mp e2
    simp only [PyData.hasDictAll, ih1 p e1, ih2 qs e3, Bool.or_false]
theorem der_seq {S : Sto} {d : D} {b : Bool} {l : List D} (e : seqOf S d = some (b, l)) : py (der S d) = (pys l).map (if b = true then PyData.tuple else PyData.list) := by
  cases d <;> simp only [seqOf] at e <;> first
    | (cases e; done)
    | (simp only [Option.some.injEq, Prod.mk.injEq] at e; obtain ⟨rfl, rfl⟩ := e; rfl)
    | skip
  rename_i n
  cases q : S[n]? with
  | none => rw [q] at e; cases e
  | some m =>
    cases m with
    | dct l => rw [q] at e; cases e
    | lst l2 =>
      rw [q] at e
      simp only [Option.some.injEq, Prod.mk.injEq] at e
      obtain ⟨rfl, rfl⟩ := e
      simp only [der, q]
      rfl
theorem call_repr (hK : X.K = F.K) (hg : X.A.guards = some []) (hu : X.A.units + 64 < cLine) : CallR X (.builtin "repr") (rBf F .repr) := by
  intro pins s st H xs us Q I rs h
  obtain ⟨io, S, ds, d, so, r, e, k⟩ := h
  match ds, e with
  | [], e => simp [bfun] at e
  | _ :: _ :: _, e => simp [bfun] at e
  | [d0], e =>
    simp only [bfun] at e
    split at e
    · rename_i p es
      obtain ⟨b, l⟩ := p
      obtain ⟨v, rfl, rv⟩ := r.one
      obtain ⟨a, zs, rfl, _, _⟩ := seq_of so es rv
      unfold shw at e
      split at e
      · rename_i q ep
        split at e
        · rename_i hc
          cases e
          have dp : Dp X.K H (.ref a) q := by rw [hK]; exact der_dp so ep rv
          cases rs with
          | cons r1 r2 =>
            cases r2
            obtain rfl := r1
            obtain ⟨as, rd⟩ := Dp.reads I q _ _ dp rfl
            have nd : q.hasDict = false := by
              rw [der_seq es] at ep
              obtain ⟨ps, e1, rfl⟩ := Option.map_eq_some_iff.mp ep
              have := pys_noDict (.lst l) (.list ps) (by simp only [py, e1, Option.map_some])
              cases b <;> (simp only [PyData.hasDict] at this ⊢; exact this)
            refine repr_of_reads' rd hc.1 (PyData.noDict_hsm nd) hg (by have := hc.2.2; omega) (fun _ _ z => z) (fun h' u tk hk => ?_) hc.2.1
            exact ⟨.str q.shown, H, I.kept hk, ⟨u, rfl⟩, k io H _ (Grow.refl _ _) so (.str _)⟩
        · cases e
      · cases e
    · cases e
theorem tyX_of {io : List Addr} {H : Hp} {S : Sto} {d : D} {v : V} {t : String} (so : StOK F io H S) (e : tyn S d = some t) (r : Rep F io H d v) : TyX F.K H v (.type t) := by
  cases d <;> simp only [tyn, Option.some.injEq] at e
  · subst e; cases r; exact .base .non
  · subst e; cases r; exact .base (.bl _)
  · subst e; cases r; exact .base (.int _)
  · subst e; cases r; exact .base (.str _)
  · cases e
  · cases e
  · subst e
    cases r with
    | tup s r =>
      rcases s with (s | ⟨o, s⟩) | ⟨o, its, n, h1, h2, _⟩
      · exact .base (.tup s)
      · exact .fTuple s
      · exact .kTuple h1 h2
  · subst e
    cases r with
    | lst n m s r => exact .base (.lst s)
  · subst e
    cases r with
    | rlsF s r => exact .base (.frz s)
    | rlsK s r =>
      obtain ⟨o, its, n, h1, h2, _⟩ := s
      exact .kList h1 h2
  · rename_i n
    cases r with
    | ref h =>
      cases q : S[n]? with
      | none => rw [q] at e; cases e
      | some m =>
        rw [q] at e
        have mo := so.at_ n _ m h q
        cases m with
        | lst l =>
          cases e
          obtain ⟨xs, h1, _⟩ := mo
          exact .base (.lst h1)
        | dct l =>
          cases e
          obtain ⟨xs, h1, _⟩ := mo
          exact .base (.dK h1)
theorem bls_ok {io : List Addr} {H : Hp} : ∀ {l : List D} {xs : List V} {bs : List Bool}, Reps F io H l xs → bls l = some bs → xs = bs.map V.bl
  | _, _, _, .nil, e => by simp only [bls, Option.some.injEq] at e; subst e; rfl
  | _, _, _, .cons (d := d) r t, e => by
    simp only [bls] at e
    obtain ⟨b, e1, e2⟩ := Option.bind_eq_some_iff.mp e
    obtain ⟨bs, e3, rfl⟩ := Option.map_eq_some_iff.mp e2
    have ih := bls_ok t e3
    cases d <;> simp only [toBl, Option.some.injEq] at e1 <;> first
      | (cases e1; done)
      | (subst e1; cases r; rw [ih]; rfl)
/-- a built-in's value -/
def bfv : Bf → Value
  | .int => .type "int"
  | .tuple => .type "tuple"
  | .list => .type "list"
  | .str => .type "str"
  | .len => .builtin "len"
  | .isinstance => .builtin "isinstance"
  | .abs => .builtin "abs"
  | .max => .builtin "max"
  | .min => .builtin "min"
  | .repr => .builtin "repr"
  | .divmod => .builtin "divmod"
  | .all => .builtin "all"
theorem CallRno {f : Value} {r : List V → Hp → VK → Prop} (k : ∀ x H Q, ¬ r x H Q) : CallR X f r := fun pins s st H x v Q I rx q => (k _ _ _ q).elim
theorem len_one {α : Type} {l : List α} (h : l.length = 1) : ∃ a, l = [a] := by
  match l, h with
  | [a], _ => exact ⟨a, rfl⟩
theorem len_two {α : Type} {l : List α} (h : l.length = 2) : ∃ a b, l = [a, b] := by
  match l, h with
  | [a, b], _ => exact ⟨a, b, rfl⟩
theorem ints_ok {io : List Addr} {H : Hp} : ∀ {l : List D} {zs : List V} {ns : List Int}, Reps F io H l zs → toInts l = some ns → zs = ns.map V.int
  | _, _, ns, .nil, e => by simp only [toInts, Option.some.injEq] at e; subst e; rfl
  | _, _, ns, .cons r t, e => by
    simp only [toInts] at e
    obtain ⟨i, e1, e2⟩ := Option.bind_eq_some_iff.mp e
    obtain ⟨ns', e3, rfl⟩ := Option.map_eq_some_iff.mp e2
    rename_i d _ _ _
    cases d <;> simp only [toInt] at e1 <;> try (cases e1; done)
    cases e1
    cases r
    rw [ints_ok t e3, List.map_cons]
theorem mx_fold : ∀ (r : List Int) (x : Int), (r.foldl (fun a b => if b > a then b else a) x = x ∨ r.foldl (fun a b => if b > a then b else a) x ∈ r) ∧ x ≤ r.foldl (fun a b => if b > a then b else a) x ∧ ∀ y ∈ r, y ≤ r.foldl (fun a b => if b > a then b else a) x
  | [], x => ⟨.inl rfl, Int.le_refl _, fun y hy => by cases hy⟩
  | z :: r, x => by
    have ih := mx_fold r (if z > x then z else x)
    simp only [List.foldl_cons]
    obtain ⟨h1, h2, h3⟩ := ih
    refine ⟨?_, ?_, fun y hy => ?_⟩
    · rcases h1 with h1 | h1
      · by_cases hz : z > x
        · rw [if_pos hz] at h1
          rw [if_pos hz, h1]
          exact .inr List.mem_cons_self
        · rw [if_neg hz] at h1
          rw [if_neg hz, h1]
          exact .inl rfl
      · exact .inr (List.mem_cons_of_mem _ h1)
    · split at h2 <;> split <;> omega
    · rcases List.mem_cons.mp hy with rfl | hy
      · split at h2 <;> split <;> omega
      · exact h3 y hy
theorem mn_fold : ∀ (r : List Int) (x : Int), (r.foldl (fun a b => if b < a then b else a) x = x ∨ r.foldl (fun a b => if b < a then b else a) x ∈ r) ∧ r.foldl (fun a b => if b < a then b else a) x ≤ x ∧ ∀ y ∈ r, r.foldl (fun a b => if b < a then b else a) x ≤ y
  | [], x => ⟨.inl rfl, Int.le_refl _, fun y hy => by cases hy⟩
  | z :: r, x => by
    have ih := mn_fold r (if z < x then z else x)
    simp only [List.foldl_cons]
    obtain ⟨h1, h2, h3⟩ := ih
    refine ⟨?_, ?_, fun y hy => ?_⟩
    · rcases h1 with h1 | h1
      · by_cases hz : z < x
        · rw [if_pos hz] at h1
          rw [if_pos hz, h1]
          exact .inr List.mem_cons_self
        · rw [if_neg hz] at h1
          rw [if_neg hz, h1]
          exact .inl rfl
      · exact .inr (List.mem_cons_of_mem _ h1)
    · split at h2 <;> split <;> omega
    · rcases List.mem_cons.mp hy with rfl | hy
      · split at h2 <;> split <;> omega
      · exact h3 y hy
theorem mxI_ok {ns : List Int} {m : Int} (h : mxI ns = some m) : 0 < ns.length ∧ m ∈ ns ∧ ∀ y ∈ ns, y ≤ m := by
  cases ns with
  | nil => cases h
  | cons x r =>
    simp only [mxI, Option.some.injEq] at h
    subst h
    obtain ⟨h1, h2, h3⟩ := mx_fold r x
    refine ⟨by simp, ?_, fun y hy => ?_⟩
    · rcases h1 with h1 | h1
      · rw [h1]
        exact List.mem_cons_self
      · exact List.mem_cons_of_mem _ h1
    · rcases List.mem_cons.mp hy with rfl | hy
      · exact h2
      · exact h3 y hy
theorem mnI_ok {ns : List Int} {m : Int} (h : mnI ns = some m) : 0 < ns.length ∧ m ∈ ns ∧ ∀ y ∈ ns, m ≤ y := by
  cases ns with
  | nil => cases h
  | cons x r =>
    simp only [mnI, Option.some.injEq] at h
    subst h
    obtain ⟨h1, h2, h3⟩ := mn_fold r x
    refine ⟨by simp, ?_, fun y hy => ?_⟩
    · rcases h1 with h1 | h1
      · rw [h1]
        exact List.mem_cons_self
      · exact List.mem_cons_of_mem _ h1
    · rcases List.mem_cons.mp hy with rfl | hy
      · exact h2
      · exact h3 y hy
theorem callB (hK : X.K = F.K) (hc : X.calm = true) (hg : X.A.guards = some []) (hu : X.A.units + 64 < cLine) (f : Bf) : CallR X (bfv f) (rBf F f) := by
  cases f with
  | repr => exact call_repr hK hg hu
  | str =>
    refine CallRno fun x H Q q => ?_
    obtain ⟨io, S, ds, d, so, r, e, k⟩ := q
    simp [bfun] at e
  | len =>
    refine CallRw (call_len_str.or call_len_seq) fun x H Q q => ?_
    obtain ⟨io, S, ds, d, so, r, e, k⟩ := q
    match ds, e with
    | [], e => simp [bfun] at e
    | _ :: _ :: _, e => simp [bfun] at e
    | [d0], e =>
      obtain ⟨v, rfl, rv⟩ := r.one
      have seqc : ∀ p, seqOf S d0 = some p → d = .int p.2.length → (∃ p ys, [v] = [V.ref p] ∧ (SqL X.K H p ys ∨ SqT X.K H p ys) ∧ Q (.int ys.length) H) := by
        intro p es ed
        obtain ⟨b, l⟩ := p
        obtain ⟨a, zs, rfl, r2, q2⟩ := seq_of so es rv
        refine ⟨a, zs, rfl, ?_, ?_⟩
        · rw [hK]
          rcases q2 with ⟨_, q2⟩ | ⟨_, q2⟩
          · exact .inr q2
          · exact .inl q2
        · subst ed
          rw [show (l, l).2.length = zs.length from r2.len] at k
          exact k io H _ (Grow.refl _ _) so (.int _)
      cases d0 with
      | str z =>
        simp only [bfun] at e
        split at e
        · rename_i hz
          cases e
          cases rv
          exact .inl ⟨z, rfl, hz, k io H _ (Grow.refl _ _) so (.int _)⟩
        · cases e
      | _ =>
        simp only [bfun, Option.map_eq_some_iff] at e
        obtain ⟨p, es, ed⟩ := e
        exact .inr (seqc p es ed.symm)
  | isinstance =>
    refine CallRw call_isi fun x H Q q => ?_
    obtain ⟨io, S, ds, d, so, r, e, k⟩ := q
    match ds, e with
    | [], e => simp [bfun] at e
    | [_], e => simp [bfun] at e
    | _ :: _ :: _ :: _, e => simp [bfun] at e
    | [d0, d1], e =>
      cases d1 <;> simp only [bfun] at e <;> try (cases e; done)
      rename_i n
      obtain ⟨t, e1, e2⟩ := Option.bind_eq_some_iff.mp e
      obtain ⟨b, e3, rfl⟩ := Option.map_eq_some_iff.mp e2
      obtain ⟨v, u, rfl, rv, ru⟩ := r.two
      cases ru
      exact ⟨v, .ty n, .type t, .type n, b, rfl, .ty n, by rw [hK]; exact tyX_of so e1 rv, kit_ty e3, k io H _ (Grow.refl _ _) so (.bl _)⟩
  | int =>
    refine CallRw call_int1 fun x H Q q => ?_
    obtain ⟨io, S, ds, d, so, r, e, k⟩ := q
    match ds, e with
    | [], e => simp [bfun] at e
    | _ :: _ :: _, e => simp [bfun] at e
    | [d0], e =>
      obtain ⟨v, rfl, rv⟩ := r.one
      cases d0 <;> simp only [bfun, Option.some.injEq] at e <;> try (cases e; done)
      · subst e; cases rv; exact .inr ⟨_, rfl, k io H _ (Grow.refl _ _) so (.int _)⟩
      · subst e; cases rv; exact .inl ⟨_, rfl, k io H _ (Grow.refl _ _) so (.int _)⟩
  | abs =>
    refine CallRw call_abs fun x H Q q => ?_
    obtain ⟨io, S, ds, d, so, r, e, k⟩ := q
    match ds, e with
    | [], e => simp [bfun] at e
    | _ :: _ :: _, e => simp [bfun] at e
    | [d0], e =>
      obtain ⟨v, rfl, rv⟩ := r.one
      cases d0 <;> simp only [bfun, Option.some.injEq] at e <;> try (cases e; done)
      subst e; cases rv; exact ⟨_, rfl, k io H _ (Grow.refl _ _) so (.int _)⟩
  | max =>
    refine CallRw ((call_max2 hc).or (cr_max hc)) fun x H Q q => ?_
    obtain ⟨io, S, ds, d, so, r, e, k⟩ := q
    match ds, e with
    | [], e => simp [bfun] at e
    | [d0], e =>
      right
      obtain ⟨v, rfl, rv⟩ := r.one
      simp only [bfun] at e
      split at e
      · rename_i l es
        obtain ⟨ns, e1, e2⟩ := Option.bind_eq_some_iff.mp e
        obtain ⟨m, e3, rfl⟩ := Option.map_eq_some_iff.mp e2
        obtain ⟨a, zs, rfl, r2, q2⟩ := seq_of so es rv
        rcases q2 with ⟨z, _⟩ | ⟨_, q2⟩
        · cases z
        · obtain ⟨h0, h1, h2⟩ := mxI_ok e3
          refine ⟨a, ns, rfl, by rw [hK, ← ints_ok r2 e1]; exact q2, h0, fun m' h3 h4 => ?_⟩
          have em : m' = m := Int.le_antisymm (h2 _ h3) (h4 _ h1)
          rw [em]
          exact k io H _ (Grow.refl _ _) so (.int _)
      · cases e
    | _ :: _ :: _ :: _, e => simp [bfun] at e
    | [d0, d1], e =>
      obtain ⟨v, u, rfl, rv, ru⟩ := r.two
      cases d0 <;> cases d1 <;> simp only [bfun, Option.some.injEq] at e <;> try (cases e; done)
      subst e; cases rv; cases ru; exact .inl ⟨_, _, rfl, k io H _ (Grow.refl _ _) so (.int _)⟩
  | min =>
    refine CallRw ((call_min2 hc).or (cr_min hc)) fun x H Q q => ?_
    obtain ⟨io, S, ds, d, so, r, e, k⟩ := q
    match ds, e with
    | [], e => simp [bfun] at e
    | [d0], e =>
      right
      obtain ⟨v, rfl, rv⟩ := r.one
      simp only [bfun] at e
      split at e
      · rename_i l es
        obtain ⟨ns, e1, e2⟩ := Option.bind_eq_some_iff.mp e
        obtain ⟨m, e3, rfl⟩ := Option.map_eq_some_iff.mp e2
        obtain ⟨a, zs, rfl, r2, q2⟩ := seq_of so es rv
        rcases q2 with ⟨z, _⟩ | ⟨_, q2⟩
        · cases z
        · obtain ⟨h0, h1, h2⟩ := mnI_ok e3
          refine ⟨a, ns, rfl, by rw [hK, ← ints_ok r2 e1]; exact q2, h0, fun m' h3 h4 => ?_⟩
          have em : m' = m := Int.le_antisymm (h4 _ h1) (h2 _ h3)
          rw [em]
          exact k io H _ (Grow.refl _ _) so (.int _)
      · cases e
    | _ :: _ :: _ :: _, e => simp [bfun] at e
    | [d0, d1], e =>
      obtain ⟨v, u, rfl, rv, ru⟩ := r.two
      cases d0 <;> cases d1 <;> simp only [bfun, Option.some.injEq] at e <;> try (cases e; done)
      subst e; cases rv; cases ru; exact .inl ⟨_, _, rfl, k io H _ (Grow.refl _ _) so (.int _)⟩
  | divmod =>
    refine CallRw call_divmod fun x H Q q => ?_
    obtain ⟨io, S, ds, d, so, r, e, k⟩ := q
    match ds, e with
    | [], e => simp [bfun] at e
    | [_], e => simp [bfun] at e
    | _ :: _ :: _ :: _, e => simp [bfun] at e
    | [d0, d1], e =>
      obtain ⟨v, u, rfl, rv, ru⟩ := r.two
      cases d0 <;> cases d1 <;> simp only [bfun] at e <;> try (cases e; done)
      split at e
      · rename_i hz
        cases e
        cases rv; cases ru
        exact ⟨_, _, rfl, hz, fun p hp => k io _ _ (grow_new so hp _) (so.new hp _) (.tup (.inl (.inl upd_same)) (.cons (.int _) (.cons (.int _) .nil)))⟩
      · cases e
  | all =>
    refine CallRw (cr_all hc) fun x H Q q => ?_
    obtain ⟨io, S, ds, d, so, r, e, k⟩ := q
    match ds, e with
    | [], e => simp [bfun] at e
    | _ :: _ :: _, e => simp [bfun] at e
    | [d0], e =>
      obtain ⟨v, rfl, rv⟩ := r.one
      simp only [bfun] at e
      split at e
      · rename_i l es
        obtain ⟨bs, e1, rfl⟩ := Option.map_eq_some_iff.mp e
        obtain ⟨a, zs, rfl, r2, q2⟩ := seq_of so es rv
        rcases q2 with ⟨z, _⟩ | ⟨_, q2⟩
        · cases z
        · exact ⟨a, bs, rfl, by rw [hK, ← bls_ok r2 e1]; exact q2, k io H _ (Grow.refl _ _) so (.bl _)⟩
      · cases e
  | tuple =>
    refine CallRw call_tuple_of fun x H Q q => ?_
    obtain ⟨io, S, ds, d, so, r, e, k⟩ := q
    match ds, e with
    | [], e => simp [bfun] at e
    | _ :: _ :: _, e => simp [bfun] at e
    | [d0], e =>
      obtain ⟨v, rfl, rv⟩ := r.one
      simp only [bfun, Option.map_eq_some_iff] at e
      obtain ⟨⟨b, l⟩, es, rfl⟩ := e
      obtain ⟨a, zs, rfl, r2, q2⟩ := seq_of so es rv
      refine ⟨a, zs, rfl, ?_⟩
      rcases q2 with ⟨_, q2⟩ | ⟨_, q2⟩
      · exact .inr ⟨by rw [hK]; exact q2, k io H _ (Grow.refl _ _) so (.tup q2 r2)⟩
      · exact .inl ⟨by rw [hK]; exact q2, fun p hp => k io _ _ (grow_new so hp _) (so.new hp _) (.tup (.inl (.inl upd_same)) (r2.up (grow_new so hp _)))⟩
  | list =>
    refine CallRw call_list_of fun x H Q q => ?_
    obtain ⟨io, S, ds, d, so, r, e, k⟩ := q
    match ds, e with
    | [], e => simp [bfun] at e
    | _ :: _ :: _, e => simp [bfun] at e
    | [d0], e =>
      obtain ⟨v, rfl, rv⟩ := r.one
      simp only [bfun, Option.map_eq_some_iff] at e
      obtain ⟨⟨b, l⟩, es, rfl⟩ := e
      obtain ⟨a, zs, rfl, r2, q2⟩ := seq_of so es rv
      refine ⟨a, zs, rfl, ?_, fun p hp => k io _ _ (grow_new so hp _) (so.new hp _) (.lst (so.fresh hp) (so.nlk hp) upd_same (r2.up (grow_new so hp _)))⟩
      rw [hK]
      rcases q2 with ⟨_, q2⟩ | ⟨_, q2⟩
      · exact .inr q2
      · exact .inl q2
end

/-! ### items, slices -/
section
variable {X : Cx} {F : Fx}
def rIxE (F : Fx) : R2 := fun x y H Q => ∃ io S a b d, StOK F io H S ∧ Rep F io H a x ∧ Rep F io H b y ∧ ixf S a b = some d ∧ ∀ io' H' v, Grow F io H io' H' → StOK F io' H' S → Rep F io' H' d v → Q v H'
theorem look_ok {io : List Addr} {H : Hp} {x : Str} {d : D} : ∀ {kvs : List (Str × D)} {ys : List (Key × V)}, ys.map (·.1) = kvs.map (fun p => Sum.inr p.1) → Reps F io H (kvs.map (·.2)) (ys.map (·.2)) → look x kvs = some d → ∃ v, valV ys (Sum.inr x) = some v ∧ Rep F io H d v
  | [], _, _, _, e => by simp [look] at e
  | (k, e0) :: r, [], h, _, _ => by simp at h
  | (k, e0) :: r, (k2, v) :: ys, h, hr, e => by
    simp only [List.map_cons, List.cons.injEq] at h
    obtain ⟨h1, h2⟩ := h
    simp only [List.map_cons] at hr
    cases hr with
    | cons ra rb =>
      simp only [look] at e
      unfold valV
      rw [List.find?_cons]
      by_cases q : k = x
      · rw [if_pos q] at e
        cases e
        have : decide (k2 = (Sum.inr x : Key)) = true := by rw [h1, q]; simp
        simp only [this]
        exact ⟨v, rfl, ra⟩
      · rw [if_neg q] at e
        have : decide (k2 = (Sum.inr x : Key)) = false := by
          rw [h1]
          exact decide_eq_false fun z => q (Sum.inr.inj z)
        simp only [this]
        exact look_ok h2 rb e
theorem atI_map {io : List Addr} {H : Hp} {l : List D} {xs : List V} {i : Int} {d : D} (r : Reps F io H l xs) (e : atI l i = some d) : ∃ v, atI xs i = some v ∧ Rep F io H d v := by
  unfold atI at e ⊢
  obtain ⟨j, e1, e2⟩ := Option.bind_eq_some_iff.mp e
  obtain ⟨v, h1, h2⟩ := r.get e2
  exact ⟨v, by rw [← r.len, e1]; exact h1, h2⟩
theorem ix_dct (hu : X.A.units + 1 < cLine) : IxR X (fun x y H Q => ∃ a v, x = .ref a ∧ DGet H a y (some v) ∧ Q v H) := by
  intro value slice pins s st H x y v u Q I rx ry h hs
  obtain ⟨a, z, rfl, g, q⟩ := h
  obtain rfl : v = Value.ref a := rx
  exact tail_any (dict_typeIs I g) PySem.F.slot_dict_getitem.lookup (d_getItem hu I g ry fun w' s3 I3 rw' => ⟨z, H, I3, rw', q⟩) hs
theorem ixE (hK : X.K = F.K) (hu : X.A.units + 1 < cLine) : IxR X (rIxE F) := by
  refine IxRw (ix_seq.or (ix_dct hu)) fun x y H Q q => ?_
  obtain ⟨io, S, a, b, d, so, ra, rb, e, k⟩ := q
  have seqc : ∀ i, b = .int i → ((seqOf S a).bind fun p => atD p.2 i) = some d → rIx X.K x y H Q := by
    intro i eb e9
    subst eb
    cases rb
    obtain ⟨⟨t, l⟩, es, e2⟩ := Option.bind_eq_some_iff.mp e9
    obtain ⟨p, zs, rfl, r2, q2⟩ := seq_of so es ra
    obtain ⟨v, h1, h2⟩ := atI_map r2 e2
    have fin := k io H v (Grow.refl _ _) so h2
    rcases q2 with ⟨_, q2⟩ | ⟨_, q2⟩
    · exact .inr (.inl ⟨p, zs, i, v, rfl, rfl, by rw [hK]; exact q2, h1, fin⟩)
    · exact .inl ⟨p, zs, i, v, rfl, rfl, by rw [hK]; exact q2, h1, fin⟩
  cases b with
  | int i =>
    cases a with
    | str z =>
      simp only [ixf] at e
      split at e
      · rename_i hz
        obtain ⟨c, e1, rfl⟩ := Option.map_eq_some_iff.mp e
        cases ra; cases rb
        exact .inl (.inr (.inr ⟨z, i, c, rfl, rfl, hz, e1, k io H _ (Grow.refl _ _) so (.str _)⟩))
      · cases e
    | _ => exact .inl (seqc i rfl (by simpa only [ixf] using e))
  | str z =>
    cases a <;> simp only [ixf] at e <;> try (cases e; done)
    rename_i n
    cases ra with
    | ref h =>
      cases rb
      split at e
      · rename_i kvs es
        obtain ⟨ys, h1, h2, h3⟩ := so.at_ n _ _ h es
        obtain ⟨v, g1, g2⟩ := look_ok h2 h3 e
        exact .inr ⟨_, v, rfl, by rw [← g1]; exact DGet.k (k := Sum.inr z) h1, k io H v (Grow.refl _ _) so g2⟩
      · cases e
  | _ => cases a <;> simp [ixf] at e
def rSlE (F : Fx) : V → Option Int → Option Int → Hp → VK → Prop := fun x lo hi H Q => ∃ io S a d, StOK F io H S ∧ Rep F io H a x ∧ slf S a lo hi = some d ∧ ∀ io' H' v, Grow F io H io' H' → StOK F io' H' S → Rep F io' H' d v → Q v H'
theorem Reps.cut {io : List Addr} {H : Hp} {l : List D} {xs : List V} (r : Reps F io H l xs) (lo hi : Option Int) : Reps F io H (cutD l lo hi) (cutV xs lo hi) := by
  unfold cutD cutV
  rw [r.len]
  exact (r.drop _).take _
theorem cut_whole {l : List V} {lo hi : Option Int} (h : HT.sIx l.length 0 lo = 0 ∧ HT.sIx l.length l.length hi = l.length) : cutV l lo hi = l := by
  unfold cutV
  rw [h.1, h.2]
  simp
theorem slE (hK : X.K = F.K) : SlR X (rSlE F) := by
  refine SlRw (sl_str.or (sl_tupA.or sl_list)) fun x lo hi H Q q => ?_
  obtain ⟨io, S, a, d, so, ra, e, k⟩ := q
  have seqc : ∀ t l, seqOf S a = some (t, l) → (d = if t = true then D.tup (cutD l lo hi) else D.lst (cutD l lo hi)) → (rSlA X.K x lo hi H Q ∨ rSlL X.K x lo hi H Q) := by
    intro t l es ed
    obtain ⟨p, zs, rfl, r2, q2⟩ := seq_of so es ra
    rcases q2 with ⟨rfl, q2⟩ | ⟨rfl, q2⟩
    · rw [if_pos rfl] at ed
      subst ed
      refine .inl ⟨p, zs, rfl, by rw [hK]; exact q2, fun hw => ?_, fun _ p' hp => ?_⟩
      · have rc := r2.cut lo hi
        rw [cut_whole hw] at rc
        exact k io H _ (Grow.refl _ _) so (.tup q2 rc)
      · exact k io _ _ (grow_new so hp _) (so.new hp _) (.tup (.inl (.inl upd_same)) ((r2.cut lo hi).up (grow_new so hp _)))
    · rw [if_neg (by decide)] at ed
      subst ed
      refine .inr ⟨p, zs, rfl, by rw [hK]; exact q2, fun p' hp => ?_⟩
      exact k io _ _ (grow_new so hp _) (so.new hp _) (.lst (so.fresh hp) (so.nlk hp) upd_same ((r2.cut lo hi).up (grow_new so hp _)))
  cases a with
  | str z =>
    simp only [slf] at e
    split at e
    · rename_i hz
      cases e
      cases ra
      exact .inl ⟨z, rfl, hz, k io H _ (Grow.refl _ _) so (.str _)⟩
    · cases e
  | _ =>
    simp only [slf] at e
    refine .inr ?_
    split at e
    · rename_i l es
      cases e
      exact seqc true l es rfl
    · rename_i l es
      cases e
      exact seqc false l es rfl
    · cases e
end
end Ev

namespace Ev
open PySem PySem.Spec PyProof.Rows L2
/-! ### what a def promises where nothing is being shown (repr asks that) -/
abbrev SpG := List V → Hp → VK → Prop
structure FnG (P : Program) (w : World) (K : PySem.W.Frag) (mg : Str → Option Value) (base : Heap) (k : Nat) (f : Addr) (fd : FuncData) (ps : List Str) (sp : SpG) : Prop where
  len : ∀ vs H Q, sp vs H Q → vs.length = ps.length
  run : ∀ (ar : Around) (outs : List Env) (sh : Shared) (H : Hp) (args : Args) (us : List Value) (vs : List V) (Q : VK), Room k ar → ar.guards = some [] → Env0 P w K mg base ar outs sh H →
    BindsTo sh fd args (ps.zip us) → Vals vs us → sp vs H Q → codeAny (model P w) ar (.call (.ref f) args) (CR CX0 outs P w H sh Q E0) sh
section
variable {P : Program} {w : World} {K : PySem.W.Frag} {mg : Str → Option Value} {base : Heap} {k : Nat} {f : Addr} {fd : FuncData} {ps : List Str} {sp sp' : SpG}
theorem FnG.weak (G : FnG P w K mg base k f fd ps sp) (h : ∀ vs H Q, sp' vs H Q → sp vs H Q) : FnG P w K mg base k f fd ps sp' :=
  ⟨fun vs H Q q => G.len vs H Q (h _ _ _ q), fun ar outs sh H args us vs Q r g e b v q => G.run ar outs sh H args us vs Q r g e b v (h _ _ _ q)⟩
/-- from the body -/
theorem FnG.of {x qual : Str} {params : Arguments} {body : List Stmt} {scope : Scope} {dvs : List V} {kws : List (Str × V)} {N : List Str} (T : FunD K x qual params body scope dvs kws f fd) (S : FnScope N ps scope)
    (len : ∀ vs H Q, sp vs H Q → vs.length = ps.length)
    (hb : ∀ (cdv : Value) (ar : Around) (outs : List Env) (sh : Shared) (H : Hp) (vs : List V) (Q : VK), ar.guards = some [] → Room k (ar.deeper (envOfC qual scope sh.heap.objs.size f cdv)) → sp vs H Q →
      ∃ t, PSs (cxOf CX0 P w K mg base N qual scope f cdv ar outs sh H E0) body t ∧ t { nx := fun _ H' => Q .non H', rt := Q } (start N vs) H) : FnG P w K mg base (k + 1) f fd ps sp := by
  obtain ⟨oc, od, dV, kV, doc, pm, an, cdv, ct, osl, efd, look, hcode, _, _⟩ := T.ex
  subst efd
  constructor
  · exact len
  intro ar outs sh H args us vs Q room gd e0 bnd rel wish
  have hlen := len vs H Q wish
  have inK : K.In sh.heap := e0.mod.kin.keeps fun b o hb => (e0.bs b o hb).1
  have noLim : sh.heap.NoLimit := e0.mod.nolimit.keeps fun b o hb => (e0.bs b o hb).1
  have kinds : ∀ y ∈ ps.zip us, scope.names.lookup y.1 = some .local ∨ (scope.names.lookup y.1 = some .cell ∧ ((cellsFrom (sh.heap.objs.size + 1) scope.names []).lookup y.1).isSome = true) := by
    rintro ⟨n, v⟩ hy
    cases S.par n (List.of_mem_zip hy).1 with
    | inl q => exact Or.inl q
    | inr q => exact Or.inr ⟨q, PySem.W.cellsFrom_some _ _ _ (Or.inl q)⟩
  refine codeAny_call_function room.depth (inK _ _ look) rfl S.co S.gen rfl (PySem.W.codeRec_of inK hcode) (bnd _ _ _ _ ?_)
  refine wpAny_newFunctionEnv_cells S.kind kinds fun env eenv s2 ic => ?_
  subst eenv
  constructor
  · exact noLim.keeps ic.toInCall.keep
  apply codeAny_func
  obtain ⟨t, pss, ht⟩ := hb cdv ar outs sh H vs Q gd (room.deeper _) wish
  have inv := inv_start (E := E0) (CX := CX0) S room.hd e0 hlen rel ic
  have ran := pss.run [] s2 (start N vs) H _ inv ht
  refine wpAny_mono ran (fun flow sf hf => ?_) fun er sf hf => hf
  cases flow with
  | brk => exact hf.elim fun _ q => q.elim fun _ q => q.2.elim
  | cont => exact hf.elim fun _ q => q.elim fun _ q => q.2.elim
  | next =>
    obtain ⟨st', H', J, q⟩ := hf
    exact ⟨V.non, H', J.os, J.bare, J.base, J.hok, rfl, q⟩
  | ret u =>
    obtain ⟨v, st', H', J, rv, q⟩ := hf
    exact ⟨v, H', J.os, J.bare, J.base, J.hok, rv, q⟩
end
section
variable {X : Cx} {k : Nat} {f : Addr} {fd : FuncData} {ps : List Str} {sp : SpG} {x : Str} {p pos : Pos} {e : Expr} {es : List Expr} {t : TA}
theorem FnG.go {pins : List (Addr × Obj)} {st : L2.St} {H : Hp} {sh : Shared} {Q : VK} {args : Args} {us : List Value} {vs : List V} (G : FnG X.prog X.w X.K X.mg X.base k f fd ps sp) (hr : Room k X.A) (hg : X.A.guards = some []) (I : Inv X pins st H sh)
    (hb : BindsTo sh fd args (ps.zip us)) (r : Vals vs us) (h : sp vs H Q) : codeAny (model X.prog X.w) X.A (.call (.ref f) args) (fun res s' => ∃ u, res = .ok (.ret u) ∧ EP X pins st Q u s') sh := by
  refine codeAny_mono (G.run X.A X.stack sh H args us vs Q hr hg I.env0 hb r h) fun res s' hq => ?_
  match res, hq with
  | .error _, hq => exact hq.elim
  | .ok (.ret u), hq => exact ⟨u, rfl, I.after hq⟩
  | .ok .next, hq => exact hq.elim
  | .ok .brk, hq => exact hq.elim
  | .ok .cont, hq => exact hq.elim
theorem ret_only {Q : Value → Shared → Prop} {Ee : Value → Shared → Prop} {ar : Around} {args : Args} {sh : Shared} {v : Value} {P : Program} {w : World} {us : List Value} {kw : List (Str × Value)}
    (h : codeAny (model P w) ar (.call v ⟨us, kw⟩) (fun res s' => ∃ u, res = .ok (.ret u) ∧ Q u s') sh) : wpAny (model P w) ar (call v us kw) Q Ee sh := by
  refine wpAny_call (codeAny_mono h fun res s' hq => ?_)
  obtain ⟨u, rfl, q⟩ := hq
  exact q
/-- f(e, ..) -/
theorem pe_callG (G : FnG X.prog X.w X.K X.mg X.base k f fd ps sp) (hr : Room k X.A) (hg : X.A.guards = some []) (gl : Gl X x) (hm : X.mg x = some (.ref f)) (hk : PySem.W.keepIn X.K (.ref f) = true) (hb : Binds X.K fd ps [])
    (ha : PA X (e :: es) t) (hdb : (x == ("__debug__" : Str)) = false) (he : starEach (e :: es) X.env = (false, eval e X.env) :: starEach es X.env) (hpl : (backTo pos (starEach es X.env)).any (·.1) = false) :
    PE X (.Call (.Name x p) (e :: es) [] pos) (fun st H Q => t st H fun vs H1 => sp vs H1 Q) := by
  constructor
  intro pins sh st H Q I h
  apply wpAny_Call_Name_kw (ld_glob I gl hm ?_ hdb)
  apply PySem.W.callWith_K (h₀ := X.base) I.ok.mod.kin hk (thn (ha.run pos pins sh st H _ I h) ?_) he hpl
  rintro us s1 ⟨vs, H1, I1, r, q⟩
  refine ⟨I1.kIn, ret_only (args := ⟨us, []⟩) ?_⟩
  have hl : us.length = ps.length := by rw [← r.length]; exact G.len _ _ _ q
  have bb := hb s1 us I1.kIn (by rw [List.append_nil]; exact hl)
  rw [List.append_nil] at bb
  exact G.go hr hg I1 bb r q
/-- f() -/
theorem pe_callG0 (G : FnG X.prog X.w X.K X.mg X.base k f fd ps sp) (hr : Room k X.A) (hg : X.A.guards = some []) (gl : Gl X x) (hm : X.mg x = some (.ref f)) (hk : PySem.W.keepIn X.K (.ref f) = true) (hb : Binds X.K fd ps [])
    (hdb : (x == ("__debug__" : Str)) = false) : PE X (.Call (.Name x p) [] [] pos) (fun st H Q => sp [] H Q) := by
  constructor
  intro pins sh st H Q I q
  apply wpAny_Call_Name_kw (ld_glob I gl hm ?_ hdb)
  apply PySem.W.callWith_K0 I.kIn hk
  refine ret_only (us := []) (args := ⟨[], []⟩) ?_
  have hl : ([] : List Value).length = ps.length := G.len _ _ _ q
  have bb := hb sh [] I.kIn (by rw [List.append_nil]; exact hl)
  rw [List.append_nil] at bb
  exact G.go hr hg I bb .nil q
/-- the keywords in the parameters' order -/
def pickV {α : Type} (ix : List Nat) (ws : List α) : Option (List α) := match ix with
  | [] => some []
  | i :: is => match ws[i]? with
    | some w => (pickV is ws).map (w :: ·)
    | none => none
def KwOK (K : PySem.W.Frag) (fd : FuncData) (ps ks : List Str) (ix : List Nat) : Prop :=
  ∀ (sh : Shared) (ws us : List Value), K.In sh.heap → ws.length = ks.length → pickV ix ws = some us → BindsTo sh fd ⟨[], ks.zip ws⟩ (ps.zip us)
theorem pickV_vals : ∀ {ix : List Nat} {vs : List V} {us : List Value} {ys : List V}, Vals vs us → pickV ix vs = some ys → ∃ zs, pickV ix us = some zs ∧ Vals ys zs
  | [], _, _, _, _, e => by simp only [pickV, Option.some.injEq] at e; subst e; exact ⟨[], rfl, .nil⟩
  | i :: is, vs, us, ys, r, e => by
    simp only [pickV] at e
    cases q : vs[i]? with
    | none => rw [q] at e; cases e
    | some v =>
      rw [q] at e
      obtain ⟨ys2, e1, rfl⟩ := Option.map_eq_some_iff.mp e
      obtain ⟨zs, e2, r2⟩ := pickV_vals r e1
      obtain ⟨u, e3, r3⟩ := r.get q
      exact ⟨u :: zs, by simp only [pickV, e3, e2, Option.map_some], .cons r3 r2⟩
/-- f(k = v, ..) -/
theorem pe_callGK {ks : List Str} {ix : List Nat} {kws : List Keyword} {tk : TA} (G : FnG X.prog X.w X.K X.mg X.base k f fd ps sp) (hr : Room k X.A) (hg : X.A.guards = some []) (gl : Gl X x) (hm : X.mg x = some (.ref f)) (hk : PySem.W.keepIn X.K (.ref f) = true) (hb : KwOK X.K fd ps ks ix)
    (hkw : PK X kws tk) (hall : (backToKw pos (keywordEach kws X.env)).all (·.1.isSome) = true) (hks : (backToKw pos (keywordEach kws X.env)).filterMap (·.1) = ks) (hdb : (x == ("__debug__" : Str)) = false)
    (hpl : ((backTo pos (starEach [] X.env)).any (·.1) || (backToKw pos (keywordEach kws X.env)).any (·.1.isNone)) = false) :
    PE X (.Call (.Name x p) [] kws pos) (fun st H Q => tk st H fun zs H1 => zs.length = ks.length ∧ ∃ ys, pickV ix zs = some ys ∧ sp ys H1 Q) := by
  constructor
  intro pins sh st H Q I h
  apply wpAny_Call_Name_kw (ld_glob I gl hm ?_ hdb)
  apply PySem.W.callWith_KW0 (h₀ := X.base) I.ok.mod.kin hk hall ?_ hpl
  apply thn (hkw.run pos pins sh st H _ I h)
  rintro ws s1 ⟨zs, H1, I1, r, hl, ys, hy, q⟩
  rw [hks]
  obtain ⟨us, e1, r2⟩ := pickV_vals r hy
  exact ⟨I1.kIn, ret_only (us := []) (args := ⟨[], ks.zip ws⟩) (G.go hr hg I1 (hb s1 ws us I1.kIn (by rw [← r.length]; exact hl) e1) r2 q)⟩
end
end Ev

/-! enumerate(tuple) -/
namespace Ev
open PySem PySem.Spec PyProof.Rows L2
theorem draws_tup {prog : Program} {w : World} {A : Around} (hh : A.handled = none) (it l : Addr) (hne : l ≠ it) (items : Array Value) :
    Draws prog w A it [it, l] items.size (fun i v => items[i]? = some v) (fun i h => h.IsTupleIter it l i ∧ h.IsTuple l items) := by
  refine ⟨fun _ _ st => ?_, fun _ _ _ st hk => ?_, fun i s Q E hi st hQ => ?_, fun s Q E st hE => ?_⟩
  · obtain ⟨⟨o, ho, _⟩, _⟩ := st
    exact ⟨o, ho⟩
  · obtain ⟨⟨o, ho, r⟩, o2, ho2, r2⟩ := st
    exact ⟨⟨o, hk it (by simp) o ho, r⟩, o2, hk l (by simp) o2 ho2, r2⟩
  · refine RZ.nextOf_tuple_item st.1 st.2 (x := items[i]) (by simp [hi]) ?_
    intro h' hit' hs'
    exact hQ _ h' s.toks (by simp [hi]) ⟨hit', st.2.extBut hs'.extBut hne⟩ hs'
  · exact RZ.nextOf_tuple_end hh st.1 st.2 (by simp) hE
theorem meets_enumT (l : Addr) (items : Array Value) : Meets (Builtin.«enumerate.__new__» ⟨[.type "enumerate", .ref l], []⟩) (fun _ R s => s.heap.IsTuple l items ∧
      R (.ok (.ret (.ref (s.heap.push { cls := .type "tuple_iterator", data := .fields #[.ref l, .int 0 0] }).objs.size)))
        { s with heap := (s.heap.push { cls := .type "tuple_iterator", data := .fields #[.ref l, .int 0 0] }).push { cls := .type "enumerate", data := .fields #[.none, .bool false, .ref s.heap.objs.size, rawInt 0, .none, .none] } }) :=
  .of_wp fun prog w A R s h => by
    obtain ⟨hp, g, d, tk, os⟩ := s
    obtain ⟨hL, h⟩ := h
    have hsub := sub_enumerate
    obtain ⟨⟨c, dct, dt, sl⟩, hl, hc, n, hd⟩ := id hL
    wp_walk using AutoSeq1.wpAny_loadPart' hl
    refine wpAny_stack_any fun st => wpAny_pure ?_
    split
    · rename_i c' _ _ _ _ _
      cases (c' == Value.type "enumerate")
      · wp_walk using AutoSeq1.wpAny_loadPart' hl, wpAny_pyIter_tuple hL
        exact ⟨_, rfl, h⟩
      · wp_walk using AutoSeq1.wpAny_loadPart' hl, wpAny_pyIter_tuple hL
        exact ⟨_, rfl, h⟩
    · wp_walk using AutoSeq1.wpAny_loadPart' hl, wpAny_pyIter_tuple hL
      exact ⟨_, rfl, h⟩
section
variable {prog : Program} {w : World} {A : Around} {E : Value → Shared → Prop} {s : Shared}
theorem call_enumT {l : Addr} {items : Array Value} {Q : Value → Shared → Prop} (hL : s.heap.IsTuple l items)
    (h : ∀ h', IsEnum h' (s.heap.objs.size + 1) s.heap.objs.size 0 .none → h'.IsTupleIter s.heap.objs.size l 0 → (∀ b o, s.heap.get? b = some o → h'.get? b = some o) → Q (.ref (s.heap.objs.size + 1)) { s with heap := h' }) :
    wpAny (model prog w) A (call (.type "enumerate") [.ref l]) Q E s := by
  refine callType_new F.called_enumerate (by decide) (F.typeCall_enumerate_1 _) (F.newCall_enumerate_1 _) (fun obj => F.args_object_init_2 obj _) F.entry_enumerate_new (meets_enumT l items) ⟨hL, ?_⟩
  let o1 : Obj := { cls := .type "tuple_iterator", data := .fields #[.ref l, .int 0 0] }
  have hz : (s.heap.push o1).objs.size = s.heap.objs.size + 1 := Heap.size_push ..
  let o2 : Obj := { cls := .type "enumerate", data := .fields #[.none, .bool false, .ref s.heap.objs.size, rawInt 0, .none, .none] }
  have he : IsEnum ((s.heap.push o1).push o2) (s.heap.objs.size + 1) s.heap.objs.size 0 .none := by
    have z := Heap.get?_push_size (s.heap.push o1) (o := o2) rfl
    rw [hz] at z
    exact z
  show _ ∧ _
  have go := h ((s.heap.push o1).push o2) he ⟨_, Heap.get?_push_of_some _ (Heap.get?_push_size _ rfl), rfl, rfl⟩ (fun b o x => Heap.get?_push_of_some _ (Heap.get?_push_of_some _ x))
  refine ⟨⟨o2, ?_, rfl⟩, ?_⟩
  · rw [hz]
    exact he
  · rw [hz]
    exact go
end
/-- the tuple at a, each item in a new pair -/
def ItEt (K : PySem.W.Frag) (a : Addr) : It :=
  ⟨fun i H => ∃ (xs : List V) (x : V), SqT K H a xs ∧ xs[i]? = some x, fun i H v H' => ∃ T x, v = .ref T ∧ H T = none ∧ H' = upd H T (.tup [.int (i : Nat), x]) ∧ ∀ xs, SqT K H a xs → xs[i]? = some x, fun i H => ∃ xs : List V, SqT K H a xs ∧ xs.length ≤ i⟩
theorem turn_enumT {P : Program} {w : World} {K : PySem.W.Frag} {elts : List Expr} {kk : Nat} {tpos : Pos} (a e it : Addr) :
    Turn P w K (.Tuple elts kk tpos) (ItEt K a) [e, it] e (fun i h => (∃ old, IsEnum h e it ((i : Nat) : Int) old) ∧ h.IsTupleIter it a i ∧ e ≠ it ∧ a ≠ it ∧ a ≠ e) := by
  refine ⟨by simp, fun i h st b hb => ?_, fun i h h' st k => ?_, ?_, ?_, fun A i s Q E st h => ?_⟩
  · obtain ⟨⟨old, he⟩, ⟨o, ho, hc, hd⟩, _⟩ := st
    rcases (show b = e ∨ b = it by simpa using hb) with z | z
    · rw [z]
      exact ⟨_, he, fun v q => nomatch q⟩
    · rw [z]
      exact ⟨o, ho, fun v q => by rw [hd] at q; cases q⟩
  · obtain ⟨⟨old, he⟩, ⟨o, ho, r⟩, hn⟩ := st
    exact ⟨⟨old, k e (by simp) _ he⟩, ⟨o, k it (by simp) o ho, r⟩, hn⟩
  · intro X hP hw hK hc i pins s st H E I hf tn hg
    subst hP hw hK
    obtain ⟨⟨old, he⟩, hit, hne, hai, hae⟩ := tn
    obtain ⟨xs, x, hq, hx⟩ := hg
    obtain ⟨its, rv, p, hz⟩ := I.tuple hq
    obtain ⟨u, hu, ru⟩ := rv.get hx
    have hel : e < s.heap.objs.size := Heap.lt_size he
    have hil : it < s.heap.objs.size := by
      obtain ⟨o, q, _⟩ := hit
      exact Heap.lt_size q
    have hi : i < its.toArray.size := by
      have := (List.getElem?_eq_some_iff.mp hu).1
      simpa using this
    have D := draws_tup (prog := X.prog) (w := X.w) (A := X.A.in1) (by first | exact I.ok.hd hc | (show X.A.handled = none; exact I.ok.hd hc)) it a hai its.toArray
    refine wpAny_pyNext_enum_itemD D he ⟨hit, p⟩ hi hne (by simp; exact ⟨hne, Ne.symm hae⟩) fun y h' tk hy ho hst hT hsz hk => ?_
    obtain ⟨hit', hp'⟩ := hst
    have ey : y = u := by
      have h1 : its.toArray[i]? = some u := by simpa using hu
      exact Option.some.inj (hy.symm.trans h1)
    subst ey
    refine ⟨_, rfl, wpAny_letOwnedTupleGo_enum (s := { s with heap := h', toks := tk + 1 }) ho fun h'' he' sb => ?_⟩
    have hT2 : h''.get? s.heap.objs.size = some { cls := .type "tuple", data := .seq #[.int i tk, y] } := (sb.2 _ (Nat.ne_of_gt hel)).trans hT
    have new : ObjOk X.prog X.w (upd H s.heap.objs.size (.tup [.int (i : Nat), x])) h'' s.heap.objs.size (.tup [.int (i : Nat), x]) := by
      refine ⟨?_, [.int i tk, y], .cons ⟨_, rfl⟩ (.cons ru .nil), _, hT2, rfl, _, rfl⟩
      show 2 ≤ sizeLine
      decide
    have I1 : Inv X pins st (upd H s.heap.objs.size (.tup [.int (i : Nat), x])) { s with heap := h'', toks := tk + 1 } := by
      refine I.turnedNew (ch := [e, it]) (fun b ob hb q => ?_) hf (Nat.le_refl _) new
      have n1 : b ≠ e := fun z => hb (by simp [z])
      have n2 : b ≠ it := fun z => hb (by simp [z])
      exact (sb.2 b n1).trans (hk b ob n1 n2 q)
    refine ⟨.ref s.heap.objs.size, _, I1, rfl, ⟨_, x, rfl, I.hok.fresh (Nat.le_refl _), rfl, fun ys hy2 => ?_⟩, ⟨⟨y, ?_⟩, ?_, hne, hai, hae⟩, fun b hb => ?_⟩
    · obtain ⟨its2, rv2, p2, _⟩ := I.tuple hy2
      rw [I.tuple_inj hy2 hq]
      exact hx
    · have e1 : ((i + 1 : Nat) : Int) = (i : Int) + 1 := by omega
      rw [e1]
      exact he'
    · obtain ⟨o, q, r⟩ := hit'
      exact ⟨o, (sb.2 it (Ne.symm hne)).trans q, r⟩
    · have hb' : b < s.heap.objs.size := by
        rcases (show b = e ∨ b = it by simpa using hb) with z | z
        · rw [z]
          exact hel
        · rw [z]
          exact hil
      rw [upd_ne (Nat.ne_of_lt hb')]
      exact (hf b hb).1
  · intro X hP hw hK hc i pins s st H E I hf tn hg
    subst hP hw hK
    obtain ⟨⟨old, he⟩, hit, hne, hai, hae⟩ := tn
    obtain ⟨xs, hq, hx⟩ := hg
    obtain ⟨its, rv, p, hz⟩ := I.tuple hq
    obtain ⟨f0, f1, f2, f3, f4, f5⟩ := hf it (by simp)
    have hl := rv.length
    have D : Draws X.prog X.w X.A.in1 it [it, a] i (fun _ _ => True) (fun j h => j = i ∧ h.IsTupleIter it a i ∧ h.IsTuple a its.toArray) := by
      refine ⟨fun j h sj => ?_, fun j h h' sj hk => ?_, fun j s Q E hj sj hQ => ?_, fun s Q E sj hE => ?_⟩
      · obtain ⟨_, ⟨o, ho, _⟩, _⟩ := sj
        exact ⟨o, ho⟩
      · obtain ⟨z, ⟨o, ho, r⟩, o2, ho2, r2⟩ := sj
        exact ⟨z, ⟨o, hk it (by simp) o ho, r⟩, o2, hk a (by simp) o2 ho2, r2⟩
      · exact absurd sj.1 (by omega)
      · exact RZ.nextOf_tuple_end (by first | exact I.ok.hd hc | (show X.A.handled = none; exact I.ok.hd hc)) sj.2.1 sj.2.2 (by simp; omega) hE
    exact wpAny_pyNext_enum_endD D he ⟨rfl, hit, p⟩ fun h' eb => ⟨rfl, I.turned (t' := s.toks) (fun b o hb q => eb b o hb q) f0 f1 f3 f4 f5⟩
  · obtain ⟨⟨old, he⟩, _⟩ := st
    exact wpAny_pyIter_enum he h
section
variable {X : Cx} {x : Str} {p pos : Pos} {e : Expr} {es : List Expr} {t : TA} {i : Nat}
/-- a call of a local name that holds a def -/
theorem pe_callLG (hN : X.N[i]? = some x) (hv : Vis X.env.scope x) (hg : X.A.guards = some []) (ha : PA X (e :: es) t) (hdb : (x == ("__debug__" : Str)) = false) (hcd : (x == ("__classdict__" : Str)) = false)
    (he : starEach (e :: es) X.env = (false, eval e X.env) :: starEach es X.env) (hpl : (backTo pos (starEach es X.env)).any (·.1) = false) :
    PE X (.Call (.Name x p) (e :: es) [] pos) (fun st H Q => ∃ (f : Addr) (k : Nat) (fd : FuncData) (ps : List Str) (sp : SpG), st[i]? = some (some (.ref f)) ∧ FnG X.prog X.w X.K X.mg X.base k f fd ps sp ∧ Room k X.A ∧ PySem.W.keepIn X.K (.ref f) = true ∧ Binds X.K fd ps [] ∧ t st H fun vs H1 => sp vs H1 Q) := by
  constructor
  intro pins sh st H Q I q0
  obtain ⟨f, k, fd, ps, sp, hs, G, hr, hk, hb, h⟩ := q0
  refine wpAny_Call_Name_kw (thn ((pe_var (pos := p) hN hv hdb hcd).run pins sh st H (fun v H1 => v = .ref f ∧ H1 = H) I ⟨.ref f, hs, rfl, rfl⟩) fun u s1 ⟨v, H1, I1, r1, q1⟩ => ?_)
  obtain ⟨rfl, rfl⟩ := q1
  cases r1
  apply PySem.W.callWith_K (h₀ := X.base) I.ok.mod.kin hk (thn (ha.run pos pins s1 st _ _ I1 h) ?_) he hpl
  rintro us s2 ⟨vs, H2, I2, r, q⟩
  refine ⟨I2.kIn, ret_only (args := ⟨us, []⟩) ?_⟩
  have hl : us.length = ps.length := by rw [← r.length]; exact G.len _ _ _ q
  have bb := hb s2 us I2.kIn (by rw [List.append_nil]; exact hl)
  rw [List.append_nil] at bb
  exact G.go hr hg I2 bb r q
end
def iEnumA (K : PySem.W.Frag) (ta : TA) : TI := fun st H R => ta st H fun vs H1 => ∃ a xs, vs = [.ref a] ∧ ((SqL K H1 a xs ∧ R (Ite K a) H1) ∨ (SqT K H1 a xs ∧ R (ItEt K a) H1))
theorem pi_enumA {X : Cx} {e : Expr} {ta : TA} {p pos tpos : Pos} {elts : List Expr} {kk : Nat} (hg : Gl X "enumerate") (hm : X.mg "enumerate" = none) (ha : PA X [e] ta) (hs : starEach [e] X.env = [(false, eval e X.env)]) :
    PI X (.Tuple elts kk tpos) (.Call (.Name "enumerate" p) [e] [] pos) (iEnumA X.K ta) := by
  refine ⟨fun pins s st H R I h => ?_⟩
  refine Call_ (ld_blt I hg hm boot_enumerate (PyProof.Rows.callWith_type1 (thn (ha.run pos pins s st H _ I h) fun us s1 ⟨vs, H1, I1, r1, q1⟩ => ?_) hs rfl))
  obtain ⟨a, xs, rfl, q1⟩ := q1
  cases r1 with
  | cons r rr =>
    cases rr
    cases r
    have fresh2 : ∀ b ∈ [s1.heap.objs.size + 1, s1.heap.objs.size], FpOk X pins H1 b := by
      intro b hb
      have hle : s1.heap.objs.size ≤ b := by
        rcases (show b = s1.heap.objs.size + 1 ∨ b = s1.heap.objs.size by simpa using hb) with z | z <;> omega
      exact I1.fpOk hle (I1.hok.fresh hle)
    rcases q1 with ⟨hq, q⟩ | ⟨hq, q⟩
    · obtain ⟨its, rv, p', hz⟩ := I1.list hq
      refine call_enumerate_list p'.isList fun h' he hit hsz hk => wpAny_pyIter_enum he ?_
      have I2 : Inv X pins st H1 { s1 with heap := h' } := I1.kept (t' := s1.toks) hk
      exact ⟨_, [s1.heap.objs.size + 1, s1.heap.objs.size], _, _, H1, rfl, I2, turn_enum a _ s1.heap.objs.size, ⟨⟨.none, he⟩, hit, Nat.succ_ne_self _⟩, fresh2, q⟩
    · obtain ⟨its, rv, p', hz⟩ := I1.tuple hq
      obtain ⟨o1, ho1, _⟩ := id p'
      have la := Heap.lt_size ho1
      refine call_enumT p' fun h' he hit hk => wpAny_pyIter_enum he ?_
      have I2 : Inv X pins st H1 { s1 with heap := h' } := I1.kept (t' := s1.toks) hk
      exact ⟨_, [s1.heap.objs.size + 1, s1.heap.objs.size], _, _, H1, rfl, I2, turn_enumT a _ s1.heap.objs.size, ⟨⟨.none, he⟩, hit, Nat.succ_ne_self _, Nat.ne_of_lt la, Nat.ne_of_lt (Nat.lt_succ_of_lt la)⟩, fresh2, q⟩
end Ev

namespace Ev
open PySem PySem.Spec PyProof.Rows L2
/-! ### readings -/
def RdE (F : Fx) (f : EnvD → Sto → Option (D × Sto)) : TE := fun st H Q => ∃ io env S d S', SlOK F io H st env ∧ StOK F io H S ∧ f env S = some (d, S') ∧ ∀ io' H' v, Grow F io H io' H' → StOK F io' H' S' → Rep F io' H' d v → Q v H'
def RdA (F : Fx) (f : EnvD → Sto → Option (List D × Sto)) : TA := fun st H Q => ∃ io env S d S', SlOK F io H st env ∧ StOK F io H S ∧ f env S = some (d, S') ∧ ∀ io' H' v, Grow F io H io' H' → StOK F io' H' S' → Reps F io' H' d v → Q v H'
def RdT (F : Fx) (f : EnvD → Sto → Option (Bool × Sto)) : TT := fun st H Q => ∃ io env S d S', SlOK F io H st env ∧ StOK F io H S ∧ f env S = some (d, S') ∧ ∀ io' H', Grow F io H io' H' → StOK F io' H' S' → Q d H'
/-- what a def promises by the evaluator -/
def spG (K : PySem.W.Frag) (fa : Str → Addr) (ps : List Str) (cl : List D → Sto → Option (D × Sto)) : SpG := fun vs H Q => ∃ lk io S ds d S', StOK ⟨K, fa, lk⟩ io H S ∧ Reps ⟨K, fa, lk⟩ io H ds vs ∧ cl ds S = some (d, S') ∧ vs.length = ps.length ∧
  ∀ io' H' v, Grow ⟨K, fa, lk⟩ io H io' H' → StOK ⟨K, fa, lk⟩ io' H' S' → Rep ⟨K, fa, lk⟩ io' H' d v → Q v H'
/-! ### the text's context -/
structure Cc where
  N : List Str
  names : List (Str × NameKind)
  fns : List (Str × List Str)
  glbs : List Str
  kws : List (Str × List Str × List Nat)
  refs : Bool
  inner : Bool
structure CallOK (X : Cx) (F : Fx) (kws : List (Str × List Str × List Nat)) (cl : CallF) (f : Str) (ps : List Str) : Prop where
  ex : ∃ (a : Addr) (fd : FuncData) (k : Nat), X.mg f = some (.ref a) ∧ PySem.W.keepIn X.K (.ref a) = true ∧ FnG X.prog X.w X.K X.mg X.base k a fd ps (spG F.K F.fa ps (cl f)) ∧ Room k X.A ∧ Binds X.K fd ps [] ∧
    ∀ ks ix, (f, ks, ix) ∈ kws → KwOK X.K fd ps ks ix
  len : ∀ ds S r, cl f ds S = some r → ds.length = ps.length
  at_ : X.mg f = some (.ref (F.fa f))
structure CxOK (G : Gb) (c : Cc) (X : Cx) (F : Fx) : Prop where
  hK : X.K = F.K
  hN : X.N = c.N
  nd : c.N.Nodup
  nm : X.env.scope.names = c.names
  kf : X.env.scope.kind = .function
  calm : X.calm = true
  gd : X.A.guards = some []
  un : X.A.units + 64 < cLine
  st : c.inner = false → ∀ x, X.fn x = true
  free : ∀ f : Bf, X.mg f.name = none
  free2 : X.mg "range" = none ∧ X.mg "enumerate" = none ∧ X.mg "zip" = none ∧ X.mg "bool" = none ∧ X.mg "dict" = none
  glb : ∀ g d, g ∈ c.glbs → G.glb g = some d → ∃ u v, X.mg g = some u ∧ RelV v u ∧ ∀ lk io H, Rep { F with lk := lk } io H d v
  call : ∀ f ps, (f, ps) ∈ c.fns → CallOK X F c.kws G.cl f ps
  dom : ∀ g ds S r, G.cl g ds S = some r → ∃ ps, (g, ps) ∈ c.fns
theorem CxOK.relk {G : Gb} {c : Cc} {X : Cx} {F : Fx} (h : CxOK G c X F) (lk : List Addr) : CxOK G c X { F with lk := lk } :=
  ⟨h.hK, h.hN, h.nd, h.nm, h.kf, h.calm, h.gd, h.un, h.st, h.free, h.free2, h.glb, fun f ps hf => ⟨(h.call f ps hf).ex, (h.call f ps hf).len, (h.call f ps hf).at_⟩, h.dom⟩
/-- an expression is done as the evaluator tells -/
def SE (G : Gb) (c : Cc) (e : Expr) (x : E) : Prop := ∀ X F, CxOK G c X F → PE X e (RdE F (ev G x)) ∧ PT X e (RdT F (cond G x))
section
variable {G : Gb} {c : Cc} {X : Cx} {F : Fx}
theorem trueE {e : Expr} {f : EnvD → Sto → Option (D × Sto)} (hK : X.K = F.K) (h : PE X e (RdE F f)) (he : ∀ whole, isTrue e X.env whole = (do let v ← whole; standAt e.pos; holding [v] (truthy v))) :
    PT X e (RdT F fun env S => match f env S with
      | none => none
      | some (x, S1) => match truth S1 x with
        | none => none
        | some t => some (t, S1)) := by
  refine PTw (pt_truth h he) fun st H Q q => ?_
  obtain ⟨io, env, S, t, S', sl, so, e1, k⟩ := q
  dsimp only at e1
  cases q1 : f env S with
  | none => rw [q1] at e1; cases e1
  | some p =>
    obtain ⟨d, S1⟩ := p
    rw [q1] at e1
    simp only at e1
    cases q2 : truth S1 d with
    | none => rw [q2] at e1; cases e1
    | some t1 =>
      rw [q2] at e1
      cases e1
      exact ⟨io, env, S, d, _, sl, so, q1, fun io' H' v g so' r => ⟨_, by rw [hK]; exact truth_ok so' q2 r, k io' H' g so'⟩⟩
theorem SE.plain {e : Expr} {x : E} (h : ∀ X F, CxOK G c X F → PE X e (RdE F (ev G x))) (he : ∀ env whole, isTrue e env whole = (do let v ← whole; standAt e.pos; holding [v] (truthy v))) : SE G c e x := fun X F k =>
  ⟨h X F k, trueE k.hK (h X F k) (he X.env)⟩
/-! names, constants -/
def posOf (x : Str) : List Str → Option Nat
  | [] => none
  | y :: r => if y = x then some 0 else (posOf x r).map (· + 1)
theorem posOf_get {x : Str} : ∀ {N : List Str} {i : Nat}, posOf x N = some i → N[i]? = some x
  | [], _, h => by simp [posOf] at h
  | y :: r, i, h => by
    simp only [posOf] at h
    split at h
    · rename_i e
      cases h
      simp [e]
    · obtain ⟨j, h1, rfl⟩ := Option.map_eq_some_iff.mp h
      simpa using posOf_get h1
theorem sVar {x : Str} {pos : Pos} {i : Nat} (hi : c.N[i]? = some x) (hk : c.names.lookup x = some .local ∨ c.names.lookup x = some .cell ∨ c.names.lookup x = some .free) (h1 : (x == ("__debug__" : Str)) = false) (h2 : (x == ("__classdict__" : Str)) = false) : SE G c (.Name x pos) (.var i) := by
  refine SE.plain (fun X F k => ?_) fun _ _ => rfl
  refine PEw (pe_var (i := i) (by rw [k.hN]; exact hi) (by unfold Vis; rw [k.nm]; exact hk) h1 h2) fun st H Q q => ?_
  obtain ⟨io, env, S, d, S', sl, so, e, kk⟩ := q
  simp only [ev] at e
  split at e
  · rename_i d' q1
    cases e
    obtain ⟨v, h3, h4⟩ := sl.at_ i d q1
    exact ⟨v, h3, kk io H v (Grow.refl _ _) so h4⟩
  · cases e
theorem cst_ok {d : D} {v : V} {st : L2.St} {H : Hp} {Q : VK} (r : ∀ io, Rep F io H d v) (q : RdE F (ev G (.cst d)) st H Q) : Q v H := by
  obtain ⟨io, env, S, d', S', sl, so, e, kk⟩ := q
  simp only [ev, Option.some.injEq, Prod.mk.injEq] at e
  obtain ⟨rfl, rfl⟩ := e
  exact kk io H v (Grow.refl _ _) so (r io)
theorem sInt {i : Int} {j : Nat} {pos : Pos} : SE G c (.Constant (.int i) j pos) (.cst (.int i)) := SE.plain (fun X F k => PEw pe_int fun st H Q q => cst_ok (fun _ => .int _) q) fun _ _ => rfl
theorem sBl {i : Bool} {j : Nat} {pos : Pos} : SE G c (.Constant (.bool i) j pos) (.cst (.bl i)) := SE.plain (fun X F k => PEw pe_bl fun st H Q q => cst_ok (fun _ => .bl _) q) fun _ _ => rfl
theorem sNon {j : Nat} {pos : Pos} : SE G c (.Constant .none j pos) (.cst .non) := SE.plain (fun X F k => PEw pe_non fun st H Q q => cst_ok (fun _ => .non) q) fun _ _ => rfl
theorem sStr {i : Str} {j : Nat} {pos : Pos} : SE G c (.Constant (.str i) j pos) (.cst (.str i)) := SE.plain (fun X F k => PEw pe_str fun st H Q q => cst_ok (fun _ => .str _) q) fun _ _ => rfl
theorem gl_of (k : CxOK G c X F) {x : Str} (h : c.names.lookup x = some .globalImplicit) : L2.Gl X x := by
  unfold L2.Gl Env.kindOf
  rw [k.nm]
  exact h
theorem sGlb {x : Str} {pos : Pos} (hk : c.names.lookup x = some .globalImplicit) (hg : x ∈ c.glbs) (h1 : (x == ("__debug__" : Str)) = false) : SE G c (.Name x pos) (.glob x) := by
  refine SE.plain (fun X F k => ?_) fun _ _ => rfl
  constructor
  intro pins s st H Q I q
  obtain ⟨io, env, S, d, S', sl, so, e, kk⟩ := q
  simp only [ev] at e
  split at e
  · rename_i d' q1
    cases e
    obtain ⟨u, v, m, r, rp⟩ := k.glb x d hg q1
    exact (pe_glob (gl_of k hk) m r h1).run pins s st H Q I (kk io H v (Grow.refl _ _) so (rp F.lk io H))
  · cases e
theorem sFn {x : Str} {ps : List Str} {pos : Pos} (hk : c.names.lookup x = some .globalImplicit) (hf : (x, ps) ∈ c.fns) (h1 : (x == ("__debug__" : Str)) = false) : SE G c (.Name x pos) (.cst (.fn x)) := by
  refine SE.plain (fun X F k => ?_) fun _ _ => rfl
  constructor
  intro pins s st H Q I q
  exact (pe_glob (v := .ref (F.fa x)) (gl_of k hk) (k.call x ps hf).at_ rfl h1).run pins s st H Q I (cst_ok (fun _ => .fn x) q)
def tyNames : List Str := ["int", "str", "tuple", "list", "bool", "dict"]
theorem boot_tys : ∀ x ∈ tyNames, ∃ n, bootBuiltins x = some (.type n) ∧ Str.ofString n = x := by
  intro x hx
  simp only [tyNames, List.mem_cons, List.not_mem_nil, or_false] at hx
  rcases hx with rfl | rfl | rfl | rfl | rfl | rfl
  · exact ⟨"int", by decide +kernel, rfl⟩
  · exact ⟨"str", by decide +kernel, rfl⟩
  · exact ⟨"tuple", by decide +kernel, rfl⟩
  · exact ⟨"list", by decide +kernel, rfl⟩
  · exact ⟨"bool", by decide +kernel, rfl⟩
  · exact ⟨"dict", by decide +kernel, rfl⟩
theorem sTy {x : Str} {n : String} {pos : Pos} (hk : c.names.lookup x = some .globalImplicit) (hb : bootBuiltins x = some (.type n)) (hf : ∀ X F, CxOK G c X F → X.mg x = none) (h0 : x ≠ "__name__") (h1 : (x == ("__debug__" : Str)) = false) : SE G c (.Name x pos) (.cst (.ty n)) := by
  refine SE.plain (fun X F k => ?_) fun _ _ => rfl
  exact PEw (pe_bltn (v := .ty n) (gl_of k hk) (hf X F k) hb rfl h0 h1) fun st H Q q => cst_ok (fun _ => .ty _) q
/-! operations -/
theorem two {ta tb : EnvD → Sto → Option (D × Sto)} {f : Sto → D → D → Option (D × Sto)} {st : L2.St} {H : Hp} {R : V → V → Hp → Prop}
    (q : ∃ io env S r, SlOK F io H st env ∧ StOK F io H S ∧ (match ta env S with
      | none => none
      | some (x, S1) => match tb env S1 with
        | none => none
        | some (y, S2) => f S2 x y) = some r ∧ ∀ (x y : D) (S1 S2 : Sto) (io2 : List Addr) (H2 : Hp) (v u : V), f S2 x y = some r → Grow F io H io2 H2 → StOK F io2 H2 S2 → Rep F io2 H2 x v → Rep F io2 H2 y u → R v u H2) :
    RdE F ta st H fun v H1 => RdE F tb st H1 fun u H2 => R v u H2 := by
  obtain ⟨io, env, S, r, sl, so, e, k⟩ := q
  cases q1 : ta env S with
  | none => rw [q1] at e; cases e
  | some p =>
    obtain ⟨x, S1⟩ := p
    rw [q1] at e
    simp only at e
    cases q2 : tb env S1 with
    | none => rw [q2] at e; cases e
    | some p =>
      obtain ⟨y, S2⟩ := p
      rw [q2] at e
      simp only at e
      exact ⟨io, env, S, x, S1, sl, so, q1, fun io1 H1 v g1 so1 r1 => ⟨io1, env, S1, y, S2, sl.up g1, so1, q2, fun io2 H2 u g2 so2 r2 => k x y S1 S2 io2 H2 v u e (g1.trans g2) so2 (r1.up g2) r2⟩⟩
theorem sBin {op : Operator} {a b : Expr} {x y : E} {pos : Pos} (ha : SE G c a x) (hb : SE G c b y) : SE G c (.BinOp a op b pos) (.bin op x y) := by
  refine SE.plain (fun X F k => ?_) fun _ _ => rfl
  refine PEw (pe_op (opBS k.hK op) (ha X F k).1 (hb X F k).1) fun st H Q q => ?_
  obtain ⟨io, env, S, d, S', sl, so, e, kk⟩ := q
  refine two (f := fun S2 x y => match binS S2 op x y with
    | none => none
    | some d => some (d, S2)) ⟨io, env, S, (d, S'), sl, so, by simp only [ev] at e; exact e, fun x1 y1 S1 S2 io2 H2 v u ef g so2 r1 r2 => ?_⟩
  split at ef
  · cases ef
  · rename_i d' eb
    cases ef
    exact ⟨io2, _, x1, y1, _, so2, r1, r2, eb, fun io' H' w g' so' r' => kk io' H' w (g.trans g') so' r'⟩
theorem sInv {a : Expr} {x : E} {pos : Pos} (ha : SE G c a x) : SE G c (.UnaryOp .Invert a pos) (.inv x) := by
  refine SE.plain (fun X F k => ?_) fun _ _ => rfl
  refine PEw (pe_un un_inv (ha X F k).1) fun st H Q q => ?_
  obtain ⟨io, env, S, d, S', sl, so, e, kk⟩ := q
  simp only [ev] at e
  split at e
  · rename_i i S1 q1
    cases e
    refine ⟨io, env, S, _, _, sl, so, q1, fun io1 H1 v g1 so1 r1 => ?_⟩
    cases r1
    exact ⟨_, rfl, kk io1 H1 _ g1 so1 (.int _)⟩
  · cases e
theorem sBlen {o : Expr} {x : E} {apos pos : Pos} (ho : SE G c o x) (hb : ∀ env, attributeBase o ("bit_length" : Str) env (eval o env) = eval o env) (hl : (apos.endLine == pos.line) = true) :
    SE G c (.Call (.Attribute o ("bit_length" : Str) apos) [] [] pos) (.blen x) := by
  refine SE.plain (fun X F k => ?_) fun _ _ => rfl
  refine PEw (pe_bits (ho X F k).1 (hb X.env) hl) fun st H Q q => ?_
  obtain ⟨io, env, S, d, S', sl, so, e, kk⟩ := q
  simp only [ev] at e
  split at e
  · rename_i i S1 q1
    cases e
    refine ⟨io, env, S, _, _, sl, so, q1, fun io1 H1 v g1 so1 r1 => ?_⟩
    cases r1
    exact ⟨_, rfl, kk io1 H1 _ g1 so1 (.int _)⟩
  · cases e
theorem sNeg {a : Expr} {x : E} {pos : Pos} (ha : SE G c a x) : SE G c (.UnaryOp .USub a pos) (.neg x) := by
  refine SE.plain (fun X F k => ?_) fun _ _ => rfl
  refine PEw (pe_un un_neg (ha X F k).1) fun st H Q q => ?_
  obtain ⟨io, env, S, d, S', sl, so, e, kk⟩ := q
  simp only [ev] at e
  split at e
  · rename_i i S1 q1
    cases e
    refine ⟨io, env, S, .int i, _, sl, so, q1, fun io1 H1 v g1 so1 r1 => ?_⟩
    cases r1
    exact ⟨i, rfl, kk io1 H1 _ g1 so1 (.int _)⟩
  · cases e
theorem sNot {a : Expr} {x : E} {pos : Pos} (ha : SE G c a x) : SE G c (.UnaryOp .Not a pos) (.not' x) := by
  intro X F k
  constructor
  · refine PEw (pe_notT (ha X F k).1) fun st H Q q => ?_
    obtain ⟨io, env, S, d, S', sl, so, e, kk⟩ := q
    simp only [ev] at e
    split at e
    · cases e
    · rename_i x1 S1 q1
      split at e
      · cases e
      · rename_i t q2
        cases e
        exact ⟨io, env, S, x1, _, sl, so, q1, fun io1 H1 v g1 so1 r1 => ⟨t, by rw [k.hK]; exact truth_ok so1 q2 r1, kk io1 H1 _ g1 so1 (.bl _)⟩⟩
  · refine PTw (pt_not (ha X F k).2) fun st H Q q => ?_
    obtain ⟨io, env, S, d, S', sl, so, e, kk⟩ := q
    simp only [cond, ev] at e
    cases q1 : ev G x env S with
    | none => rw [q1] at e; cases e
    | some p =>
      obtain ⟨x1, S1⟩ := p
      rw [q1] at e
      simp only at e
      cases q2 : truth S1 x1 with
      | none => rw [q2] at e; cases e
      | some t =>
        rw [q2] at e
        simp only [truth, Option.some.injEq, Prod.mk.injEq] at e
        obtain ⟨rfl, rfl⟩ := e
        exact ⟨io, env, S, t, S1, sl, so, by simp only [cond, q1, q2], fun io1 H1 g1 so1 => kk io1 H1 g1 so1⟩
theorem sCmp {op : CmpOp} {a b : Expr} {x y : E} {pos : Pos} (ha : SE G c a x) (hb : SE G c b y) (hm : behindInMarks op b = false) : SE G c (.Compare a [op] [b] pos) (.cmp op x y) := by
  intro X F k
  have step : ∀ {st : L2.St} {H : Hp} {Q : VK}, RdE F (ev G (.cmp op x y)) st H Q → tOp (rC F fun S => cop S op) (RdE F (ev G x)) (RdE F (ev G y)) st H Q := fun {st H Q} q => by
    obtain ⟨io, env, S, d, S', sl, so, e, kk⟩ := q
    refine two (f := fun S2 x y => match cop S2 op x y with
      | none => none
      | some t => some (D.bl t, S2)) ⟨io, env, S, (d, S'), sl, so, by simp only [ev] at e; exact e, fun x1 y1 S1 S2 io2 H2 v u ef g so2 r1 r2 => ?_⟩
    split at ef
    · cases ef
    · rename_i t eb
      cases ef
      exact ⟨io2, _, x1, y1, t, so2, r1, r2, eb, kk io2 H2 _ g so2 (.bl _)⟩
  constructor
  · exact PEw (pe_cmpR (opC k.hK k.un op) (ha X F k).1 (hb X F k).1 hm) fun st H Q q => step q
  · refine PTw (pt_cmpR (opC k.hK k.un op) (ha X F k).1 (hb X F k).1 hm) fun st H Q q => ?_
    obtain ⟨io, env, S, d, S', sl, so, e, kk⟩ := q
    refine step ?_
    simp only [cond] at e
    split at e
    · cases e
    · rename_i x1 S1 q1
      have q0 := q1
      simp only [ev] at q1
      split at q1
      · cases q1
      · split at q1
        · cases q1
        · split at q1
          · cases q1
          · rename_i t _
            cases q1
            simp only [truth, Option.some.injEq, Prod.mk.injEq] at e
            obtain ⟨rfl, rfl⟩ := e
            refine ⟨io, env, S, .bl t, S1, sl, so, q0, fun io1 H1 v g1 so1 r1 => ?_⟩
            cases r1
            exact ⟨t, rfl, kk io1 H1 g1 so1⟩
theorem sChain {op op' : CmpOp} {a b d : Expr} {x y z : E} {pos : Pos} (ha : SE G c a x) (hb : SE G c b y) (hd : SE G c d z) (hm : lastMarks [op, op'] [b, d] = false) : SE G c (.Compare a [op, op'] [b, d] pos) (.chain op op' x y z) := by
  intro X F k
  have step : ∀ {st : L2.St} {H : Hp} {Q : VK}, RdE F (ev G (.chain op op' x y z)) st H Q → tChain (rC F fun S => cop S op) (rC F fun S => cop S op') (RdE F (ev G x)) (RdE F (ev G y)) (RdE F (ev G z)) st H Q := fun {st H Q} q => by
    obtain ⟨io, env, S, dd, S', sl, so, e, kk⟩ := q
    refine two (f := fun S2 x y => match cop S2 op x y with
        | none => none
        | some false => some (.bl false, S2)
        | some true => match ev G z env S2 with
          | none => none
          | some (z, S3) => match cop S3 op' y z with
            | none => none
            | some t => some (.bl t, S3)) ⟨io, env, S, (dd, S'), sl, so, by simp only [ev] at e; exact e, fun x1 y1 S1 S2 io2 H2 v u ef g so2 r1 r2 => ?_⟩
    split at ef
    · cases ef
    · rename_i eb
      cases ef
      exact ⟨io2, _, x1, y1, false, so2, r1, r2, eb, false, rfl, iteF (kk io2 H2 _ g so2 (.bl _))⟩
    · rename_i eb
      refine ⟨io2, S2, x1, y1, true, so2, r1, r2, eb, true, rfl, ?_⟩
      rw [if_pos rfl]
      split at ef
      · cases ef
      · rename_i z1 S3 q3
        split at ef
        · cases ef
        · rename_i t q4
          cases ef
          exact ⟨io2, env, S2, z1, _, sl.up g, so2, q3, fun io3 H3 w g3 so3 r3 => ⟨io3, _, y1, z1, t, so3, r2.up g3, r3, q4, kk io3 H3 _ (g.trans g3) so3 (.bl _)⟩⟩
  constructor
  · exact PEw (pe_chain (opC k.hK k.un op) (opC k.hK k.un op') (ha X F k).1 (hb X F k).1 (hd X F k).1 hm) fun st H Q q => step q
  · refine PTw (pt_chain (opC k.hK k.un op) (opC k.hK k.un op') (ha X F k).1 (hb X F k).1 (hd X F k).1 hm) fun st H Q q => ?_
    obtain ⟨io, env, S, d, S', sl, so, e, kk⟩ := q
    refine step ?_
    simp only [cond] at e
    split at e
    · cases e
    · rename_i x1 S1 q1
      split at e
      · cases e
      · rename_i t q2
        cases e
        refine ⟨io, env, S, x1, _, sl, so, q1, fun io1 H1 v g1 so1 r1 => ?_⟩
        have hb : ∃ t', x1 = .bl t' := by
          simp only [ev] at q1
          repeat' split at q1
          all_goals first
            | (cases q1; exact ⟨_, rfl⟩)
            | (cases q1; done)
        obtain ⟨t', rfl⟩ := hb
        simp only [truth, Option.some.injEq] at q2
        subst q2
        cases r1
        exact ⟨_, rfl, kk io1 H1 g1 so1⟩
theorem sOne {op : BoolOp} {a : Expr} {x : E} {pos : Pos} (ha : SE G c a x) : SE G c (.BoolOp op [a] pos) x := fun X F k =>
  ⟨pe_one (ha X F k).1, by
    cases op
    · exact (pw_and1 (ha X F k).2).pt
    · exact (pw_or1 (ha X F k).2).pt⟩
/-- a BoolOp as a test whatever its whole is -/
def SW (G : Gb) (c : Cc) (e : Expr) (x : E) : Prop := ∀ X F, CxOK G c X F → PE X e (RdE F (ev G x)) ∧ PW X e (RdT F (cond G x))
theorem SW.se {e : Expr} {x : E} (h : SW G c e x) : SE G c e x := fun X F k => ⟨(h X F k).1, (h X F k).2.pt⟩
theorem wAnd1 {a : Expr} {x : E} {pos : Pos} (ha : SE G c a x) : SW G c (.BoolOp .And [a] pos) x := fun X F k => ⟨pe_one (ha X F k).1, pw_and1 (ha X F k).2⟩
theorem wOr1 {a : Expr} {x : E} {pos : Pos} (ha : SE G c a x) : SW G c (.BoolOp .Or [a] pos) x := fun X F k => ⟨pe_one (ha X F k).1, pw_or1 (ha X F k).2⟩
theorem cond_of {x : E} {env : EnvD} {S S1 : Sto} {d : D} {t : Bool} (h : ev G x env S = some (d, S1)) (h2 : truth S1 d = some t) : cond G x env S = some (t, S1) := by simp only [cond, h, h2]
theorem of_cond {x : E} {env : EnvD} {S S1 : Sto} {t : Bool} (h : cond G x env S = some (t, S1)) : ∃ d, ev G x env S = some (d, S1) ∧ truth S1 d = some t := by
  simp only [cond] at h
  split at h
  · cases h
  · rename_i d S2 q
    split at h
    · cases h
    · rename_i t2 q2
      cases h
      exact ⟨d, q, q2⟩
theorem wAnd {a b : Expr} {rest : List Expr} {x y : E} {pos : Pos} (ha : SE G c a x) (hb : SW G c (.BoolOp .And (b :: rest) pos) y) : SW G c (.BoolOp .And (a :: b :: rest) pos) (.and' x y) := by
  intro X F k
  constructor
  · refine PEw (pe_andT (ha X F k).1 (hb X F k).1) fun st H Q q => ?_
    obtain ⟨io, env, S, d, S', sl, so, e, kk⟩ := q
    simp only [ev] at e
    split at e
    · cases e
    · rename_i x1 S1 q1
      refine ⟨io, env, S, x1, S1, sl, so, q1, fun io1 H1 v g1 so1 r1 => ?_⟩
      split at e
      · cases e
      · rename_i q2
        exact ⟨true, by rw [k.hK]; exact truth_ok so1 q2 r1, iteT (⟨io1, env, S1, d, S', sl.up g1, so1, e, fun io' H' w g' so' r' => kk io' H' w (g1.trans g') so' r'⟩)⟩
      · rename_i q2
        cases e
        exact ⟨false, by rw [k.hK]; exact truth_ok so1 q2 r1, iteF (kk io1 H1 v g1 so1 r1)⟩
  · refine PWw (pw_and (ha X F k).2 (hb X F k).2) fun st H Q q => ?_
    obtain ⟨io, env, S, t, S', sl, so, e, kk⟩ := q
    obtain ⟨d, e1, e2⟩ := of_cond e
    simp only [ev] at e1
    split at e1
    · cases e1
    · rename_i x1 S1 q1
      split at e1
      · cases e1
      · rename_i q2
        exact ⟨io, env, S, true, S1, sl, so, cond_of q1 q2, fun io1 H1 g1 so1 => iteT (⟨io1, env, S1, t, S', sl.up g1, so1, cond_of e1 e2, fun io' H' g' so' => kk io' H' (g1.trans g') so'⟩)⟩
      · rename_i q2
        cases e1
        rw [q2] at e2
        cases e2
        exact ⟨io, env, S, false, S', sl, so, cond_of q1 q2, fun io1 H1 g1 so1 => iteF (kk io1 H1 g1 so1)⟩
theorem wOr {a b : Expr} {rest : List Expr} {x y : E} {pos : Pos} (ha : SE G c a x) (hb : SW G c (.BoolOp .Or (b :: rest) pos) y) : SW G c (.BoolOp .Or (a :: b :: rest) pos) (.or' x y) := by
  intro X F k
  constructor
  · refine PEw (pe_orT (ha X F k).1 (hb X F k).1) fun st H Q q => ?_
    obtain ⟨io, env, S, d, S', sl, so, e, kk⟩ := q
    simp only [ev] at e
    split at e
    · cases e
    · rename_i x1 S1 q1
      refine ⟨io, env, S, x1, S1, sl, so, q1, fun io1 H1 v g1 so1 r1 => ?_⟩
      split at e
      · cases e
      · rename_i q2
        cases e
        exact ⟨true, by rw [k.hK]; exact truth_ok so1 q2 r1, iteT (kk io1 H1 v g1 so1 r1)⟩
      · rename_i q2
        exact ⟨false, by rw [k.hK]; exact truth_ok so1 q2 r1, iteF (⟨io1, env, S1, d, S', sl.up g1, so1, e, fun io' H' w g' so' r' => kk io' H' w (g1.trans g') so' r'⟩)⟩
  · refine PWw (pw_or (ha X F k).2 (hb X F k).2) fun st H Q q => ?_
    obtain ⟨io, env, S, t, S', sl, so, e, kk⟩ := q
    obtain ⟨d, e1, e2⟩ := of_cond e
    simp only [ev] at e1
    split at e1
    · cases e1
    · rename_i x1 S1 q1
      split at e1
      · cases e1
      · rename_i q2
        cases e1
        rw [q2] at e2
        cases e2
        exact ⟨io, env, S, true, S', sl, so, cond_of q1 q2, fun io1 H1 g1 so1 => iteT (kk io1 H1 g1 so1)⟩
      · rename_i q2
        exact ⟨io, env, S, false, S1, sl, so, cond_of q1 q2, fun io1 H1 g1 so1 => iteF (⟨io1, env, S1, t, S', sl.up g1, so1, cond_of e1 e2, fun io' H' g' so' => kk io' H' (g1.trans g') so'⟩)⟩
theorem sIf {a b d : Expr} {x y z : E} {pos : Pos} (ha : SE G c a x) (hb : SE G c b y) (hd : SE G c d z) (X : Cx) (F : Fx) (k : CxOK G c X F) : PE X (.IfExp a b d pos) (RdE F (ev G (.ife x y z))) := by
  refine PEw (pe_ifExp (ha X F k).2 (hb X F k).1 (hd X F k).1) fun st H Q q => ?_
  obtain ⟨io, env, S, r, S', sl, so, e, kk⟩ := q
  simp only [ev] at e
  split at e
  · cases e
  · rename_i x1 S1 q1
    split at e
    · cases e
    · rename_i q2
      exact ⟨io, env, S, true, S1, sl, so, cond_of q1 q2, fun io1 H1 g1 so1 => iteT (⟨io1, env, S1, r, S', sl.up g1, so1, e, fun io' H' w g' so' r' => kk io' H' w (g1.trans g') so' r'⟩)⟩
    · rename_i q2
      exact ⟨io, env, S, false, S1, sl, so, cond_of q1 q2, fun io1 H1 g1 so1 => iteF (⟨io1, env, S1, r, S', sl.up g1, so1, e, fun io' H' w g' so' r' => kk io' H' w (g1.trans g') so' r'⟩)⟩
end
end Ev

namespace Ev
open PySem PySem.Spec PyProof.Rows L2
def notStar : Expr → Bool
  | .Starred _ _ => false
  | _ => true
theorem star_cons {e : Expr} {es : List Expr} {env : Env} (h : notStar e = true) : starEach (e :: es) env = (false, eval e env) :: starEach es env := by
  cases e <;> first
    | rfl
    | (simp [notStar] at h; done)
theorem star_all {pos : Pos} {env : Env} : ∀ {es : List Expr}, es.all notStar = true → (backTo pos (starEach es env)).any (·.1) = false
  | [], _ => rfl
  | e :: es, h => by
    simp only [List.all_cons, Bool.and_eq_true] at h
    rw [star_cons h.1]
    have ih := star_all (pos := pos) (env := env) h.2
    simp only [backTo, List.map_cons, List.any_cons, Bool.false_or] at ih ⊢
    exact ih
inductive SA (G : Gb) (c : Cc) : List Expr → List E → Prop
  | nil : SA G c [] []
  | cons {e : Expr} {es : List Expr} {x : E} {xs : List E} : notStar e = true → SE G c e x → SA G c es xs → SA G c (e :: es) (x :: xs)
theorem SA.ns {G : Gb} {c : Cc} : ∀ {es : List Expr} {xs : List E}, SA G c es xs → es.all notStar = true
  | _, _, .nil => rfl
  | _, _, .cons h _ t => by simp only [List.all_cons, h, SA.ns t, Bool.and_self]
theorem SA.ln {G : Gb} {c : Cc} : ∀ {es : List Expr} {xs : List E}, SA G c es xs → es.length = xs.length
  | _, _, .nil => rfl
  | _, _, .cons _ _ t => by rw [List.length_cons, List.length_cons, SA.ln t]
theorem SA.pa {G : Gb} {c : Cc} {X : Cx} {F : Fx} (k : CxOK G c X F) : ∀ {es : List Expr} {xs : List E}, SA G c es xs → PA X es (RdA F (evs G xs))
  | _, _, .nil => PAw pa_nil fun st H Q q => by
    obtain ⟨io, env, S, d, S', sl, so, e, kk⟩ := q
    simp only [evs, Option.some.injEq, Prod.mk.injEq] at e
    obtain ⟨rfl, rfl⟩ := e
    exact kk io H [] (Grow.refl _ _) so .nil
  | _, _, .cons h ha hs => PAw (pa_cons (ha X F k).1 (SA.pa k hs) (star_cons h)) fun st H Q q => by
    obtain ⟨io, env, S, d, S', sl, so, e1, kk⟩ := q
    simp only [evs] at e1
    split at e1
    · cases e1
    · rename_i d0 S1 q1
      split at e1
      · cases e1
      · rename_i ds S2 q2
        cases e1
        exact ⟨io, env, S, d0, _, sl, so, q1, fun io1 H1 v g1 so1 r1 => ⟨io1, env, _, ds, _, sl.up g1, so1, q2, fun io2 H2 vs g2 so2 r2 => kk io2 H2 (v :: vs) (g1.trans g2) so2 (.cons (r1.up g2) r2)⟩⟩
section
variable {G : Gb} {c : Cc} {X : Cx} {F : Fx}
/-! calls -/
theorem boot_bf (f : Bf) : bootBuiltins f.name = some (bfv f) := by cases f <;> decide +kernel
theorem sBlt {f : Bf} {e : Expr} {es : List Expr} {xs : List E} {p pos : Pos} (ha : SA G c (e :: es) xs) (hk : c.names.lookup f.name = some .globalImplicit) : SE G c (.Call (.Name f.name p) (e :: es) [] pos) (.blt f xs) := by
  refine SE.plain (fun X F k => ?_) fun _ _ => rfl
  have h1 : notStar e = true := by
    have := ha.ns
    simp only [List.all_cons, Bool.and_eq_true] at this
    exact this.1
  have h2 : es.all notStar = true := by
    have := ha.ns
    simp only [List.all_cons, Bool.and_eq_true] at this
    exact this.2
  have key : PE X (.Call (.Name f.name p) (e :: es) [] pos) (tCB (rBf F f) (RdA F (evs G xs))) := by
    have cb := callB k.hK k.calm k.gd k.un f
    have bt := boot_bf f
    cases f <;> first
      | exact pe_callB cb (gl_of k hk) (k.free _) bt (ha.pa k) (by decide) (by decide) (star_cons h1) (star_all h2)
      | exact pe_callTy cb (gl_of k hk) (k.free _) bt (ha.pa k) (by decide) (by decide) (star_cons h1) (star_all h2)
  refine PEw key fun st H Q q => ?_
  obtain ⟨io, env, S, d, S', sl, so, e1, kk⟩ := q
  simp only [ev] at e1
  split at e1
  · cases e1
  · rename_i ds S1 q1
    split at e1
    · cases e1
    · rename_i d0 q2
      cases e1
      exact ⟨io, env, S, ds, _, sl, so, q1, fun io1 H1 vs g1 so1 r1 => ⟨io1, _, ds, _, so1, r1, q2, fun io' H' w g' so' r' => kk io' H' w (g1.trans g') so' r'⟩⟩
theorem fx_eta (F : Fx) : (⟨F.K, F.fa, F.lk⟩ : Fx) = F := rfl
theorem sCall {f : Str} {ps : List Str} {es : List Expr} {xs : List E} {p pos : Pos} (ha : SA G c es xs) (hk : c.names.lookup f = some .globalImplicit) (hf : (f, ps) ∈ c.fns) (hdb : (f == ("__debug__" : Str)) = false) : SE G c (.Call (.Name f p) es [] pos) (.call f xs) := by
  refine SE.plain (fun X F k => ?_) fun _ _ => rfl
  obtain ⟨⟨a, fd, n, hm, kp, fg, room, bnd, _⟩, hlen, _⟩ := k.call f ps hf
  cases es with
  | nil =>
    refine PEw (pe_callG0 fg room k.gd (gl_of k hk) hm kp bnd hdb) fun st H Q q => ?_
    obtain ⟨io, env, S, d, S', sl, so, e1, kk⟩ := q
    have e0 : xs = [] := List.eq_nil_of_length_eq_zero ha.ln.symm
    subst e0
    simp only [ev, evs] at e1
    exact ⟨F.lk, io, S, [], d, S', so, .nil, e1, hlen _ _ _ e1, kk⟩
  | cons e es =>
    have h1 : notStar e = true := by
      have := ha.ns
      simp only [List.all_cons, Bool.and_eq_true] at this
      exact this.1
    have h2 : es.all notStar = true := by
      have := ha.ns
      simp only [List.all_cons, Bool.and_eq_true] at this
      exact this.2
    refine PEw (pe_callG fg room k.gd (gl_of k hk) hm kp bnd (ha.pa k) hdb (star_cons h1) (star_all h2)) fun st H Q q => ?_
    obtain ⟨io, env, S, d, S', sl, so, e1, kk⟩ := q
    simp only [ev] at e1
    split at e1
    · cases e1
    · rename_i ds S1 q1
      exact ⟨io, env, S, ds, S1, sl, so, q1, fun io1 H1 vs g1 so1 r1 => ⟨F.lk, io1, S1, ds, d, S', so1, r1, e1, by rw [← r1.len]; exact hlen _ _ _ e1, fun io' H' w g' so' r' => kk io' H' w (g1.trans g') so' r'⟩⟩
theorem sCallL {f : Str} {i : Nat} {e : Expr} {es : List Expr} {xs : List E} {p pos : Pos} (ha : SA G c (e :: es) xs) (hi : c.N[i]? = some f) (hk : c.names.lookup f = some .local ∨ c.names.lookup f = some .cell ∨ c.names.lookup f = some .free) (h1 : (f == ("__debug__" : Str)) = false) (h2 : (f == ("__classdict__" : Str)) = false) :
    SE G c (.Call (.Name f p) (e :: es) [] pos) (.calll i xs) := by
  refine SE.plain (fun X F k => ?_) fun _ _ => rfl
  have h3 : notStar e = true := by
    have := ha.ns
    simp only [List.all_cons, Bool.and_eq_true] at this
    exact this.1
  have h4 : es.all notStar = true := by
    have := ha.ns
    simp only [List.all_cons, Bool.and_eq_true] at this
    exact this.2
  refine PEw (pe_callLG (i := i) (by rw [k.hN]; exact hi) (by unfold Vis; rw [k.nm]; exact hk) k.gd (ha.pa k) h1 h2 (star_cons h3) (star_all h4)) fun st H Q q => ?_
  obtain ⟨io, env, S, d, S', sl, so, e1, kk⟩ := q
  simp only [ev] at e1
  split at e1
  · rename_i g q0
    split at e1
    · cases e1
    · rename_i ds S1 q1
      obtain ⟨v, hv, rv⟩ := sl.at_ i _ q0
      cases rv
      obtain ⟨ps, hf⟩ := k.dom _ _ _ _ e1
      obtain ⟨⟨a, fd, n, hm, kp, fg, room, bnd, _⟩, hlen, hat⟩ := k.call g ps hf
      have ea : a = F.fa g := by
        have := hm.symm.trans hat
        cases this
        rfl
      subst ea
      refine ⟨F.fa g, n, fd, ps, _, hv, fg, room, kp, bnd, io, env, S, ds, S1, sl, so, q1, fun io1 H1 vs g1 so1 r1 => ?_⟩
      exact ⟨F.lk, io1, S1, ds, d, S', so1, r1, e1, by rw [← r1.len]; exact hlen _ _ _ e1, fun io' H' w g' so' r' => kk io' H' w (g1.trans g') so' r'⟩
  · cases e1
/-! keywords -/
structure SK (G : Gb) (c : Cc) (kws : List Keyword) (ks : List Str) (xs : List E) : Prop where
  nm : ∀ (pos : Pos) (env : Env), (backToKw pos (keywordEach kws env)).map (·.1) = ks.map some
  pk : ∀ X F, CxOK G c X F → PK X kws (RdA F (evs G xs))
theorem kNil : SK G c [] [] [] := ⟨fun _ _ => rfl, fun X F k => ⟨fun pos pins s st H Q I q => by
  obtain ⟨io, env, S, d, S', sl, so, e, kk⟩ := q
  simp only [evs, Option.some.injEq, Prod.mk.injEq] at e
  obtain ⟨rfl, rfl⟩ := e
  exact pk_nil.run pos pins s st H Q I (kk io H [] (Grow.refl _ _) so .nil)⟩⟩
theorem kCons {n : Str} {e : Expr} {kp : Pos} {kws : List Keyword} {ks : List Str} {x : E} {xs : List E} (ha : SE G c e x) (hs : SK G c kws ks xs) : SK G c (⟨some n, e, kp⟩ :: kws) (n :: ks) (x :: xs) := by
  refine ⟨fun pos env => by
    have h := hs.nm pos env
    simp only [backToKw, keywordEach, List.map_cons] at h ⊢
    rw [h], fun X F k => ⟨fun pos pins s st H Q I q => ?_⟩⟩
  refine (pk_cons (ha X F k).1 (hs.pk X F k)).run pos pins s st H Q I ?_
  obtain ⟨io, env, S, d, S', sl, so, e1, kk⟩ := q
  simp only [evs] at e1
  split at e1
  · cases e1
  · rename_i d0 S1 q1
    split at e1
    · cases e1
    · rename_i ds S2 q2
      cases e1
      exact ⟨io, env, S, d0, _, sl, so, q1, fun io1 H1 v g1 so1 r1 => ⟨io1, env, _, ds, _, sl.up g1, so1, q2, fun io2 H2 vs g2 so2 r2 => kk io2 H2 (v :: vs) (g1.trans g2) so2 (.cons (r1.up g2) r2)⟩⟩
theorem all_some {α : Type} : ∀ {l : List (Option Str × α)} {ks : List Str}, l.map (·.1) = ks.map some → l.all (·.1.isSome) = true ∧ l.filterMap (·.1) = ks ∧ l.any (·.1.isNone) = false
  | [], [], _ => ⟨rfl, rfl, rfl⟩
  | [], _ :: _, h => by simp at h
  | _ :: _, [], h => by simp at h
  | (n, a) :: l, k :: ks, h => by
    simp only [List.map_cons, List.cons.injEq] at h
    obtain ⟨h1, h2⟩ := h
    obtain ⟨i1, i2, i3⟩ := all_some h2
    subst h1
    refine ⟨by simp only [List.all_cons, Option.isSome_some, i1, Bool.and_self], by rw [List.filterMap_cons]; simp only [i2], by simp only [List.any_cons, Option.isNone_some, i3, Bool.or_self]⟩
theorem pick_vals {io : List Addr} {H : Hp} : ∀ {ix : List Nat} {ds as : List D} {vs : List V}, Reps F io H ds vs → pick ix ds = some as → ∃ ys, pickV ix vs = some ys ∧ Reps F io H as ys
  | [], _, _, _, _, e => by simp only [pick, Option.some.injEq] at e; subst e; exact ⟨[], rfl, .nil⟩
  | i :: is, ds, as, vs, r, e => by
    simp only [pick] at e
    split at e
    · rename_i d q
      obtain ⟨as2, e1, rfl⟩ := Option.map_eq_some_iff.mp e
      obtain ⟨ys, e2, r2⟩ := pick_vals r e1
      obtain ⟨v, e3, r3⟩ := r.get q
      exact ⟨v :: ys, by simp only [pickV, e3, e2, Option.map_some], .cons r3 r2⟩
    · cases e
theorem evs_len : ∀ {xs : List E} {env : EnvD} {S S' : Sto} {ds : List D}, evs G xs env S = some (ds, S') → ds.length = xs.length
  | [], _, _, _, _, e => by simp only [evs, Option.some.injEq, Prod.mk.injEq] at e; obtain ⟨rfl, _⟩ := e; rfl
  | x :: xs, env, S, S', ds, e => by
    simp only [evs] at e
    split at e
    · cases e
    · split at e
      · cases e
      · rename_i ds2 S2 q
        cases e
        rw [List.length_cons, List.length_cons, evs_len q]
theorem sCallK {f : Str} {ps ks : List Str} {ix : List Nat} {kws : List Keyword} {xs : List E} {p pos : Pos} (ha : SK G c kws ks xs) (hl : ks.length = xs.length) (hk : c.names.lookup f = some .globalImplicit) (hf : (f, ps) ∈ c.fns) (hw : (f, ks, ix) ∈ c.kws) (hdb : (f == ("__debug__" : Str)) = false) :
    SE G c (.Call (.Name f p) [] kws pos) (.callk f ks ix xs) := by
  refine SE.plain (fun X F k => ?_) fun _ _ => rfl
  obtain ⟨⟨a, fd, n, hm, kp, fg, room, bnd, kwb⟩, hlen⟩ := k.call f ps hf
  obtain ⟨h1, h2, h3⟩ := all_some (ha.nm pos X.env)
  refine PEw (pe_callGK fg room k.gd (gl_of k hk) hm kp (kwb ks ix hw) (ha.pk X F k) h1 h2 hdb (by
    show ((backTo pos []).any (·.1) || _) = false
    rw [h3]; rfl)) fun st H Q q => ?_
  obtain ⟨io, env, S, d, S', sl, so, e1, kk⟩ := q
  simp only [ev] at e1
  split at e1
  · cases e1
  · rename_i ds S1 q1
    split at e1
    · cases e1
    · rename_i as q2
      refine ⟨io, env, S, ds, S1, sl, so, q1, fun io1 H1 vs g1 so1 r1 => ⟨by rw [← r1.len, evs_len q1, hl], ?_⟩⟩
      obtain ⟨ys, e3, r3⟩ := pick_vals r1 q2
      exact ⟨ys, e3, F.lk, io1, S1, as, d, S', so1, r3, e1, by rw [← r3.len]; exact hlen _ _ _ e1, fun io' H' w g' so' r' => kk io' H' w (g1.trans g') so' r'⟩
/-! displays -/
theorem sTup {es : List Expr} {xs : List E} {j : Nat} {pos : Pos} (ha : SA G c es xs) : SE G c (.Tuple es j pos) (.tup xs) := by
  refine SE.plain (fun X F k => ?_) fun _ _ => rfl
  refine PEw (pe_tup (ha.pa k)) fun st H Q q => ?_
  obtain ⟨io, env, S, d, S', sl, so, e1, kk⟩ := q
  simp only [ev] at e1
  split at e1
  · cases e1
  · rename_i ds S1 q1
    split at e1
    · rename_i hz
      cases e1
      exact ⟨io, env, S, ds, _, sl, so, q1, fun io1 H1 vs g1 so1 r1 => ⟨by rw [← r1.len]; exact hz, fun p hp => kk io1 _ _ (g1.trans (grow_new so1 hp _)) (so1.new hp _) (.tup (.inl (.inl upd_same)) (r1.up (grow_new so1 hp _)))⟩⟩
    · cases e1
theorem sLst {es : List Expr} {xs : List E} {pos : Pos} (ha : SA G c es xs) : SE G c (.List es pos) (.lst xs) := by
  refine SE.plain (fun X F k => ?_) fun _ _ => rfl
  refine PEw (pe_lst (ha.pa k)) fun st H Q q => ?_
  obtain ⟨io, env, S, d, S', sl, so, e1, kk⟩ := q
  simp only [ev] at e1
  split at e1
  · cases e1
  · rename_i ds S1 q1
    split at e1
    · rename_i hz
      cases e1
      exact ⟨io, env, S, ds, _, sl, so, q1, fun io1 H1 vs g1 so1 r1 => ⟨by rw [← r1.len]; exact hz, fun p hp => kk io1 _ _ (g1.trans (grow_new so1 hp _)) (so1.new hp _) (.lst (so1.fresh hp) (so1.nlk hp) upd_same (r1.up (grow_new so1 hp _)))⟩⟩
    · cases e1
theorem sNewl {es : List Expr} {xs : List E} {pos : Pos} (ha : SA G c es xs) : SE G c (.List es pos) (.newl xs) := by
  refine SE.plain (fun X F k => ?_) fun _ _ => rfl
  refine PEw (pe_lst (ha.pa k)) fun st H Q q => ?_
  obtain ⟨io, env, S, d, S', sl, so, e1, kk⟩ := q
  simp only [ev] at e1
  split at e1
  · cases e1
  · rename_i ds S1 q1
    split at e1
    · rename_i hz
      cases e1
      exact ⟨io, env, S, ds, _, sl, so, q1, fun io1 H1 vs g1 so1 r1 => ⟨by rw [← r1.len]; exact hz, fun p hp => kk (io1 ++ [p]) _ _ (g1.trans (grow_newR so1 hp _)) (so1.newR hp ⟨_, upd_same, r1.up (grow_newR so1 hp _)⟩) (.ref (by rw [← so1.len]; simp))⟩⟩
    · cases e1
/-! dict displays -/
def trsOf (F : Fx) (G : Gb) : List Str → List E → List (TE × TE)
  | k :: ks, x :: xs => (tC (.str k), RdE F (ev G x)) :: trsOf F G ks xs
  | _, _ => []
def strKeys : List Str → List (Option Expr) → Prop
  | [], [] => True
  | k :: ks, some (.Constant (.str k') _ _) :: r => k = k' ∧ strKeys ks r
  | _, _ => False
theorem pps_ok {pos : Pos} (hx : CxOK G c X F) : ∀ {ks : List Str} {keys : List (Option Expr)} {es : List Expr} {xs : List E}, strKeys ks keys → SA G c es xs → keys.length = es.length → PPs X pos keys es (trsOf F G ks xs)
  | [], [], [], [], _, _, _ => pps_nil
  | k :: ks, some (.Constant (.str k') _ _) :: r, e :: es, x :: xs, h, .cons _ ha hs, hl => by
    obtain ⟨h1, h2⟩ := h
    subst h1
    exact pps_cons pe_str (ha X F hx).1 (pps_ok hx h2 hs (by simpa using hl))
  | [], [], _ :: _, _, _, _, hl => by simp at hl
  | _ :: _, _ :: _, [], _, _, _, hl => by simp at hl
theorem tPairs_ok {st : L2.St} : ∀ {ks : List Str} {xs : List E} {io : List Addr} {H : Hp} {env : EnvD} {S S' : Sto} {ds : List D} {Q : List (V × V) → Hp → Prop}, ks.length = xs.length → SlOK F io H st env → StOK F io H S → evs G xs env S = some (ds, S') →
    (∀ io' H' vs, Grow F io H io' H' → StOK F io' H' S' → Reps F io' H' ds vs → Q ((ks.zip vs).map fun p => (V.str p.1, p.2)) H') → tPairs (trsOf F G ks xs) st H Q
  | [], [], io, H, env, S, S', ds, Q, _, sl, so, e, k => by
    simp only [evs, Option.some.injEq, Prod.mk.injEq] at e
    obtain ⟨rfl, rfl⟩ := e
    exact k io H [] (Grow.refl _ _) so .nil
  | [], _ :: _, _, _, _, _, _, _, _, h, _, _, _, _ => by simp at h
  | _ :: _, [], _, _, _, _, _, _, _, h, _, _, _, _ => by simp at h
  | kk :: ks, x :: xs, io, H, env, S, S', ds, Q, h, sl, so, e, k => by
    simp only [evs] at e
    split at e
    · cases e
    · rename_i d0 S1 q1
      split at e
      · cases e
      · rename_i ds2 S2 q2
        cases e
        exact ⟨io, env, S, d0, _, sl, so, q1, fun io1 H1 v g1 so1 r1 => tPairs_ok (by simpa using h) (sl.up g1) so1 q2 fun io2 H2 vs g2 so2 r2 => k io2 H2 (v :: vs) (g1.trans g2) so2 (.cons (r1.up g2) r2)⟩
def DRel (F : Fx) (io : List Addr) (H : Hp) (kvs : List (Str × D)) (ys : List (Key × V)) : Prop := ys.map (·.1) = kvs.map (fun p => Sum.inr p.1) ∧ Reps F io H (kvs.map (·.2)) (ys.map (·.2))
theorem drel_put {io : List Addr} {H : Hp} {x : Str} {d : D} {v : V} (r : Rep F io H d v) {kvs : List (Str × D)} {ys : List (Key × V)} (h : DRel F io H kvs ys) : DRel F io H (putD x d kvs) (putK ys (Sum.inr x) v) := by
  have anyE : ∀ (kvs : List (Str × D)) (ys : List (Key × V)), ys.map (·.1) = kvs.map (fun p => Sum.inr p.1) → (ys.any fun kv => decide (kv.1 = (Sum.inr x : Key))) = (kvs.any fun p => decide (p.1 = x)) := by
    intro kvs
    induction kvs with
    | nil => intro ys e; cases ys with
      | nil => rfl
      | cons _ _ => simp at e
    | cons p kvs ih => intro ys e; cases ys with
      | nil => simp at e
      | cons q ys =>
        simp only [List.map_cons, List.cons.injEq] at e
        simp only [List.any_cons, ih ys e.2, e.1]
        have : decide ((Sum.inr p.1 : Key) = Sum.inr x) = decide (p.1 = x) := by
          by_cases z : p.1 = x
          · rw [z]; simp
          · rw [decide_eq_false z, decide_eq_false fun w => z (Sum.inr.inj w)]
        rw [this]
  unfold putD putK
  rw [anyE kvs ys h.1]
  by_cases c0 : (kvs.any fun p => decide (p.1 = x)) = true
  · rw [if_pos c0, if_pos c0]
    have : ∀ (kvs : List (Str × D)) (ys : List (Key × V)), DRel F io H kvs ys → DRel F io H (kvs.map fun p => if p.1 = x then (p.1, d) else p) (ys.map fun kv => if kv.1 = (Sum.inr x : Key) then (kv.1, v) else kv) := by
      intro kvs
      induction kvs with
      | nil => intro ys e; cases ys with
        | nil => exact e
        | cons _ _ => have := e.1; simp at this
      | cons p kvs ih => intro ys e; cases ys with
        | nil => have := e.1; simp at this
        | cons q ys =>
          obtain ⟨e1, e2⟩ := e
          simp only [List.map_cons, List.cons.injEq] at e1
          simp only [List.map_cons] at e2
          cases e2 with
          | cons ra rb =>
            obtain ⟨i1, i2⟩ := ih ys ⟨e1.2, rb⟩
            by_cases z : p.1 = x
            · have z2 : q.1 = (Sum.inr x : Key) := by rw [e1.1, z]
              refine ⟨?_, ?_⟩
              · rw [List.map_cons, List.map_cons, List.map_cons, List.map_cons, if_pos z2, if_pos z]
                show q.1 :: _ = Sum.inr p.1 :: _
                rw [e1.1, i1]
              · simp only [List.map_cons, if_pos z, if_pos z2]
                exact .cons r i2
            · have z2 : ¬ q.1 = (Sum.inr x : Key) := fun w => z (Sum.inr.inj (e1.1.symm.trans w))
              refine ⟨?_, ?_⟩
              · rw [List.map_cons, List.map_cons, List.map_cons, List.map_cons, if_neg z2, if_neg z]
                rw [e1.1, i1]
              · simp only [List.map_cons, if_neg z, if_neg z2]
                exact .cons ra i2
    exact this kvs ys h
  · rw [if_neg c0, if_neg c0]
    refine ⟨by rw [List.map_append, List.map_append, h.1]; rfl, ?_⟩
    rw [List.map_append, List.map_append]
    exact h.2.app (.cons r .nil)
theorem drel_all {io : List Addr} {H : Hp} : ∀ {ks : List Str} {ds : List D} {vs : List V} {kvs : List (Str × D)} {ys : List (Key × V)}, Reps F io H ds vs → DRel F io H kvs ys → DRel F io H (putAll kvs (ks.zip ds)) (mergeK ys ((ks.zip vs).map fun p => (Sum.inr p.1, p.2)))
  | [], _, _, _, _, _, h => h
  | _ :: _, _, _, _, _, .nil, h => h
  | k :: ks, _, _, kvs, ys, .cons r t, h => by
    simp only [List.zip_cons_cons, putAll, List.map_cons]
    exact drel_all t (drel_put r h)
end
end Ev

namespace Ev
open PySem PySem.Spec PyProof.Rows L2
section
variable {G : Gb} {c : Cc} {X : Cx} {F : Fx}
theorem sNewd {ks : List Str} {keys : List (Option Expr)} {es : List Expr} {xs : List E} {pos : Pos} (hs : strKeys ks keys) (ha : SA G c es xs) (hl : keys.length = es.length) (h0 : keys ≠ []) (h15 : keys.length ≤ 15) (hall : keys.all (·.isSome) = true) (hk : ks.length = keys.length) :
    SE G c (.Dict keys es pos) (.newd ks xs) := by
  refine SE.plain (fun X F k => ?_) fun _ _ => rfl
  refine PEw (pe_disp (pps_ok k hs ha hl) hall hl h0 h15) fun st H Q q => ?_
  obtain ⟨io, env, S, d, S', sl, so, e1, kk⟩ := q
  simp only [ev] at e1
  split at e1
  · cases e1
  · rename_i ds S1 q1
    split at e1
    · rename_i hz
      cases e1
      intro p hp
      have g0 := grow_new (F := F) so hp (.dK [])
      have so0 := so.new hp (.dK [])
      refine tPairs_ok (by rw [hk, hl, ha.ln]) (sl.up g0) so0 q1 fun io' H' vs g so' r => ?_
      have hp' : H' p = some (.dK []) := g.keep p _ upd_same (so.fresh hp)
      have npi : p ∉ io' := g.nin upd_same (so.fresh hp)
      refine ⟨hp', (ks.zip vs).map (fun q => (Sum.inr q.1, q.2)), by rw [List.map_map]; rfl, by
        rw [List.length_map, List.length_zip]
        have := Nat.min_le_left ks.length vs.length
        omega, ?_⟩
      have kp : Kp F F io' H' (io' ++ [p]) (upd H' p (.dK (mergeK [] ((ks.zip vs).map (fun q => (Sum.inr q.1, q.2)))))) := by
        refine ⟨rfl, rfl, fun n a h => ?_, fun a xs h n m => ?_, fun a xs h => ?_, fun a o u h => ?_⟩
        · obtain ⟨hl, _⟩ := List.getElem?_eq_some_iff.mp h
          rw [List.getElem?_append_left hl]
          exact h
        · have ne : a ≠ p := fun z => by rw [z, hp'] at h; cases h
          refine ⟨fun hm => ?_, m, by rw [upd_ne ne]; exact h⟩
          rcases List.mem_append.mp hm with q | q
          · exact n q
          · exact ne (by simpa using q)
        · rw [upd_ne (fun z => by rw [z, hp'] at h; cases h)]; exact h
        · rw [upd_ne (fun z => by rw [z, hp'] at h; cases h)]; exact h
      have gg : Grow F io H (io' ++ [p]) (upd H' p (.dK (mergeK [] ((ks.zip vs).map (fun q => (Sum.inr q.1, q.2)))))) := by
        obtain ⟨js, ej, nj⟩ := g.more
        refine ⟨⟨js ++ [p], by rw [ej, List.append_assoc], fun j hj => ?_⟩, fun a o h n => ?_, fun a xs h => ?_, fun a o u h => ?_, fun a h => ?_⟩
        · rcases List.mem_append.mp hj with q | q
          · exact g0.lsts j (nj j q)
          · have : j = p := by simpa using q
            rw [this]; exact hp
        · rw [upd_ne (ne_of_none h hp)]; exact g.keep a o (g0.keep a o h n) n
        · rw [upd_ne (ne_of_none h hp)]; exact g.tups a xs (g0.tups a xs h)
        · rw [upd_ne (ne_of_none h hp)]; exact g.frzs a o u (g0.frzs a o u h)
        · by_cases z : a = p
          · rw [z, upd_same] at h; cases h
          · rw [upd_ne z] at h; exact g0.lsts a (g.lsts a h)
      refine kk (io' ++ [p]) _ (.ref p) gg ⟨by rw [List.length_append, List.length_append, so'.len]; rfl, ?_, fun a ha => ?_, fun n a m h1 h2 => ?_⟩ (.ref (by rw [← so'.len]; simp))
      · refine List.nodup_append.mpr ⟨so'.nd, by simp, fun a ha b hb z => ?_⟩
        have : b = p := by simpa using hb
        rw [z, this] at ha
        exact npi ha
      · obtain ⟨ni, u, e⟩ := so'.lk a ha
        have nlp := so.nlk (p := p) hp
        refine ⟨fun hm => ?_, ?_⟩
        · rcases List.mem_append.mp hm with q | q
          · exact ni q
          · exact nlp (by rw [← (by simpa using q : a = p)]; exact ha)
        by_cases z : a = p
        · exact ⟨_, by rw [z]; exact upd_same⟩
        · exact ⟨u, by rw [upd_ne z]; exact e⟩
      · by_cases hn : n < io'.length
        · rw [List.getElem?_append_left hn] at h1
          rw [List.getElem?_append_left (by rw [← so'.len]; exact hn)] at h2
          have ne : a ≠ p := fun z => npi (by rw [← z]; exact List.mem_of_getElem? h1)
          exact (so'.at_ n a m h1 h2).kp kp (upd_ne ne)
        · have hn2 : n = io'.length := by
            obtain ⟨hl, _⟩ := List.getElem?_eq_some_iff.mp h1
            rw [List.length_append] at hl
            simp at hl
            omega
          subst hn2
          rw [List.getElem?_append_right (Nat.le_refl _)] at h1
          rw [so'.len, List.getElem?_append_right (Nat.le_refl _)] at h2
          simp at h1 h2
          subst h1
          subst h2
          obtain ⟨d1, d2⟩ := drel_all (F := F) (io := io') (H := H') (ks := ks) (kvs := []) (ys := []) r ⟨rfl, .nil⟩
          exact ⟨_, upd_same, d1, Reps.kp kp _ _ d2⟩
    · cases e1
/-! items, slices -/
def plainIx : Expr → Bool
  | .Name _ _ => true
  | .Constant _ _ _ => true
  | .BinOp _ _ _ _ => true
  | .UnaryOp _ _ _ => true
  | .Call _ _ _ _ => true
  | .Subscript _ _ _ => true
  | .IfExp _ _ _ _ => true
  | _ => false
theorem plainIx_ok {b : Expr} (h : plainIx b = true) : PlainIx b := by
  intro o i
  cases b <;> first
    | rfl
    | (simp [plainIx] at h; done)
theorem sIdx {a b : Expr} {x y : E} {pos : Pos} (ha : SE G c a x) (hb : SE G c b y) (hp : plainIx b = true) : SE G c (.Subscript a b pos) (.idx x y) := by
  refine SE.plain (fun X F k => ?_) fun _ _ => rfl
  refine PEw (pe_ix (ixE k.hK (by have := k.un; omega)) (ha X F k).1 (hb X F k).1 (plainIx_ok hp)) fun st H Q q => ?_
  obtain ⟨io, env, S, d, S', sl, so, e, kk⟩ := q
  refine two (f := fun S2 x y => match ixf S2 x y with
    | none => none
    | some d => some (d, S2)) ⟨io, env, S, (d, S'), sl, so, by simp only [ev] at e; exact e, fun x1 y1 S1 S2 io2 H2 v u ef g so2 r1 r2 => ?_⟩
  split at ef
  · cases ef
  · rename_i d' eb
    cases ef
    exact ⟨io2, _, x1, y1, _, so2, r1, r2, eb, fun io' H' w g' so' r' => kk io' H' w (g.trans g') so' r'⟩
/-- a part of a slice -/
def SO (G : Gb) (c : Cc) (e : Option Expr) (fl : Bool) (x : E) : Prop := (e = none ∧ fl = false) ∨ ∃ e', e = some e' ∧ fl = true ∧ SE G c e' x
def partE (G : Gb) (fl : Bool) (x : E) (env : EnvD) (S : Sto) : Option (Option Int × Sto) := match fl with
  | false => some (none, S)
  | true => match ev G x env S with
    | some (.int i, S2) => some (some i, S2)
    | _ => none
def RdO (F : Fx) (f : EnvD → Sto → Option (Option Int × Sto)) : TO := fun st H Q => ∃ io env S d S', SlOK F io H st env ∧ StOK F io H S ∧ f env S = some (d, S') ∧ ∀ io' H', Grow F io H io' H' → StOK F io' H' S' → Q d H'
theorem so_ok (k : CxOK G c X F) {e : Option Expr} {fl : Bool} {x : E} (h : SO G c e fl x) : PO X e (RdO F (partE G fl x)) := by
  rcases h with ⟨rfl, rfl⟩ | ⟨e', rfl, rfl, h⟩
  · refine ⟨fun pins s st H Q I q => po_none.run pins s st H Q I ?_⟩
    obtain ⟨io, env, S, d, S', sl, so, e1, kk⟩ := q
    simp only [partE, Option.some.injEq, Prod.mk.injEq] at e1
    obtain ⟨rfl, rfl⟩ := e1
    exact kk io H (Grow.refl _ _) so
  · refine ⟨fun pins s st H Q I q => (po_some (h X F k).1).run pins s st H Q I ?_⟩
    obtain ⟨io, env, S, d, S', sl, so, e1, kk⟩ := q
    simp only [partE] at e1
    split at e1
    · rename_i i S2 q1
      cases e1
      refine ⟨io, env, S, .int i, _, sl, so, q1, fun io' H' v g so' r => ?_⟩
      cases r
      exact ⟨i, rfl, kk io' H' g so'⟩
    · cases e1
theorem sSl {a : Expr} {lo hi : Option Expr} {fl fh : Bool} {x y z : E} {p2 pos : Pos} (ha : SE G c a x) (hl : SO G c lo fl y) (hh : SO G c hi fh z) : SE G c (.Subscript a (.Slice lo hi none p2) pos) (.sl x fl fh y z) := by
  refine SE.plain (fun X F k => ?_) fun _ _ => rfl
  refine PEw (pe_slice (slE k.hK) (ha X F k).1 (so_ok k hl) (so_ok k hh)) fun st H Q q => ?_
  obtain ⟨io, env, S, d, S', sl, so, e, kk⟩ := q
  simp only [ev] at e
  split at e
  · cases e
  · rename_i x1 S1 q1
    refine ⟨io, env, S, x1, S1, sl, so, q1, fun io1 H1 v g1 so1 r1 => ?_⟩
    split at e
    · cases e
    · rename_i l S2 q2
      refine ⟨io1, env, S1, l, S2, sl.up g1, so1, q2, fun io2 H2 g2 so2 => ?_⟩
      split at e
      · cases e
      · rename_i h S3 q3
        refine ⟨io2, env, S2, h, S3, sl.up (g1.trans g2), so2, q3, fun io3 H3 g3 so3 => ?_⟩
        split at e
        · cases e
        · rename_i d' q4
          cases e
          exact ⟨io3, _, x1, _, so3, r1.up (g2.trans g3), q4, fun io' H' w g' so' r' => kk io' H' w (g1.trans (g2.trans (g3.trans g'))) so' r'⟩
end

/-! ### what is walked -/
mutual
theorem same_eq : ∀ (a b : D), same a b = true → a = b
  | .non, b, h => by cases b <;> first | rfl | (simp [same] at h; done)
  | .bl a, b, h => by cases b <;> first | (simp [same] at h; done) | (simp only [same, decide_eq_true_eq] at h; rw [h])
  | .int a, b, h => by cases b <;> first | (simp [same] at h; done) | (simp only [same, decide_eq_true_eq] at h; rw [h])
  | .str a, b, h => by cases b <;> first | (simp [same] at h; done) | (simp only [same, decide_eq_true_eq] at h; rw [h])
  | .ty a, b, h => by cases b <;> first | (simp [same] at h; done) | (simp only [same, decide_eq_true_eq] at h; rw [h])
  | .fn a, b, h => by cases b <;> first | (simp [same] at h; done) | (simp only [same, decide_eq_true_eq] at h; rw [h])
  | .ref a, b, h => by cases b <;> first | (simp [same] at h; done) | (simp only [same, decide_eq_true_eq] at h; rw [h])
  | .tup a, b, h => by cases b <;> first | (simp [same] at h; done) | (simp only [same] at h; rw [sames_eq a _ h])
  | .lst a, b, h => by cases b <;> first | (simp [same] at h; done) | (simp only [same] at h; rw [sames_eq a _ h])
  | .rls a, b, h => by cases b <;> first | (simp [same] at h; done) | (simp only [same] at h; rw [sames_eq a _ h])
theorem sames_eq : ∀ (a b : List D), sames a b = true → a = b
  | [], b, h => by cases b <;> first | rfl | (simp [sames] at h; done)
  | x :: xs, b, h => by
    cases b with
    | nil => simp [sames] at h
    | cons y ys =>
      simp only [sames, Bool.and_eq_true] at h
      rw [same_eq x y h.1, sames_eq xs ys h.2]
end
structure ItOK (F : Fx) (io : List Addr) (H : Hp) (J : It) (ds : List D) (gd : Sto → Bool) : Prop where
  go : ∀ (F' : Fx) io' H' S' (i : Nat), Kp F F' io H io' H' → StOK F' io' H' S' → gd S' = true → i < ds.length → J.go i H'
  stop : ∀ (F' : Fx) io' H' S' (i : Nat), Kp F F' io H io' H' → StOK F' io' H' S' → gd S' = true → ds.length ≤ i → J.stop i H'
  yld : ∀ (F' : Fx) io' H' S' (i : Nat) x H2, Kp F F' io H io' H' → StOK F' io' H' S' → gd S' = true → i < ds.length → J.yld i H' x H2 → ∃ d, ds[i]? = some d ∧ Grow F' io' H' io' H2 ∧ StOK F' io' H2 S' ∧ Rep F' io' H2 d x
def RdI (F : Fx) (f : EnvD → Sto → Option ((List D × (Sto → Bool)) × Sto)) : TI := fun st H R => ∃ io env S r S', SlOK F io H st env ∧ StOK F io H S ∧ f env S = some (r, S') ∧ ∀ io' H' J, Grow F io H io' H' → StOK F io' H' S' → ItOK F io' H' J r.1 r.2 → R J H'
def itf (G : Gb) (k : Nat) (its : List E) (env : EnvD) (S : Sto) : Option ((List D × (Sto → Bool)) × Sto) := match evs G its env S with
  | none => none
  | some (as, S1) => match itemsOf S1 k as with
    | none => none
    | some r => some (r, S1)
theorem it_list {F : Fx} {io : List Addr} {H : Hp} {a : Addr} {ds : List D} {gd : Sto → Bool} (h : ∀ (F' : Fx) io' H' S', Kp F F' io H io' H' → StOK F' io' H' S' → gd S' = true → ∃ xs, SqL F'.K H' a xs ∧ Reps F' io' H' ds xs) : ItOK F io H (Itl F.K a) ds gd := by
  refine ⟨fun F' io' H' S' i kp so g hi => ?_, fun F' io' H' S' i kp so g hi => ?_, fun F' io' H' S' i x H2 kp so g hi y => ?_⟩
  · obtain ⟨xs, hs, r⟩ := h F' io' H' S' kp so g
    rw [kp.hK] at hs
    obtain ⟨v, hv, _⟩ := r.get (List.getElem?_eq_getElem hi)
    exact ⟨xs, v, hs, hv⟩
  · obtain ⟨xs, hs, r⟩ := h F' io' H' S' kp so g
    rw [kp.hK] at hs
    exact ⟨xs, hs, by rw [← r.len]; exact hi⟩
  · obtain ⟨xs, hs, r⟩ := h F' io' H' S' kp so g
    rw [kp.hK] at hs
    obtain ⟨e, y⟩ := y
    subst e
    obtain ⟨v, hv, rv⟩ := r.get (List.getElem?_eq_getElem hi)
    have := y xs hs
    rw [hv] at this
    cases this
    exact ⟨_, List.getElem?_eq_getElem hi, Grow.refl _ _, so, rv⟩
theorem it_tup {F : Fx} {io : List Addr} {H : Hp} {a : Addr} {ds : List D} {xs : List V} (hs0 : SqT F.K H a xs) (r0 : Reps F io H ds xs) : ItOK F io H (Itt F.K a) ds fun _ => true := by
  have h : ∀ (F' : Fx) io' H', Kp F F' io H io' H' → SqT F.K H' a xs ∧ Reps F' io' H' ds xs := fun F' io' H' kp => ⟨by have := kp.sqT hs0; rw [kp.hK] at this; exact this, Reps.kp kp _ _ r0⟩
  refine ⟨fun F' io' H' S' i kp so g hi => ?_, fun F' io' H' S' i kp so g hi => ?_, fun F' io' H' S' i x H2 kp so g hi y => ?_⟩
  · obtain ⟨hs, r⟩ := h F' io' H' kp
    obtain ⟨v, hv, _⟩ := r.get (List.getElem?_eq_getElem hi)
    exact ⟨xs, v, hs, hv⟩
  · obtain ⟨hs, r⟩ := h F' io' H' kp
    exact ⟨xs, hs, by rw [← r.len]; exact hi⟩
  · obtain ⟨hs, r⟩ := h F' io' H' kp
    obtain ⟨e, y⟩ := y
    subst e
    obtain ⟨v, hv, rv⟩ := r.get (List.getElem?_eq_getElem hi)
    have := y xs hs
    rw [hv] at this
    cases this
    exact ⟨_, List.getElem?_eq_getElem hi, Grow.refl _ _, so, rv⟩
theorem it_rng {F : Fx} {io : List Addr} {H : Hp} {lo hi : Int} : ItOK F io H (Itr lo (hi - lo).toNat) (rangeD lo hi) fun _ => true := by
  have hl : (rangeD lo hi).length = (hi - lo).toNat := by unfold rangeD; rw [List.length_map, List.length_range]
  refine ⟨fun F' io' H' S' i kp so g h => by rw [hl] at h; exact h, fun F' io' H' S' i kp so g h => by rw [hl] at h; exact h, fun F' io' H' S' i x H2 kp so g h y => ?_⟩
  obtain ⟨e, ex⟩ := y
  subst e
  subst ex
  rw [hl] at h
  refine ⟨.int (lo + i), ?_, Grow.refl _ _, so, .int _⟩
  unfold rangeD
  rw [List.getElem?_map, List.getElem?_range h]
  rfl
theorem enumD_get : ∀ {l : List D} {n i : Nat}, (enumD n l)[i]? = l[i]?.map fun d => .tup [.int ((n + i : Nat) : Int), d]
  | [], n, i => by simp [enumD]
  | d :: r, n, 0 => by simp [enumD]
  | d :: r, n, i + 1 => by
    simp only [enumD, List.getElem?_cons_succ]
    rw [enumD_get (l := r) (n := n + 1) (i := i)]
    have e : n + 1 + i = n + (i + 1) := by omega
    rw [e]
theorem enumD_len : ∀ {l : List D} {n : Nat}, (enumD n l).length = l.length
  | [], n => rfl
  | d :: r, n => by simp [enumD, enumD_len (l := r)]
theorem it_enum {F : Fx} {io : List Addr} {H : Hp} {ds : List D} {J : It} {Sq : PySem.W.Frag → Hp → List V → Prop} (h : ∀ (F' : Fx) io' H' , Kp F F' io H io' H' → ∃ xs, Sq F.K H' xs ∧ Reps F' io' H' ds xs)
    (hgo : ∀ i H', J.go i H' = ∃ (xs : List V) (x : V), Sq F.K H' xs ∧ xs[i]? = some x) (hstop : ∀ i H', J.stop i H' = ∃ xs : List V, Sq F.K H' xs ∧ xs.length ≤ i)
    (hyld : ∀ i H' v H2, J.yld i H' v H2 = ∃ T x, v = .ref T ∧ H' T = none ∧ H2 = upd H' T (.tup [.int (i : Nat), x]) ∧ ∀ xs, Sq F.K H' xs → xs[i]? = some x) : ItOK F io H J (enumD 0 ds) fun _ => true := by
  refine ⟨fun F' io' H' S' i kp so g hi => ?_, fun F' io' H' S' i kp so g hi => ?_, fun F' io' H' S' i x H2 kp so g hi y => ?_⟩
  · obtain ⟨xs, hs, r⟩ := h F' io' H' kp
    rw [enumD_len] at hi
    obtain ⟨v, hv, _⟩ := r.get (List.getElem?_eq_getElem hi)
    rw [hgo]
    exact ⟨xs, v, hs, hv⟩
  · obtain ⟨xs, hs, r⟩ := h F' io' H' kp
    rw [enumD_len] at hi
    rw [hstop]
    exact ⟨xs, hs, by rw [← r.len]; exact hi⟩
  · obtain ⟨xs, hs, r⟩ := h F' io' H' kp
    rw [enumD_len] at hi
    rw [hyld] at y
    obtain ⟨T, v0, rfl, hT, rfl, hx⟩ := y
    obtain ⟨v, hv, rv⟩ := r.get (List.getElem?_eq_getElem hi)
    have e := hx xs hs
    rw [hv] at e
    cases e
    refine ⟨.tup [.int (i : Nat), ds[i]], ?_, grow_new so hT _, so.new hT _, ?_⟩
    · rw [enumD_get, List.getElem?_eq_getElem hi]
      simp
    · exact .tup (.inl (.inl upd_same)) (.cons (.int _) (.cons (rv.up (grow_new so hT _)) .nil))
/-- a walk: target, what is walked -/
def SI (G : Gb) (c : Cc) (tg iter : Expr) (k : Nat) (its : List E) : Prop := ∀ X F, CxOK G c X F → PI X tg iter (RdI F (itf G k its))
section
variable {G : Gb} {c : Cc} {X : Cx} {F : Fx}
theorem sIt0 {tg e : Expr} {x : E} (ha : SE G c e x) : SI G c tg e 0 [x] := by
  intro X F k
  refine ⟨fun pins s st H R I q => ?_⟩
  obtain ⟨io, env, S, r, S', sl, so, e1, kk⟩ := q
  simp only [itf, evs] at e1
  cases q1 : ev G x env S with
  | none => rw [q1] at e1; cases e1
  | some p =>
    obtain ⟨d, S1⟩ := p
    rw [q1] at e1
    simp only at e1
    have hS : S1 = S' := by
      split at e1
      · cases e1
      · cases e1; rfl
    subst hS
    have hr : itemsOf S1 0 [d] = some r := by
      split at e1
      · cases e1
      · rename_i q2; cases e1; exact q2
    cases d with
    | tup l =>
      simp only [itemsOf, Option.some.injEq] at hr
      subst hr
      refine (pi_tup (ha X F k).1).run pins s st H R I ⟨io, env, S, _, _, sl, so, q1, fun io1 H1 v g1 so1 r1 => ?_⟩
      cases r1 with
      | tup hs rs => exact ⟨_, rfl, ⟨_, by rw [k.hK]; exact hs⟩, kk io1 H1 _ g1 so1 (by rw [k.hK]; exact it_tup hs rs)⟩
    | lst l =>
      simp only [itemsOf, Option.some.injEq] at hr
      subst hr
      refine (pi_list (ha X F k).1).run pins s st H R I ⟨io, env, S, _, _, sl, so, q1, fun io1 H1 v g1 so1 r1 => ?_⟩
      cases r1 with
      | lst n m hs rs => exact ⟨_, rfl, ⟨_, .inl (.inl hs)⟩, kk io1 H1 _ g1 so1 (by
          rw [k.hK]
          exact it_list fun F' io' H' S' kp _ _ => ⟨_, .inl (.inl (kp.lst _ _ hs n m).2.2), Reps.kp kp _ _ rs⟩)⟩
    | rls l =>
      simp only [itemsOf, Option.some.injEq] at hr
      subst hr
      refine (pi_list (ha X F k).1).run pins s st H R I ⟨io, env, S, _, _, sl, so, q1, fun io1 H1 v g1 so1 r1 => ?_⟩
      cases r1 with
      | rlsF hs rs => exact ⟨_, rfl, ⟨_, .inl (.inr ⟨_, hs⟩)⟩, kk io1 H1 _ g1 so1 (by
          rw [k.hK]
          exact it_list fun F' io' H' S' kp _ _ => ⟨_, .inl (.inr ⟨_, kp.frzs _ _ _ hs⟩), Reps.kp kp _ _ rs⟩)⟩
      | rlsK hs rs => exact ⟨_, rfl, ⟨_, by rw [k.hK]; exact .inr hs⟩, kk io1 H1 _ g1 so1 (by
          rw [k.hK]
          exact it_list fun F' io' H' S' kp _ _ => ⟨_, by rw [kp.hK]; exact .inr hs, Reps.kp kp _ _ rs⟩)⟩
    | ref n =>
      simp only [itemsOf] at hr
      split at hr
      · rename_i l q2
        cases hr
        refine (pi_list (ha X F k).1).run pins s st H R I ⟨io, env, S, _, _, sl, so, q1, fun io1 H1 v g1 so1 r1 => ?_⟩
        cases r1 with
        | ref hn =>
          obtain ⟨xs0, h0, _⟩ := so1.lst_at hn q2
          refine ⟨_, rfl, ⟨xs0, .inl (.inl h0)⟩, kk io1 H1 _ g1 so1 ?_⟩
          rw [k.hK]
          refine it_list fun F' io' H' S' kp so' gd => ?_
          simp only [stays] at gd
          split at gd
          · rename_i l2 q3
            have := sames_eq _ _ gd
            subst this
            obtain ⟨xs, h1, h2⟩ := so'.lst_at (kp.get _ _ hn) q3
            exact ⟨xs, .inl (.inl h1), h2⟩
          · cases gd
      · cases hr
    | _ => simp [itemsOf] at hr
theorem sIt2 {elts : List Expr} {kk : Nat} {tpos p pos : Pos} {e : Expr} {x : E} (ha : SA G c [e] [x]) (hk : c.names.lookup ("enumerate" : Str) = some NameKind.globalImplicit) : SI G c (.Tuple elts kk tpos) (.Call (.Name "enumerate" p) [e] [] pos) 2 [x] := by
  intro X F k
  refine ⟨fun pins s st H R I q => ?_⟩
  obtain ⟨io, env, S, r, S', sl, so, e1, kk'⟩ := q
  have ns := ha.ns
  simp only [List.all_cons, List.all_nil, Bool.and_true] at ns
  simp only [itf] at e1
  cases q1 : evs G [x] env S with
  | none => rw [q1] at e1; cases e1
  | some p0 =>
    obtain ⟨ds, S1⟩ := p0
    rw [q1] at e1
    simp only at e1
    split at e1
    · cases e1
    · rename_i r' hr
      cases e1
      have hx := evs_len q1
      obtain ⟨d, rfl⟩ := len_one (show ds.length = 1 from hx)
      refine (pi_enumA (gl_of k hk) k.free2.2.1 (ha.pa k) (by rw [star_cons ns] <;> rfl)).run pins s st H R I ⟨io, env, S, _, _, sl, so, q1, fun io1 H1 vs g1 so1 r1 => ?_⟩
      obtain ⟨v, rfl, rv⟩ := r1.one
      cases d with
      | tup l =>
        simp only [itemsOf, Option.some.injEq] at hr
        subst hr
        cases rv with
        | tup hs rs =>
          rename_i a xs
          refine ⟨a, xs, rfl, .inr ⟨by rw [k.hK]; exact hs, kk' io1 H1 _ g1 so1 ?_⟩⟩
          rw [k.hK]
          refine it_enum (Sq := fun K H' xs => SqT K H' a xs) (fun F' io' H' kp => ⟨xs, ?_, Reps.kp kp _ _ rs⟩) (fun _ _ => rfl) (fun _ _ => rfl) (fun _ _ _ _ => rfl)
          have := kp.sqT hs
          rw [kp.hK] at this
          exact this
      | lst l =>
        simp only [itemsOf, Option.some.injEq] at hr
        subst hr
        cases rv with
        | lst n m hs rs =>
          rename_i a xs
          refine ⟨a, xs, rfl, .inl ⟨.inl (.inl hs), kk' io1 H1 _ g1 so1 ?_⟩⟩
          rw [k.hK]
          exact it_enum (Sq := fun K H' xs => SqL K H' a xs) (fun F' io' H' kp => ⟨xs, .inl (.inl (kp.lst _ _ hs n m).2.2), Reps.kp kp _ _ rs⟩) (fun _ _ => rfl) (fun _ _ => rfl) (fun _ _ _ _ => rfl)
      | rls l =>
        simp only [itemsOf, Option.some.injEq] at hr
        subst hr
        cases rv with
        | rlsF hs rs =>
          rename_i a ob xs
          refine ⟨a, xs, rfl, .inl ⟨.inl (.inr ⟨_, hs⟩), kk' io1 H1 _ g1 so1 ?_⟩⟩
          rw [k.hK]
          exact it_enum (Sq := fun K H' xs => SqL K H' a xs) (fun F' io' H' kp => ⟨xs, .inl (.inr ⟨_, kp.frzs _ _ _ hs⟩), Reps.kp kp _ _ rs⟩) (fun _ _ => rfl) (fun _ _ => rfl) (fun _ _ _ _ => rfl)
        | rlsK hs rs =>
          rename_i a xs
          refine ⟨a, xs, rfl, .inl ⟨by rw [k.hK]; exact .inr hs, kk' io1 H1 _ g1 so1 ?_⟩⟩
          rw [k.hK]
          exact it_enum (Sq := fun K H' xs => SqL K H' a xs) (fun F' io' H' kp => ⟨xs, .inr hs, Reps.kp kp _ _ rs⟩) (fun _ _ => rfl) (fun _ _ => rfl) (fun _ _ _ _ => rfl)
      | _ => simp [itemsOf] at hr
theorem inR_ok {i : Int} (h : inR i = true) : -(2 ^ 62) ≤ i ∧ i < 2 ^ 62 := of_decide_eq_true h
theorem sIt1 {tg : Expr} {es : List Expr} {xs : List E} {p pos : Pos} (ha : SA G c es xs) (hl : es.length = 1 ∨ es.length = 2) (hk : c.names.lookup ("range" : Str) = some NameKind.globalImplicit) : SI G c tg (.Call (.Name "range" p) es [] pos) 1 xs := by
  intro X F k
  refine ⟨fun pins s st H R I q => ?_⟩
  obtain ⟨io, env, S, r, S', sl, so, e1, kk⟩ := q
  simp only [itf] at e1
  split at e1
  · cases e1
  · rename_i as S1 q1
    split at e1
    · cases e1
    · rename_i r' q2
      cases e1
      have hx := evs_len q1
      rw [← ha.ln] at hx
      rcases hl with hl | hl
      · obtain ⟨e, rfl⟩ := len_one hl
        have ns := ha.ns
        simp only [List.all_cons, List.all_nil, Bool.and_true] at ns
        rw [hl] at hx
        obtain ⟨d, rfl⟩ := len_one hx
        cases d <;> simp only [itemsOf] at q2 <;> try (cases q2; done)
        split at q2
        · rename_i hj
          cases q2
          refine (pi_range1 (gl_of k hk) k.free2.1 (ha.pa k) (by rw [star_cons ns] <;> rfl)).run pins s st H R I ⟨io, env, S, _, _, sl, so, q1, fun io1 H1 vs g1 so1 r1 => ?_⟩
          obtain ⟨v, rfl, rv⟩ := r1.one
          cases rv
          rename_i j
          refine ⟨j, rfl, (inR_ok hj).1, (inR_ok hj).2, kk io1 H1 _ g1 so1 ?_⟩
          have := it_rng (F := F) (io := io1) (H := H1) (lo := 0) (hi := j)
          rw [Int.sub_zero] at this
          exact this
        · cases q2
      · obtain ⟨e, e', rfl⟩ := len_two hl
        have ns := ha.ns
        simp only [List.all_cons, List.all_nil, Bool.and_true, Bool.and_eq_true] at ns
        rw [hl] at hx
        obtain ⟨d, d', rfl⟩ := len_two hx
        cases d <;> cases d' <;> simp only [itemsOf] at q2 <;> try (cases q2; done)
        split at q2
        · rename_i hj
          cases q2
          refine (pi_range2 (gl_of k hk) k.free2.1 (ha.pa k) (by rw [star_cons ns.1, star_cons ns.2] <;> rfl) (by rw [star_cons ns.2] <;> rfl)).run pins s st H R I ⟨io, env, S, _, _, sl, so, q1, fun io1 H1 vs g1 so1 r1 => ?_⟩
          obtain ⟨v, u, rfl, rv, ru⟩ := r1.two
          cases rv
          cases ru
          exact ⟨_, _, rfl, ⟨(inR_ok hj.1).1, (inR_ok hj.1).2, (inR_ok hj.2).1, (inR_ok hj.2).2⟩, kk io1 H1 _ g1 so1 it_rng⟩
        · cases q2
end
end Ev

namespace Ev
open PySem PySem.Spec PyProof.Rows L2
/-! ### targets -/
theorem wipe_set {i : Nat} {v : Option V} : ∀ {ws : List Nat} {st : L2.St}, i ∈ ws → wipe (st.set i v) ws = wipe st ws
  | w :: ws, st, h => by
    by_cases e : w = i
    · subst e
      by_cases h' : w ∈ ws
      · unfold wipe
        rw [wipe_set h']
      · unfold wipe
        have : wipe (st.set w v) ws = (wipe st ws).set w v := by
          clear h
          induction ws with
          | nil => rfl
          | cons u us ih =>
            simp only [List.mem_cons, not_or] at h'
            unfold wipe
            rw [ih h'.2, List.set_comm _ _ h'.1]
        rw [this, List.set_set]
    · have h' : i ∈ ws := by
        rcases List.mem_cons.mp h with z | z
        · exact absurd z.symm e
        · exact z
      unfold wipe
      rw [wipe_set h']
/-- names only -/
def RdB (F : Fx) (tg : List Nat) (one : Bool) : TG := fun v st H Q => ∃ io env d env', SlOK F io H st env ∧ Rep F io H d v ∧ bindT tg one d env = some env' ∧ ∀ st', SlOK F io H st' env' → (∀ ws, (∀ i ∈ tg, i ∈ ws) → wipe st' ws = wipe st ws) → Q st' H
def RdBs (F : Fx) (tg : List Nat) : TGs := fun vs st H Q => ∃ io env ds env', SlOK F io H st env ∧ Reps F io H ds vs ∧ setAll tg ds env = some env' ∧ ∀ st', SlOK F io H st' env' → (∀ ws, (∀ i ∈ tg, i ∈ ws) → wipe st' ws = wipe st ws) → Q st' H
def TgOK (c : Cc) (x : Str) (i : Nat) : Prop := c.N[i]? = some x ∧ (c.names.lookup x = some .local ∨ (c.names.lookup x = some .cell ∧ c.inner = false))
inductive NsT (c : Cc) : List Expr → List Nat → Prop
  | nil : NsT c [] []
  | cons {x : Str} {p : Pos} {i : Nat} {es : List Expr} {is : List Nat} : TgOK c x i → NsT c es is → NsT c (.Name x p :: es) (i :: is)
section
variable {G : Gb} {c : Cc} {X : Cx} {F : Fx}
theorem pg_nm (k : CxOK G c X F) {x : Str} {p : Pos} {i : Nat} (h : TgOK c x i) : PG X (.Name x p) (gName i) := by
  refine pg_name (by rw [k.hN]; exact k.nd) (by rw [k.hN]; exact h.1) ?_ ?_
  · rcases h.2 with q | q
    · exact .inl (by rw [k.nm]; exact q)
    · exact .inr (by rw [k.nm]; exact q.1)
  · rcases h.2 with q | q
    · exact .inr (by rw [k.nm]; exact q)
    · exact .inl (k.st q.2 x)
theorem PGw {tg : Expr} {t t' : TG} (h : PG X tg t) (hw : ∀ v st H Q, t' v st H Q → t v st H Q) : PG X tg t' := ⟨fun pins s st H v u Q I r q => h.run pins s st H v u Q I r (hw v st H Q q)⟩
theorem PGsw {tg : List Expr} {t t' : TGs} (h : PGs X tg t) (hw : ∀ v st H Q, t' v st H Q → t v st H Q) : PGs X tg t' := ⟨fun pins s st H v u Q I r q => h.run pins s st H v u Q I r (hw v st H Q q)⟩
theorem NsT.ns {es : List Expr} {is : List Nat} (h : NsT c es is) (env : Env) : (assignEach es env).length = es.length ∧ (assignEach es env).findIdx? (·.1) = none := by
  induction h with
  | nil => exact ⟨rfl, rfl⟩
  | cons hx _ ih =>
    refine ⟨?_, ?_⟩
    · show List.length (_ :: _) = _
      rw [List.length_cons, List.length_cons, ih.1]
    · show List.findIdx? _ ((false, _) :: _) = none
      rw [List.findIdx?_cons]
      simp only [Bool.false_eq_true, if_false]
      rw [ih.2]
      rfl
theorem NsT.ln {es : List Expr} {is : List Nat} (h : NsT c es is) : es.length = is.length := by
  induction h with
  | nil => rfl
  | cons _ _ ih => rw [List.length_cons, List.length_cons, ih]
theorem setAll_len {is : List Nat} {ds : List D} {env env' : EnvD} (h : setAll is ds env = some env') : is.length = ds.length := by
  induction is generalizing ds env with
  | nil => cases ds with
    | nil => rfl
    | cons => simp [setAll] at h
  | cons i is ih => cases ds with
    | nil => simp [setAll] at h
    | cons d ds =>
      simp only [setAll] at h
      rw [List.length_cons, List.length_cons, ih h]
theorem NsT.pgs (k : CxOK G c X F) {es : List Expr} {is : List Nat} (h : NsT c es is) : PGs X es (RdBs F is) := by
  induction h with
  | nil =>
    refine PGsw pgs_nil fun vs st H Q q => ?_
    obtain ⟨io, env, ds, env', sl, r, e, kk⟩ := q
    cases ds with
    | nil =>
      cases r
      simp only [setAll, Option.some.injEq] at e
      subst e
      exact ⟨rfl, kk st sl fun _ _ => rfl⟩
    | cons => simp [setAll] at e
  | cons hx _ ih =>
    refine PGsw (pgs_cons (pg_nm k hx) ih) fun vs st H Q q => ?_
    obtain ⟨io, env, ds, env', sl, r, e, kk⟩ := q
    cases ds with
    | nil => simp [setAll] at e
    | cons d ds =>
      cases r with
      | cons r rr =>
        simp only [setAll] at e
        refine ⟨_, _, rfl, io, _, ds, env', sl.set r _, rr, e, fun st' sl' hw => kk st' sl' fun ws hws => ?_⟩
        rw [hw ws fun j hj => hws j (List.mem_cons_of_mem _ hj)]
        exact wipe_set (hws _ List.mem_cons_self)
def ST (G : Gb) (c : Cc) (tg : Expr) (is : List Nat) (one : Bool) : Prop := ∀ X F, CxOK G c X F → PG X tg (RdB F is one)
theorem sT1 {x : Str} {p : Pos} {i : Nat} (h : TgOK c x i) : ST G c (.Name x p) [i] true := by
  intro X F k
  refine PGw (pg_nm k h) fun v st H Q q => ?_
  obtain ⟨io, env, d, env', sl, r, e, kk⟩ := q
  simp only [bindT, setAll, Option.some.injEq] at e
  subst e
  exact kk _ (sl.set r i) fun ws hw => wipe_set (hw i (by simp))
theorem sTn {es : List Expr} {is : List Nat} {j : Nat} {p : Pos} (h : NsT c es is) : ST G c (.Tuple es j p) is false := by
  intro X F k
  refine PGw (pg_tup k.calm (h.pgs k) (h.ns X.env).1 (h.ns X.env).2) fun v st H Q q => ?_
  obtain ⟨io, env, d, env', sl, r, e, kk⟩ := q
  cases d <;> simp only [bindT] at e <;> try (cases e; done)
  cases r with
  | tup hs rs => exact ⟨_, _, rfl, by rw [k.hK]; exact hs, by rw [← rs.len, ← setAll_len e, h.ln], io, env, _, env', sl, rs, e, kk⟩
end
/-! ### any target -/
def RdG (F : Fx) (f : D → EnvD → Sto → Option (EnvD × Sto)) : TG := fun v st H Q => ∃ io env S d env' S', SlOK F io H st env ∧ StOK F io H S ∧ Rep F io H d v ∧ f d env S = some (env', S') ∧ ∀ io' H' st', Grow F io H io' H' → StOK F io' H' S' → SlOK F io' H' st' env' → Q st' H'
def RdGs (F : Fx) (f : List D → EnvD → Sto → Option (EnvD × Sto)) : TGs := fun v st H Q => ∃ io env S d env' S', SlOK F io H st env ∧ StOK F io H S ∧ Reps F io H d v ∧ f d env S = some (env', S') ∧ ∀ io' H' st', Grow F io H io' H' → StOK F io' H' S' → SlOK F io' H' st' env' → Q st' H'
/-- no starred target -/
def oneT : Expr → Bool
  | .Name .. => true
  | .Subscript .. => true
  | _ => false
def SG (G : Gb) (c : Cc) (tg : Expr) (t : Tg) : Prop := oneT tg = true ∧ ∀ X F, CxOK G c X F → PG X tg (RdG F (asgT G t))
section
variable {G : Gb} {c : Cc} {X : Cx} {F : Fx}
theorem sGn {x : Str} {p : Pos} {i : Nat} (h : TgOK c x i) : SG G c (.Name x p) (.name i) := by
  refine ⟨rfl, fun X F k => PGw (pg_nm k h) fun v st H Q q => ?_⟩
  obtain ⟨io, env, S, d, env', S', sl, so, r, e, kk⟩ := q
  simp only [asgT, Option.some.injEq, Prod.mk.injEq] at e
  obtain ⟨rfl, rfl⟩ := e
  exact kk io H _ (Grow.refl _ _) so (sl.set r i)
theorem sGs {o i : Expr} {x y : E} {p : Pos} (ho : SE G c o x) (hi : SE G c i y) (hx : ∀ (env : Env) v, assign (.Subscript o i p) env v = (do
      let ov ← holding [v] (eval o env)
      let iv ← holding [v, ov] (eval i env)
      standAt p
      holding [v, ov, iv] (setItem ov iv v)
      release [v, ov, iv] []) := by intro _ _; rfl) : SG G c (.Subscript o i p) (.sub x y) := by
  refine ⟨rfl, fun X F k => PGw (pg_sub (ho X F k).1 (hi X F k).1 set_list (hx X.env)) fun v st H Q q => ?_⟩
  obtain ⟨io, env, S, d, env', S', sl, so, r, e, kk⟩ := q
  simp only [asgT] at e
  split at e
  · rename_i n S1 q1
    split at e
    · rename_i j S2 q2
      split at e
      · rename_i l q3
        split at e
        · rename_i m q4
          cases e
          refine ⟨io, env, S, _, _, sl, so, q1, fun io1 H1 v1 g1 so1 r1 => ⟨io1, env, S1, _, _, sl.up g1, so1, q2, fun io2 H2 v2 g2 so2 r2 => ?_⟩⟩
          cases r1 with
          | ref hn =>
            cases r2
            have hn2 := g2.io_get hn
            obtain ⟨xs, h0, h1⟩ := so2.lst_at hn2 q3
            have hlt : n < S2.length := (List.getElem?_eq_some_iff.mp q3).1
            have rv : Rep F io2 H2 d v := (r.up g1).up g2
            have g3 := grow_set so2 hn2 hlt (.lst (xs.set m v))
            refine ⟨_, xs, j, m, rfl, rfl, h0, by rw [← h1.len]; exact q4, kk io2 _ st ((g1.trans g2).trans g3) ?_ (((sl.up g1).up g2).up g3)⟩
            exact so2.set hn2 hlt ⟨_, upd_same, ((h1.set rv m).up g3)⟩
        · cases e
      · cases e
    · cases e
  · cases e
inductive SGs (G : Gb) (c : Cc) : List Expr → List Tg → Prop
  | nil : SGs G c [] []
  | cons {e : Expr} {t : Tg} {es : List Expr} {ts : List Tg} : SG G c e t → SGs G c es ts → SGs G c (e :: es) (t :: ts)
theorem oneT_cons {e : Expr} (h : oneT e = true) (es : List Expr) (env : Env) : assignEach (e :: es) env = (false, assign e env) :: assignEach es env := by
  cases e <;> first
    | rfl
    | (cases h; done)
theorem SGs.ns {es : List Expr} {ts : List Tg} (h : SGs G c es ts) (env : Env) : (assignEach es env).length = es.length ∧ (assignEach es env).findIdx? (·.1) = none := by
  induction h with
  | nil => exact ⟨rfl, rfl⟩
  | cons hx _ ih =>
    rw [oneT_cons hx.1]
    refine ⟨by rw [List.length_cons, List.length_cons, ih.1], ?_⟩
    rw [List.findIdx?_cons]
    simp only [Bool.false_eq_true, if_false]
    rw [ih.2]
    rfl
theorem SGs.ln {es : List Expr} {ts : List Tg} (h : SGs G c es ts) : es.length = ts.length := by
  induction h with
  | nil => rfl
  | cons _ _ ih => rw [List.length_cons, List.length_cons, ih]
theorem asgTs_len {ts : List Tg} {ds : List D} {env : EnvD} {S : Sto} {r} (h : asgTs G ts ds env S = some r) : ts.length = ds.length := by
  induction ts generalizing ds env S with
  | nil => cases ds with
    | nil => rfl
    | cons => simp [asgTs] at h
  | cons i is ih => cases ds with
    | nil => simp [asgTs] at h
    | cons d ds =>
      simp only [asgTs] at h
      split at h
      · cases h
      · rw [List.length_cons, List.length_cons, ih h]
theorem SGs.pgs (k : CxOK G c X F) {es : List Expr} {ts : List Tg} (h : SGs G c es ts) : PGs X es (RdGs F (asgTs G ts)) := by
  induction h with
  | nil =>
    refine PGsw pgs_nil fun vs st H Q q => ?_
    obtain ⟨io, env, S, ds, env', S', sl, so, r, e, kk⟩ := q
    cases ds with
    | nil =>
      cases r
      simp only [asgTs, Option.some.injEq, Prod.mk.injEq] at e
      obtain ⟨rfl, rfl⟩ := e
      exact ⟨rfl, kk io H st (Grow.refl _ _) so sl⟩
    | cons => simp [asgTs] at e
  | cons hx _ ih =>
    refine PGsw (pgs_cons (hx.2 X F k) ih (by rw [oneT_cons hx.1]; rfl)) fun vs st H Q q => ?_
    obtain ⟨io, env, S, ds, env', S', sl, so, r, e, kk⟩ := q
    cases ds with
    | nil => simp [asgTs] at e
    | cons d ds =>
      cases r with
      | cons r rr =>
        simp only [asgTs] at e
        split at e
        · cases e
        · rename_i env1 S1 q1
          exact ⟨_, _, rfl, io, env, S, d, env1, S1, sl, so, r, q1, fun io1 H1 st1 g1 so1 sl1 => ⟨io1, env1, S1, ds, env', S', sl1, so1, rr.up g1, e, fun io2 H2 st2 g2 so2 sl2 => kk io2 H2 st2 (g1.trans g2) so2 sl2⟩⟩
end
end Ev

namespace Ev
open PySem PySem.Spec PyProof.Rows L2
/-! ### comprehensions -/
def relN (names outer : List (Str × NameKind)) : List (Str × NameKind) :=
  names.map fun (n, k) => if (k == .free && outer.lookup n == some .cell) then (n, .cell) else (n, k)
def Cc.blk (c : Cc) (scope : Scope) : Cc := { c with names := relN scope.names c.names, inner := true }
theorem CxOK.blk {G : Gb} {c : Cc} {X : Cx} {F : Fx} (h : CxOK G c X F) {scope : Scope} (hk : scope.kind = .function) (s : Shared) (H : Hp) (C : Addr) (cl : List (Str × Addr)) (fp : List Addr) (lk : List Addr) :
    CxOK G (c.blk scope) (X.blk s H scope (compEnvC scope cl C X.env) fp) { F with lk := lk } := by
  refine ⟨h.hK, h.hN, h.nd, ?_, hk, h.calm, h.gd, h.un, (fun z => by cases z), h.free, h.free2, h.glb, fun f ps hf => ⟨(h.call f ps hf).ex, (h.call f ps hf).len, (h.call f ps hf).at_⟩, h.dom⟩
  show (relS scope X.env.scope).names = relN scope.names c.names
  unfold relS relN
  rw [h.kf, h.nm]
  simp
theorem blkNames {N : List Str} {sc sc' scope : Scope} {own : List (Str × Nat)} (h : BlkOk N sc scope own) (e : sc'.names = sc.names) : BlkOk N sc' scope own :=
  ⟨h.kind, h.uniq, h.ix, fun y hy z => by rw [e]; exact h.free y hy z, h.own⟩
theorem SlOK.wipe {F : Fx} {io : List Addr} {H : Hp} : ∀ {st : L2.St} {env : EnvD} (vs : List Nat), SlOK F io H st env → SlOK F io H (L2.wipe st vs) (wipeD env vs)
  | st, env, [], h => h
  | st, env, v :: vs, h => by
    have q := SlOK.wipe vs h
    unfold L2.wipe wipeD
    refine ⟨by rw [List.length_set, List.length_set]; exact q.len, fun i d e => ?_⟩
    by_cases z : v = i
    · subst z
      obtain ⟨hl, _⟩ := List.getElem?_eq_some_iff.mp e
      rw [List.length_set] at hl
      rw [List.getElem?_set_self hl] at e
      cases e
    · rw [List.getElem?_set_ne z] at e ⊢
      exact q.at_ i d e
theorem wipe_set_comm {v : Nat} : ∀ (us : List Nat) (st : L2.St), L2.wipe (st.set v none) us = (L2.wipe st us).set v none
  | [], _ => rfl
  | u :: us, st => by
    unfold L2.wipe
    rw [wipe_set_comm us st]
    by_cases e : u = v
    · rw [e]
    · rw [List.set_comm _ _ (Ne.symm e)]
theorem wipe_wipe : ∀ (vs : List Nat) (st : L2.St), L2.wipe (L2.wipe st vs) vs = L2.wipe st vs
  | [], _ => rfl
  | v :: vs, st => by
    show (L2.wipe ((L2.wipe st vs).set v none) vs).set v none = (L2.wipe st vs).set v none
    rw [wipe_set_comm, wipe_wipe vs st, List.set_set]
def condF (G : Gb) (fi : Bool) (cd : E) (e : EnvD) (S : Sto) : Option (Bool × Sto) := match fi with
  | false => some (true, S)
  | true => cond G cd e S
/-- readings whatever lists are being made -/
def AnE (F : Fx) (f : EnvD → Sto → Option (D × Sto)) : TE := fun st H Q => ∃ lk, RdE { F with lk := lk } f st H Q
def AnT (F : Fx) (f : EnvD → Sto → Option (Bool × Sto)) : TT := fun st H Q => ∃ lk, RdT { F with lk := lk } f st H Q
def AnB (F : Fx) (tg : List Nat) (one : Bool) : TG := fun v st H Q => ∃ lk, RdB { F with lk := lk } tg one v st H Q
/-- a comprehension's test, or none -/
def SIf (G : Gb) (c : Cc) : List Expr → Bool → E → Prop
  | [], false, _ => True
  | [e], true, x => SE G c e x
  | _, _, _ => False
theorem Grow.cast {F F' : Fx} {io io' : List Addr} {H H' : Hp} (g : Grow F io H io' H') : Grow F' io H io' H' := ⟨g.more, g.keep, g.tups, g.frzs, g.lsts⟩
section
variable {G : Gb} {c : Cc} {X : Cx} {F : Fx}
theorem sLc {elt tg iter : Expr} {ifs : List Expr} {scope : Scope} {own : List (Str × Nat)} {pos : Pos} {is : List Nat} {one : Bool} {n : Nat} {its : List E} {fi : Bool} {cd y : E}
    (hi : SI G c tg iter n its) (ok : blkC c.N { scope with names := c.names } scope own = true) (hg : ST G (c.blk scope) tg is one) (hin : (is.all fun i => own.any fun p => p.2 == i) = true) (hf : SIf G (c.blk scope) ifs fi cd) (he : SE G (c.blk scope) elt y)
    (X : Cx) (F : Fx) (k : CxOK G c X F) : BlkOk X.N X.env.scope scope own ∧ PI X tg iter (RdI F (itf G n its)) ∧
      (∀ (s : Shared) (H : Hp) (C : Addr) (cl : List (Str × Addr)) (fp : List Addr), PG (X.blk s H scope (compEnvC scope cl C X.env) fp) tg (AnB F is one)) ∧ (∀ (s : Shared) (H : Hp) (C : Addr) (cl : List (Str × Addr)) (fp : List Addr), PTs (X.blk s H scope (compEnvC scope cl C X.env) fp) ifs (AnT F (condF G fi cd))) ∧
      (∀ (s : Shared) (H : Hp) (C : Addr) (cl : List (Str × Addr)) (fp : List Addr), PE (X.blk s H scope (compEnvC scope cl C X.env) fp) elt (AnE F (ev G y))) := by
  have b := blkOk_by ok
  have kf := b.kind
  refine ⟨by rw [k.hN]; exact blkNames b k.nm, hi X F k, fun s H C cl fp => ⟨fun pins s' st H v u Q I r q => ?_⟩, fun s H C cl fp => ?_, fun s H C cl fp => ⟨fun pins s' st H Q I q => ?_⟩⟩
  · obtain ⟨lk, q⟩ := q
    exact (hg _ _ (k.blk kf s _ C cl fp lk)).run pins s' st H v u Q I r q
  · cases ifs with
    | nil =>
      cases fi with
      | true => exact hf.elim
      | false =>
        refine ⟨fun pins s' st H Q I q => pts_nil.run pins s' st H Q I ?_⟩
        obtain ⟨lk, io, env, S, d, S', sl, so, e, kk⟩ := q
        simp only [condF, Option.some.injEq, Prod.mk.injEq] at e
        obtain ⟨rfl, rfl⟩ := e
        exact kk io H (Grow.refl _ _) so
    | cons e r =>
      cases r with
      | cons => exact hf.elim
      | nil =>
        cases fi with
        | false => exact hf.elim
        | true =>
          have hf : SE G (c.blk scope) e cd := hf
          refine pts_one ⟨fun pins s' st H Q I q => ?_⟩
          obtain ⟨lk, q⟩ := q
          exact (hf _ _ (k.blk kf s _ C cl fp lk)).2.run pins s' st H Q I q
  · obtain ⟨lk, q⟩ := q
    exact (he _ _ (k.blk kf s _ C cl fp lk)).1.run pins s' st H Q I q
/-- the loop's invariant -/
structure LcW (G : Gb) (F : Fx) (is vs : List Nat) (one fi : Bool) (cd y : E) (io1 : List Addr) (H1 : Hp) (D : Addr) (env : EnvD) (ds : List Ev.D) (gd : Sto → Bool) (l : List Ev.D) (S2 : Sto) (i m : Nat) (H : Hp) : Prop where
  ex : ∃ (io' : List Addr) (S' : Sto) (acc : List Ev.D) (xs : List V), m = ds.length - i ∧ i ≤ ds.length ∧ Grow F io1 H1 io' H ∧ StOK { F with lk := D :: F.lk } io' H S' ∧ H D = some (.lst xs) ∧ Reps { F with lk := D :: F.lk } io' H acc xs ∧
    compLoop gd (bindT is one) (condF G fi cd) (ev G y) (wipeD env vs) (ds.drop i) S' acc = some (l, S2)
theorem kpD {io1 io' : List Addr} {H1 H' : Hp} {D : Addr} (g : Grow F io1 H1 io' H') (hD : H1 D = none) : Kp F { F with lk := D :: F.lk } io1 H1 io' H' :=
  ⟨rfl, rfl, fun n a h => g.io_get h, fun a xs h n m => ⟨g.nin h n, fun z => by
    rcases List.mem_cons.mp z with z | z
    · rw [z, hD] at h; cases h
    · exact m z, g.keep _ _ h n⟩, g.tups, g.frzs⟩
theorem kpBack {io : List Addr} {H : Hp} {D : Addr} : Kp { F with lk := D :: F.lk } F io H io H :=
  ⟨rfl, rfl, fun n a h => h, fun a xs h n m => ⟨n, fun z => m (List.mem_cons_of_mem _ z), h⟩, fun _ _ h => h, fun _ _ _ h => h⟩
theorem kpUpd {io : List Addr} {H : Hp} {D : Addr} {xs ys : List V} (hD : H D = some (.lst xs)) : Kp { F with lk := D :: F.lk } { F with lk := D :: F.lk } io H io (upd H D (.lst ys)) := by
  refine ⟨rfl, rfl, fun n a h => h, fun a zs h n m => ⟨n, m, ?_⟩, fun a zs h => ?_, fun a o u h => ?_⟩
  · rw [upd_ne (fun z => m (by rw [z]; exact List.mem_cons_self))]; exact h
  · rw [upd_ne (fun z => by rw [z, hD] at h; cases h)]; exact h
  · rw [upd_ne (fun z => by rw [z, hD] at h; cases h)]; exact h
theorem lc_go (k : CxOK G c X F) {own : List (Str × Nat)} {is : List Nat} {one : Bool} {n : Nat} {its : List E} {fi : Bool} {cd y : E} (hin : (is.all fun i => own.any fun p => p.2 == i) = true) {st : L2.St} {H : Hp} {Q : VK}
    (q : RdE F (ev G (.comp (own.map (·.2)) is one n its fi cd y)) st H Q) : tLc (RdI F (itf G n its)) (AnB F is one) (AnT F (condF G fi cd)) (AnE F (ev G y)) (own.map (·.2)) st H Q := by
  obtain ⟨io, env, S, d, S', sl, so, e, kk⟩ := q
  simp only [ev] at e
  split at e
  · cases e
  · rename_i as S1 q1
    split at e
    · cases e
    · rename_i ds gd q2
      split at e
      · cases e
      · rename_i l S2 q3
        simp only [Option.some.injEq, Prod.mk.injEq] at e
        obtain ⟨rfl, rfl⟩ := e
        replace q3 : compLoop gd (bindT is one) (condF G fi cd) (ev G y) (wipeD env (own.map (·.2))) ds S1 [] = some (l, S2) := by
          rw [← q3]
          congr 1
        refine ⟨io, env, S, (ds, gd), S1, sl, so, by simp only [itf, q1, q2], fun io1 H1 J g1 so1 it D hD => ?_⟩
        have nD : D ∉ io1 := so1.fresh hD
        have nL : D ∉ F.lk := so1.nlk hD
        have so1' : StOK { F with lk := D :: F.lk } io1 (upd H1 D (.lst [])) S1 := by
          have z := so1.new hD (.lst [])
          refine ⟨z.len, z.nd, fun a ha => ?_, fun i a m h1 h2 => (so1.at_ i a m h1 h2).kp ?_ ?_⟩
          · rcases List.mem_cons.mp ha with q | q
            · subst q
              exact ⟨nD, _, upd_same⟩
            · exact z.lk a q
          · exact kpD (grow_new so1 hD _) hD
          · obtain ⟨o, eo, _⟩ := (so1.at_ i a m h1 h2).some_
            exact upd_ne (ne_of_none eo hD)
        refine ⟨fun i m H => LcW G F is (own.map (·.2)) one fi cd y io1 H1 D env ds gd l S2 i m H, ⟨ds.length - 0, ⟨io1, S1, [], [], rfl, Nat.zero_le _, grow_new so1 hD _, so1', upd_same, .nil, q3⟩⟩, ?_⟩
        rintro i m H' ⟨io', S', acc, xs, rfl, hi, g', so', hDl, hr, hc⟩
        have kp := kpD g' hD
        by_cases hlt : i < ds.length
        · have hdr : ds.drop i = ds[i] :: ds.drop (i + 1) := List.drop_eq_getElem_cons hlt
          rw [hdr] at hc
          simp only [compLoop] at hc
          split at hc
          · rename_i hgd
            refine .inr ⟨it.go _ io' H' S' i kp so' hgd hlt, fun H'' => LcW G F is (own.map (·.2)) one fi cd y io1 H1 D env ds gd l S2 (i + 1) (ds.length - (i + 1)) H'', fun H'' w => ⟨_, by omega, w⟩, fun x H2 hy => ?_⟩
            obtain ⟨dx, ed, g2, so2, r2⟩ := it.yld _ io' H' S' i x H2 kp so' hgd hlt hy
            rw [List.getElem?_eq_getElem hlt] at ed
            cases ed
            split at hc
            · cases hc
            · rename_i env1 q4
              have slw : SlOK { F with lk := D :: F.lk } io' H2 (L2.wipe st (own.map (·.2))) (wipeD env (own.map (·.2))) := (((sl.up g1).kp kp).up g2).wipe _
              refine ⟨D :: F.lk, io', _, _, env1, slw, r2, q4, fun st' sl' hw => ⟨?_, ?_⟩⟩
              · rw [hw (own.map (·.2)) fun j hj => ?_, wipe_wipe]
                have := (List.all_eq_true.mp hin) j hj
                obtain ⟨p, hp, e⟩ := List.any_eq_true.mp this
                exact List.mem_map.mpr ⟨p, hp, by simpa using e⟩
              · split at hc
                · cases hc
                · rename_i S3 q5
                  refine ⟨D :: F.lk, io', env1, S', false, S3, sl', so2, q5, fun io3 H3 g3 so3 => ?_⟩
                  simp only [Bool.false_eq_true, if_false]
                  exact ⟨io3, S3, acc, xs, rfl, hlt, (g'.trans (g2.cast)).trans g3.cast, so3, g3.keep _ _ (g2.keep _ _ hDl (so'.lk D List.mem_cons_self).1) (so2.lk D List.mem_cons_self).1, (hr.up g2).up g3, hc⟩
                · rename_i S3 q5
                  refine ⟨D :: F.lk, io', env1, S', true, S3, sl', so2, q5, fun io3 H3 g3 so3 => ?_⟩
                  simp only [if_true]
                  split at hc
                  · cases hc
                  · rename_i dv S4 q6
                    split at hc
                    · rename_i hz
                      refine ⟨D :: F.lk, io3, env1, S3, dv, S4, sl'.up g3, so3, q6, fun io4 H4 v g4 so4 r4 => ?_⟩
                      have hD4 := g4.keep _ _ (g3.keep _ _ (g2.keep _ _ hDl (so'.lk D List.mem_cons_self).1) (so2.lk D List.mem_cons_self).1) (so3.lk D List.mem_cons_self).1
                      have hr4 := ((hr.up g2).up g3).up g4
                      have kpu := kpUpd (F := F) (io := io4) (ys := xs ++ [v]) hD4
                      have gg : Grow F io1 H1 io4 H4 := ((g'.trans g2.cast).trans g3.cast).trans g4.cast
                      refine ⟨xs, hD4, by rw [← hr4.len]; exact hz, io4, S4, acc ++ [dv], xs ++ [v], rfl, hlt, ?_, ?_, upd_same, Reps.kp kpu _ _ (hr4.app (.cons r4 .nil)), hc⟩
                      · refine ⟨gg.more, fun a o h na => ?_, fun a u h => ?_, fun a o u h => ?_, fun a h => ?_⟩
                        · rw [upd_ne (ne_of_none h hD)]; exact gg.keep a o h na
                        · rw [upd_ne (ne_of_none h hD)]; exact gg.tups a u h
                        · rw [upd_ne (ne_of_none h hD)]; exact gg.frzs a o u h
                        · by_cases z : a = D
                          · rw [z]; exact hD
                          · rw [upd_ne z] at h; exact gg.lsts a h
                      · refine ⟨so4.len, so4.nd, fun a ha => ⟨(so4.lk a ha).1, ?_⟩, fun j a m h1 h2 => (so4.at_ j a m h1 h2).kp kpu ?_⟩
                        · by_cases z : a = D
                          · rw [z]; exact ⟨_, upd_same⟩
                          · rw [upd_ne z]; exact (so4.lk a ha).2
                        · refine upd_ne fun z => ?_
                          subst z
                          exact (so4.lk a List.mem_cons_self).1 (List.mem_of_getElem? h1)
                    · cases hc
          · cases hc
        · have ei : i = ds.length := by omega
          rw [ei, List.drop_length] at hc
          simp only [compLoop] at hc
          split at hc
          · rename_i hgd
            cases hc
            refine .inl ⟨it.stop _ io' H' S2 i kp so' hgd (show ds.length ≤ i by omega), kk io' H' _ (g1.trans g') ⟨so'.len, so'.nd, fun a ha => so'.lk a (List.mem_cons_of_mem _ ha), fun j a m h1 h2 => (so'.at_ j a m h1 h2).kp kpBack rfl⟩ ?_⟩
            exact .lst (so'.lk D List.mem_cons_self).1 nL hDl (Reps.kp kpBack _ _ hr)
          · cases hc
theorem sComp {elt tg iter : Expr} {ifs : List Expr} {scope : Scope} {own : List (Str × Nat)} {pos : Pos} {is : List Nat} {one : Bool} {n : Nat} {its : List E} {fi : Bool} {cd y : E}
    (hi : SI G c tg iter n its) (ok : blkC c.N { scope with names := c.names } scope own = true) (hg : ST G (c.blk scope) tg is one) (hin : (is.all fun i => own.any fun p => p.2 == i) = true) (hf : SIf G (c.blk scope) ifs fi cd) (he : SE G (c.blk scope) elt y)
    (hs : ∀ env x, foldedSetIterable iter env x = pure x := by intro _ _; rfl) : SE G c (.ListComp elt [⟨tg, iter, ifs, 0⟩] scope pos) (.comp (own.map (·.2)) is one n its fi cd y) := by
  refine SE.plain (fun X F k => ?_) fun _ _ => rfl
  obtain ⟨b, p1, p2, p3, p4⟩ := sLc (elt := elt) (pos := pos) hi ok hg hin hf he X F k
  exact PEw (pe_lc k.calm (by rw [k.hN]; exact k.nd) p1 b p2 p3 p4 (hs X.env)) fun st H Q q => lc_go k hin q
end
end Ev

namespace Ev
open PySem PySem.Spec PyProof.Rows L2
/-! ### statements -/
def endF (F : Fx) (io : List Addr) (H : Hp) (st : L2.St) (D : Ends) : Fl → Prop
  | .nx => D.nx st H
  | .bk => D.bk st H
  | .ct => D.ct st H
  | .rt d => ∀ v, Rep F io H d v → D.rt v H
def RdS (F : Fx) (f : EnvD → Sto → Option (Fl × EnvD × Sto)) : TS := fun D st H => ∃ io env S r env' S', SlOK F io H st env ∧ StOK F io H S ∧ f env S = some (r, env', S') ∧ ∀ io' H' st', Grow F io H io' H' → StOK F io' H' S' → SlOK F io' H' st' env' → endF F io' H' st' D r
def SS (G : Gb) (c : Cc) (w : Nat) (s : Stmt) (t : T) : Prop := ∀ X F, CxOK G c X F → PassesOwn (model X.prog X.w) X.A X.env X.xe → PS X s (RdS F (ex G w t))
def SSs (G : Gb) (c : Cc) (w : Nat) (s : List Stmt) (t : List T) : Prop := ∀ X F, CxOK G c X F → PassesOwn (model X.prog X.w) X.A X.env X.xe → PSs X s (RdS F (exs G w t))
/-- no comprehension -/
def noLc : Expr → Bool
  | .ListComp .. => false
  | .SetComp .. => false
  | .DictComp .. => false
  | _ => true
theorem sw_plain {e : Expr} (h : noLc e = true) (t : Option Expr) (l : Nat) (env : Env) : swapsWith e t l env = pure false := by
  cases e <;> first
    | rfl
    | (cases h; done)
theorem sw_lc {elt : Expr} {gs : List Comprehension} {scope : Scope} {pos py : Pos} {y : Str} {l : Nat} {env : Env} : swapsWith (.ListComp elt gs scope pos) (some (.Name y py)) l env = pure (env.blockKind == .function && env.kindOf y == some .local && py.line == pos.line
      && !(scope.names.any fun (n, k) => n == y && (k == .local || k == .cell))) := rfl
section
variable {G : Gb} {c : Cc} {X : Cx} {F : Fx} {w : Nat}
theorem Loc_of (k : CxOK G c X F) {x : Str} {i : Nat} (h : TgOK c x i) : Loc X.env.scope x := by
  rcases h.2 with q | q
  · exact .inl (by rw [k.nm]; exact q)
  · exact .inr (by rw [k.nm]; exact q.1)
theorem fn_of (k : CxOK G c X F) {x : Str} {i : Nat} (h : TgOK c x i) : X.fn x = true ∨ X.env.scope.names.lookup x = some .local := by
  rcases h.2 with q | q
  · exact .inr (by rw [k.nm]; exact q)
  · exact .inl (k.st q.2 x)
/-- an expression's value bound to a name -/
theorem asg_nm {te : EnvD → Sto → Option (D × Sto)} {i : Nat} {D : Ends} {st : L2.St} {H : Hp} (q : RdS F (fun env S => match te env S with
    | none => none
    | some (d, S1) => some (.nx, env.set i (some d), S1)) D st H) : RdE F te st H fun x H1 => gName i x st H1 D.nx := by
  obtain ⟨io, env, S, r, env', S', sl, so, e, kk⟩ := q
  dsimp only at e
  split at e
  · cases e
  · rename_i d S1 q1
    cases e
    exact ⟨io, env, S, d, S', sl, so, q1, fun io1 H1 v g1 so1 r1 => kk io1 H1 _ g1 so1 ((sl.up g1).set r1 i)⟩
theorem ex_asg {i : Nat} {x : E} : ex G w (.asg (.name i) x) = fun env S => match ev G x env S with
    | none => none
    | some (d, S1) => some (.nx, env.set i (some d), S1) := by
  funext env S
  simp only [ex, asgT] <;> (cases ev G x env S <;> rfl)
theorem sSet {x : Str} {p pos : Pos} {i : Nat} {e : Expr} {y : E} (h : TgOK c x i) (he : SE G c e y) (hn : noLc e = true) : SS G c w (.Assign [.Name x p] e pos) (.asg (.name i) y) := by
  intro X F k hp
  refine PSw (ps_set (by rw [k.hN]; exact k.nd) (by rw [k.hN]; exact h.1) (Loc_of k h) (he X F k).1 (sw_plain hn _ _ _) (fn_of k h)) fun D st H q => ?_
  rw [ex_asg] at q
  exact asg_nm q
theorem sSetLc {x : Str} {py spos : Pos} {i : Nat} {elt tg iter : Expr} {ifs : List Expr} {scope : Scope} {own : List (Str × Nat)} {pos : Pos} {is : List Nat} {one : Bool} {n : Nat} {its : List E} {fi : Bool} {cd y : E} (h : TgOK c x i)
    (hi : SI G c tg iter n its) (ok : blkC c.N { scope with names := c.names } scope own = true) (hg : ST G (c.blk scope) tg is one) (hin : (is.all fun i => own.any fun p => p.2 == i) = true) (hf : SIf G (c.blk scope) ifs fi cd) (he : SE G (c.blk scope) elt y)
    (hs : ∀ env x, foldedSetIterable iter env x = pure x := by intro _ _; rfl) : SS G c w (.Assign [.Name x py] (.ListComp elt [⟨tg, iter, ifs, 0⟩] scope pos) spos) (.asg (.name i) (.comp (own.map (·.2)) is one n its fi cd y)) := by
  intro X F k hp
  by_cases hsw : (X.env.blockKind == .function && X.env.kindOf x == some .local && py.line == pos.line && !(scope.names.any fun (n, k) => n == x && (k == .local || k == .cell))) = true
  · obtain ⟨b, p1, p2, p3, p4⟩ := sLc (elt := elt) (pos := pos) hi ok hg hin hf he X F k
    have hl : X.env.scope.names.lookup x = some .local := by
      simp only [Bool.and_eq_true] at hsw
      have := hsw.1.1.2
      unfold Env.kindOf at this
      simpa using this
    refine PSw (ps_setLc k.calm (by rw [k.hN]; exact k.nd) (by rw [k.hN]; exact h.1) hl (by rw [sw_lc, hsw]) p1 b p2 p3 p4 (hs X.env)) fun D st H q => ?_
    rw [ex_asg] at q
    exact lc_go k hin (asg_nm q)
  · refine PSw (ps_set (by rw [k.hN]; exact k.nd) (by rw [k.hN]; exact h.1) (Loc_of k h) ((sComp hi ok hg hin hf he hs) X F k).1 (by rw [sw_lc]; exact congrArg pure (Bool.eq_false_iff.mpr hsw)) (fn_of k h)) fun D st H q => ?_
    rw [ex_asg] at q
    exact asg_nm q
theorem sSub {o i e : Expr} {p pos : Pos} {x1 x2 y : E} (hg : SG G c (.Subscript o i p) (.sub x1 x2)) (he : SE G c e y) (hn : noLc e = true) : SS G c w (.Assign [.Subscript o i p] e pos) (.asg (.sub x1 x2) y) := by
  intro X F k hp
  refine PSw (ps_asg (he X F k).1 (hg.2 X F k) (by unfold swapsWithSole; exact sw_plain hn _ _ _) (by cases e <;> rfl)) fun D st H q => ?_
  obtain ⟨io, env, S, r, env', S', sl, so, e, kk⟩ := q
  simp only [ex] at e
  split at e
  · cases e
  · rename_i d S1 q1
    split at e
    · cases e
    · rename_i env1 S2 q2
      cases e
      exact ⟨io, env, S, d, S1, sl, so, q1, fun io1 H1 v g1 so1 r1 => ⟨io1, env, S1, d, _, _, sl.up g1, so1, r1, q2, fun io2 H2 st2 g2 so2 sl2 => kk io2 H2 st2 (g1.trans g2) so2 sl2⟩⟩
/-- what the two-name form tells -/
def swN (names : List (Str × NameKind)) (ts vs : List Expr) : Option (Option (List Str)) :=
  if (!(ts.length == 2 || ts.length == 3) || vs.length != ts.length) = true then some none else
  if (vs.any fun | .Starred .. => true | _ => false) = true then some none else
  let line := (ts.head?.map (·.pos.line)).getD 0
  let ns := ts.filterMap fun
    | .Name id pos => if names.lookup id == some .local && pos.line == line then some id else none
    | _ => none
  if (ns.length != ts.length || ns.eraseDups.length != ns.length) = true then some none else
  if (vs.all (foldedForSure 8)) = true then some none else
  if (vs.all (constantsAlone 8)) = true then none else some (some ns)
theorem swN_ok (k : CxOK G c X F) {ts vs : List Expr} {j j2 : Nat} {p p2 : Pos} {r : Option (List Str)} (h : swN c.names ts vs = some r) : swappedStores [.Tuple ts j p] (.Tuple vs j2 p2) X.env = pure r := by
  have hb : (X.env.blockKind != ScopeKind.function) = false := by
    unfold Env.blockKind
    rw [k.kf]
    rfl
  have hk : ∀ id, X.env.kindOf id = c.names.lookup id := fun id => by unfold Env.kindOf; rw [k.nm]
  simp only [swN] at h
  simp only [swappedStores, hb, Bool.or_false, hk]
  split at h
  · rename_i h1
    refine (if_pos h1).trans ?_
    cases h; rfl
  · rename_i h1
    refine (if_neg h1).trans ?_
    split at h
    · rename_i h2
      refine (if_pos h2).trans ?_
      cases h; rfl
    · rename_i h2
      refine (if_neg h2).trans ?_
      split at h
      · rename_i h3
        refine (if_pos h3).trans ?_
        cases h; rfl
      · rename_i h3
        refine (if_neg h3).trans ?_
        split at h
        · rename_i h4
          refine (if_pos h4).trans ?_
          cases h; rfl
        · rename_i h4
          refine (if_neg h4).trans ?_
          split at h
          · cases h
          · rename_i h5
            refine (if_neg h5).trans ?_
            cases h; rfl
end
end Ev

namespace Ev
open PySem PySem.Spec PyProof.Rows L2
section
variable {G : Gb} {c : Cc} {X : Cx} {F : Fx} {w : Nat}
theorem sAsgT {ts : List Expr} {j : Nat} {p pos : Pos} {tgs : List Tg} {e : Expr} {y : E} (hg : SGs G c ts tgs) (he : SE G c e y) (hw : ∀ X F, CxOK G c X F → swappedStores [.Tuple ts j p] e X.env = pure none) : SS G c w (.Assign [.Tuple ts j p] e pos) (.tup tgs y) := by
  intro X F k hp
  refine PSw (ps_asg (he X F k).1 (pg_tup k.calm (hg.pgs k) (hg.ns X.env).1 (hg.ns X.env).2) (by unfold swapsWithSole; cases e <;> rfl) (hw X F k)) fun D st H q => ?_
  obtain ⟨io, env, S, r, env', S', sl, so, e, kk⟩ := q
  simp only [ex] at e
  split at e
  · rename_i l S1 q1
    split at e
    · cases e
    · rename_i env1 S2 q2
      cases e
      refine ⟨io, env, S, _, S1, sl, so, q1, fun io1 H1 v g1 so1 r1 => ?_⟩
      cases r1 with
      | tup hs rs => exact ⟨_, _, rfl, by rw [k.hK]; exact hs, by rw [← rs.len, ← asgTs_len q2, hg.ln], io1, env, S1, _, _, _, sl.up g1, so1, rs, q2, fun io2 H2 st2 g2 so2 sl2 => kk io2 H2 st2 (g1.trans g2) so2 sl2⟩
  · cases e
theorem sPar2 {x y : Str} {a b : Expr} {px py pt pos : Pos} {i j kt k2 : Nat} {pt2 : Pos} {es : List E} (hx : c.N[i]? = some x) (hy : c.N[j]? = some y) (hij : i ≠ j) (lx : c.names.lookup x = some .local) (ly : c.names.lookup y = some .local) (ha : SA G c [a, b] es)
    (hw : swN c.names [.Name x px, .Name y py] [a, b] = some (some [x, y])) : SS G c w (.Assign [.Tuple [.Name x px, .Name y py] kt pt] (.Tuple [a, b] k2 pt2) pos) (.par [i, j] es) := by
  intro X F k hp
  refine PSw (ps_par k.calm (by rw [k.hN]; exact k.nd) (by rw [k.hN]; exact hx) (by rw [k.hN]; exact hy) hij (by rw [k.nm]; exact lx) (by rw [k.nm]; exact ly) (ha.pa k) (swN_ok k hw)) fun D st H q => ?_
  obtain ⟨io, env, S, r, env', S', sl, so, e, kk⟩ := q
  simp only [ex] at e
  split at e
  · cases e
  · rename_i ds S1 q1
    split at e
    · cases e
    · rename_i env1 q2
      cases e
      refine ⟨io, env, S, ds, _, sl, so, q1, fun io1 H1 vs g1 so1 r1 => ?_⟩
      cases r1 with
      | nil => simp [setAll] at q2
      | cons r r2 => cases r2 with
        | nil => simp [setAll] at q2
        | cons r' r2 => cases r2 with
          | cons => simp [setAll] at q2
          | nil =>
            simp only [setAll, Option.some.injEq] at q2
            subst q2
            exact ⟨_, _, rfl, kk io1 H1 _ g1 so1 (((sl.up g1).set r i).set r' j)⟩
theorem sPar3 {x y z : Str} {a b d : Expr} {px py pz pt pos : Pos} {i j l kt k2 : Nat} {pt2 : Pos} {es : List E} (hx : c.N[i]? = some x) (hy : c.N[j]? = some y) (hz : c.N[l]? = some z) (hij : i ≠ j) (hil : i ≠ l) (hjl : j ≠ l) (lx : c.names.lookup x = some .local) (ly : c.names.lookup y = some .local) (lz : c.names.lookup z = some .local)
    (ha : SA G c [a, b, d] es) (hw : swN c.names [.Name x px, .Name y py, .Name z pz] [a, b, d] = some (some [x, y, z])) : SS G c w (.Assign [.Tuple [.Name x px, .Name y py, .Name z pz] kt pt] (.Tuple [a, b, d] k2 pt2) pos) (.par [i, j, l] es) := by
  intro X F k hp
  refine PSw (ps_par3 k.calm (by rw [k.hN]; exact k.nd) (by rw [k.hN]; exact hx) (by rw [k.hN]; exact hy) (by rw [k.hN]; exact hz) hij hil hjl (by rw [k.nm]; exact lx) (by rw [k.nm]; exact ly) (by rw [k.nm]; exact lz) (ha.pa k) (swN_ok k hw)) fun D st H q => ?_
  obtain ⟨io, env, S, r, env', S', sl, so, e, kk⟩ := q
  simp only [ex] at e
  split at e
  · cases e
  · rename_i ds S1 q1
    split at e
    · cases e
    · rename_i env1 q2
      cases e
      refine ⟨io, env, S, ds, _, sl, so, q1, fun io1 H1 vs g1 so1 r1 => ?_⟩
      cases r1 with
      | nil => simp [setAll] at q2
      | cons r r2 => cases r2 with
        | nil => simp [setAll] at q2
        | cons r' r2 => cases r2 with
          | nil => simp [setAll] at q2
          | cons r'' r2 => cases r2 with
            | cons => simp [setAll] at q2
            | nil =>
              simp only [setAll, Option.some.injEq] at q2
              subst q2
              exact ⟨_, _, _, rfl, kk io1 H1 _ g1 so1 ((((sl.up g1).set r i).set r' j).set r'' l)⟩
theorem ip_of {op : Operator} (h : op = .Add ∨ op = .Sub) : PIp X op (fun x y H Q => ∃ i j z, x = .int i ∧ y = .int j ∧ ibop op i j = some z ∧ Q (.int z) H) := by
  rcases h with rfl | rfl
  · intro pins s st H x y v u Q I r1 r2 q
    obtain ⟨i, j, z, e1, e2, e3, q⟩ := q
    simp only [ibop, Option.some.injEq] at e3
    subst e3
    exact ip_add pins s st H x y v u Q I r1 r2 ⟨i, j, e1, e2, q⟩
  · intro pins s st H x y v u Q I r1 r2 q
    obtain ⟨i, j, z, e1, e2, e3, q⟩ := q
    simp only [ibop, Option.some.injEq] at e3
    subst e3
    exact ip_sub pins s st H x y v u Q I r1 r2 ⟨i, j, e1, e2, q⟩
theorem sAug {x : Str} {p pos : Pos} {i : Nat} {op : Operator} {e : Expr} {y : E} (h : TgOK c x i) (ho : op = .Add ∨ op = .Sub) (he : SE G c e y) : SS G c w (.AugAssign (.Name x p) op e pos) (.aug i op y) := by
  intro X F k hp
  refine PSw (ps_aug (by rw [k.hN]; exact k.nd) (by rw [k.hN]; exact h.1) (Loc_of k h) (he X F k).1 (ip_of ho) (fn_of k h)) fun D st H q => ?_
  obtain ⟨io, env, S, r, env', S', sl, so, e, kk⟩ := q
  simp only [ex] at e
  split at e
  · rename_i x0 q0
    split at e
    · rename_i y0 S1 q1
      split at e
      · rename_i z q2
        cases e
        obtain ⟨v, hv, rv⟩ := sl.at_ i _ q0
        cases rv
        refine ⟨_, hv, io, env, S, _, _, sl, so, q1, fun io1 H1 u g1 so1 r1 => ?_⟩
        cases r1
        exact ⟨_, _, z, rfl, rfl, q2, kk io1 H1 _ g1 so1 ((sl.up g1).set (.int z) i)⟩
      · cases e
    · cases e
  · cases e
theorem sExpr {e : Expr} {y : E} {pos : Pos} (he : SE G c e y) (hn : noLc e = true) : SS G c w (.Expr e pos) (.expr y) := by
  intro X F k hp
  refine PSw (ps_expr (he X F k).1 (sw_plain hn _ _ _)) fun D st H q => ?_
  obtain ⟨io, env, S, r, env', S', sl, so, e, kk⟩ := q
  simp only [ex] at e
  split at e
  · cases e
  · rename_i d S1 q1
    cases e
    exact ⟨io, env, S, d, _, sl, so, q1, fun io1 H1 v g1 so1 r1 => kk io1 H1 st g1 so1 (sl.up g1)⟩
theorem sDoc {x : Str} {j : Nat} {p pos : Pos} : SS G c w (.Expr (.Constant (.str x) j p) pos) .pass := by
  intro X F k hp
  refine PSw ps_doc fun D st H q => ?_
  obtain ⟨io, env, S, r, env', S', sl, so, e, kk⟩ := q
  simp only [ex, Option.some.injEq, Prod.mk.injEq] at e
  obtain ⟨rfl, rfl, rfl⟩ := e
  exact kk io H st (Grow.refl _ _) so sl
theorem sPass {pos : Pos} : SS G c w (.Pass pos) .pass := by
  intro X F k hp
  refine PSw ps_pass fun D st H q => ?_
  obtain ⟨io, env, S, r, env', S', sl, so, e, kk⟩ := q
  simp only [ex, Option.some.injEq, Prod.mk.injEq] at e
  obtain ⟨rfl, rfl, rfl⟩ := e
  exact kk io H st (Grow.refl _ _) so sl
theorem sBrk {pos : Pos} : SS G c w (.Break pos) .brk := by
  intro X F k hp
  refine PSw ps_break fun D st H q => ?_
  obtain ⟨io, env, S, r, env', S', sl, so, e, kk⟩ := q
  simp only [ex, Option.some.injEq, Prod.mk.injEq] at e
  obtain ⟨rfl, rfl, rfl⟩ := e
  exact kk io H st (Grow.refl _ _) so sl
theorem sCont {pos : Pos} : SS G c w (.Continue pos) .cont := by
  intro X F k hp
  refine PSw ps_continue fun D st H q => ?_
  obtain ⟨io, env, S, r, env', S', sl, so, e, kk⟩ := q
  simp only [ex, Option.some.injEq, Prod.mk.injEq] at e
  obtain ⟨rfl, rfl, rfl⟩ := e
  exact kk io H st (Grow.refl _ _) so sl
theorem sRetN {pos : Pos} : SS G c w (.Return none pos) .retN := by
  intro X F k hp
  refine PSw ps_retN fun D st H q => ?_
  obtain ⟨io, env, S, r, env', S', sl, so, e, kk⟩ := q
  simp only [ex, Option.some.injEq, Prod.mk.injEq] at e
  obtain ⟨rfl, rfl, rfl⟩ := e
  exact kk io H st (Grow.refl _ _) so sl _ .non
theorem sRet {e : Expr} {y : E} {pos : Pos} (he : SE G c e y) : SS G c w (.Return (some e) pos) (.ret y) := by
  intro X F k hp
  refine PSw (ps_ret (he X F k).1) fun D st H q => ?_
  obtain ⟨io, env, S, r, env', S', sl, so, e, kk⟩ := q
  simp only [ex] at e
  split at e
  · cases e
  · rename_i d S1 q1
    cases e
    exact ⟨io, env, S, d, _, sl, so, q1, fun io1 H1 v g1 so1 r1 => kk io1 H1 st g1 so1 (sl.up g1) v r1⟩
theorem sStop {s : Stmt} : SS G c w s .stop := by
  intro X F k hp
  refine PSw ps_never fun D st H q => ?_
  obtain ⟨io, env, S, r, env', S', sl, so, e, kk⟩ := q
  simp [ex] at e
theorem ssNil : SSs G c w [] [] := by
  intro X F k hp
  refine PSsw pss_nil fun D st H q => ?_
  obtain ⟨io, env, S, r, env', S', sl, so, e, kk⟩ := q
  simp only [exs, Option.some.injEq, Prod.mk.injEq] at e
  obtain ⟨rfl, rfl, rfl⟩ := e
  exact kk io H st (Grow.refl _ _) so sl
theorem ssCons {s : Stmt} {ss : List Stmt} {t : T} {ts : List T} (h : SS G c w s t) (hs : SSs G c w ss ts) : SSs G c w (s :: ss) (t :: ts) := by
  intro X F k hp
  refine PSsw (pss_cons (h X F k hp) (hs X F k hp)) fun D st H q => ?_
  obtain ⟨io, env, S, r, env', S', sl, so, e, kk⟩ := q
  simp only [exs] at e
  split at e
  · cases e
  · rename_i env1 S1 q1
    refine ⟨io, env, S, .nx, env1, S1, sl, so, q1, fun io1 H1 st1 g1 so1 sl1 => ⟨io1, env1, S1, r, env', S', sl1, so1, e, fun io2 H2 st2 g2 so2 sl2 => kk io2 H2 st2 (g1.trans g2) so2 sl2⟩⟩
  · rename_i r1 hne q1
    cases e
    refine ⟨io, env, S, r, env', S', sl, so, q1, fun io1 H1 st1 g1 so1 sl1 => ?_⟩
    have z := kk io1 H1 st1 g1 so1 sl1
    cases r with
    | nx => exact absurd rfl (hne env' S')
    | bk => exact z
    | ct => exact z
    | rt d => exact z
theorem sIfS {e : Expr} {a b : List Stmt} {x : E} {ta tb : List T} {pos : Pos} (he : SE G c e x) (ha : SSs G c w a ta) (hb : SSs G c w b tb) : SS G c w (.If e a b pos) (.ife x ta tb) := by
  intro X F k hp
  refine PSw (ps_if (he X F k).2 (ha X F k hp) (hb X F k hp)) fun D st H q => ?_
  obtain ⟨io, env, S, r, env', S', sl, so, e, kk⟩ := q
  simp only [ex] at e
  split at e
  · cases e
  · rename_i S1 q1
    refine ⟨io, env, S, true, S1, sl, so, q1, fun io1 H1 g1 so1 => ?_⟩
    simp only [if_true]
    exact ⟨io1, env, S1, r, env', S', sl.up g1, so1, e, fun io2 H2 st2 g2 so2 sl2 => kk io2 H2 st2 (g1.trans g2) so2 sl2⟩
  · rename_i S1 q1
    refine ⟨io, env, S, false, S1, sl, so, q1, fun io1 H1 g1 so1 => ?_⟩
    simp only [Bool.false_eq_true, if_false]
    exact ⟨io1, env, S1, r, env', S', sl.up g1, so1, e, fun io2 H2 st2 g2 so2 sl2 => kk io2 H2 st2 (g1.trans g2) so2 sl2⟩
theorem sWhile {e : Expr} {a : List Stmt} {x : E} {ta : List T} {pos : Pos} (he : SE G c e x) (ha : SSs G c w a ta) : SS G c w (.While e a [] pos) (.while' x ta) := by
  intro X F k hp
  refine PSw (ps_while hp (he X F k).2 (ha X F k hp)) fun D st H q => ?_
  obtain ⟨io, env, S, r, env', S', sl, so, e, kk⟩ := q
  simp only [ex] at e
  refine ⟨fun m st1 H1 => ∃ io1 env1 S1, Grow F io H io1 H1 ∧ SlOK F io1 H1 st1 env1 ∧ StOK F io1 H1 S1 ∧ whileLoop (cond G x) (exs G w ta) m env1 S1 = some (r, env', S'), ⟨w, io, env, S, Grow.refl _ _, sl, so, e⟩, ?_⟩
  rintro m st1 H1 ⟨io1, env1, S1, g1, sl1, so1, e1⟩
  cases m with
  | zero => simp [whileLoop] at e1
  | succ m =>
    simp only [whileLoop] at e1
    split at e1
    · cases e1
    · rename_i S2 q2
      cases e1
      refine ⟨io1, _, S1, false, _, sl1, so1, q2, fun io2 H2 g2 so2 => ?_⟩
      simp only [Bool.false_eq_true, if_false]
      exact kk io2 H2 st1 (g1.trans g2) so2 (sl1.up g2)
    · rename_i S2 q2
      refine ⟨io1, env1, S1, true, S2, sl1, so1, q2, fun io2 H2 g2 so2 => ?_⟩
      simp only [if_true]
      refine ⟨fun st3 H3 => ∃ io3 env3 S3, Grow F io H io3 H3 ∧ SlOK F io3 H3 st3 env3 ∧ StOK F io3 H3 S3 ∧ whileLoop (cond G x) (exs G w ta) m env3 S3 = some (r, env', S'), fun st3 H3 h => ⟨m, Nat.lt_succ_self m, h⟩, ?_⟩
      split at e1
      · cases e1
      · rename_i env3 S3 q3
        exact ⟨io2, env1, S2, .nx, env3, S3, sl1.up g2, so2, q3, fun io4 H4 st4 g4 so4 sl4 => ⟨io4, env3, S3, (g1.trans g2).trans g4, sl4, so4, e1⟩⟩
      · rename_i env3 S3 q3
        exact ⟨io2, env1, S2, .ct, env3, S3, sl1.up g2, so2, q3, fun io4 H4 st4 g4 so4 sl4 => ⟨io4, env3, S3, (g1.trans g2).trans g4, sl4, so4, e1⟩⟩
      · rename_i env3 S3 q3
        cases e1
        exact ⟨io2, env1, S2, .bk, _, _, sl1.up g2, so2, q3, fun io4 H4 st4 g4 so4 sl4 => kk io4 H4 st4 ((g1.trans g2).trans g4) so4 sl4⟩
      · rename_i d env3 S3 q3
        cases e1
        exact ⟨io2, env1, S2, .rt d, _, _, sl1.up g2, so2, q3, fun io4 H4 st4 g4 so4 sl4 => kk io4 H4 st4 ((g1.trans g2).trans g4) so4 sl4⟩
theorem sFor {tg iter : Expr} {a : List Stmt} {is : List Nat} {one : Bool} {n : Nat} {its : List E} {ta : List T} {pos : Pos} (hi : SI G c tg iter n its) (hg : ST G c tg is one) (ha : SSs G c w a ta)
    (hs : ∀ env x, foldedSetIterable iter env x = pure x := by intro _ _; rfl) : SS G c w (.For tg iter a [] pos) (.for' is one n its ta) := by
  intro X F k hp
  refine PSw (ps_for hp k.calm (hi X F k) (hg X F k) (ha X F k hp) (hs X.env)) fun D st H q => ?_
  obtain ⟨io, env, S, r, env', S', sl, so, e, kk⟩ := q
  simp only [ex] at e
  split at e
  · cases e
  · rename_i as S1 q1
    split at e
    · cases e
    · rename_i ds gd q2
      refine ⟨io, env, S, (ds, gd), S1, sl, so, by simp only [itf, q1, q2], fun io1 H1 J g1 so1 it => ?_⟩
      refine ⟨fun i m st1 H2 => ∃ io2 env2 S2, m = ds.length - i ∧ i ≤ ds.length ∧ Grow F io1 H1 io2 H2 ∧ SlOK F io2 H2 st1 env2 ∧ StOK F io2 H2 S2 ∧ forLoop gd (bindT is one) (exs G w ta) (ds.drop i) env2 S2 = some (r, env', S'), ⟨_, io1, env, S1, rfl, Nat.zero_le _, Grow.refl _ _, sl.up g1, so1, e⟩, ?_⟩
      rintro i m st2 H2 ⟨io2, env2, S2, rfl, hi, g2, sl2, so2, e2⟩
      by_cases hlt : i < ds.length
      · have hdr : ds.drop i = ds[i] :: ds.drop (i + 1) := List.drop_eq_getElem_cons hlt
        rw [hdr] at e2
        simp only [forLoop] at e2
        split at e2
        · rename_i hgd
          refine .inr ⟨it.go _ io2 H2 S2 i g2.kp so2 hgd hlt, fun st3 H3 => ∃ io3 env3 S3, Grow F io1 H1 io3 H3 ∧ SlOK F io3 H3 st3 env3 ∧ StOK F io3 H3 S3 ∧ forLoop gd (bindT is one) (exs G w ta) (ds.drop (i + 1)) env3 S3 = some (r, env', S'), ?_, fun x H3 hy => ?_⟩
          · rintro st3 H3 ⟨io3, env3, S3, g3, sl3, so3, e3⟩
            exact ⟨ds.length - (i + 1), by omega, io3, env3, S3, rfl, hlt, g3, sl3, so3, e3⟩
          · obtain ⟨dx, ed, g3, so3, r3⟩ := it.yld _ io2 H2 S2 i x H3 g2.kp so2 hgd hlt hy
            rw [List.getElem?_eq_getElem hlt] at ed
            cases ed
            split at e2
            · cases e2
            · rename_i env1 q4
              refine ⟨io2, env2, _, env1, sl2.up g3, r3, q4, fun st4 sl4 _ => ?_⟩
              split at e2
              · cases e2
              · rename_i env3 S3 q3
                exact ⟨io2, env1, S2, .nx, env3, S3, sl4, so3, q3, fun io4 H4 st4 g4 so4 sl4 => ⟨io4, env3, S3, (g2.trans g3).trans g4, sl4, so4, e2⟩⟩
              · rename_i env3 S3 q3
                exact ⟨io2, env1, S2, .ct, env3, S3, sl4, so3, q3, fun io4 H4 st4 g4 so4 sl4 => ⟨io4, env3, S3, (g2.trans g3).trans g4, sl4, so4, e2⟩⟩
              · rename_i env3 S3 q3
                cases e2
                exact ⟨io2, env1, S2, .bk, _, _, sl4, so3, q3, fun io4 H4 st4 g4 so4 sl4 => kk io4 H4 st4 (g1.trans ((g2.trans g3).trans g4)) so4 sl4⟩
              · rename_i d env3 S3 q3
                cases e2
                exact ⟨io2, env1, S2, .rt d, _, _, sl4, so3, q3, fun io4 H4 st4 g4 so4 sl4 => kk io4 H4 st4 (g1.trans ((g2.trans g3).trans g4)) so4 sl4⟩
        · cases e2
      · have ei : i = ds.length := by omega
        rw [ei, List.drop_length] at e2
        simp only [forLoop] at e2
        split at e2
        · rename_i hgd
          cases e2
          exact .inl ⟨it.stop _ io2 H2 _ i g2.kp so2 hgd (show ds.length ≤ i by omega), kk io2 H2 st2 (g1.trans g2) so2 sl2⟩
        · cases e2
/-- o.append(e) -/
theorem nodup_inj : ∀ {l : List Addr}, l.Nodup → ∀ {i j : Nat} (hi : i < l.length) (hj : j < l.length), l[i] = l[j] → i = j
  | [], _, i, _, hi, _, _ => absurd hi (by simp)
  | a :: l, nd, 0, 0, _, _, _ => rfl
  | a :: l, nd, 0, j + 1, _, hj, e => by
    have h1 := (List.nodup_cons.mp nd).1
    have h2 : a = l[j]'(by simpa using hj) := e
    exact absurd (by rw [h2]; exact List.getElem_mem _) h1
  | a :: l, nd, i + 1, 0, hi, _, e => by
    have h1 := (List.nodup_cons.mp nd).1
    have h2 : l[i]'(by simpa using hi) = a := e
    exact absurd (by rw [← h2]; exact List.getElem_mem _) h1
  | a :: l, nd, i + 1, j + 1, hi, hj, e => by
    have h2 : l[i]'(by simpa using hi) = l[j]'(by simpa using hj) := e
    exact congrArg Nat.succ (nodup_inj (List.nodup_cons.mp nd).2 _ _ h2)
/-! d.update(e): both dicts with keys ints and texts -/
theorem d_update {pins : List (Addr × Obj)} {st : L2.St} {H : Hp} {s : Shared} {a b : Addr} {kvs more : List (Key × V)} {A : Around} {E : Value → Shared → Prop} {Q : Value → Shared → Prop} (I : Inv X pins st H s) (e : H a = some (.dK kvs)) (e2 : H b = some (.dK more)) (hne : a ≠ b) (hz : kvs.length + more.length ≤ sizeLine)
    (h : ∀ s', Inv X pins st (upd H a (.dK (mergeK kvs more))) s' → Q .none s') : wpAny (model X.prog X.w) A (call (.builtin "dict.update") [.ref a, .ref b]) Q E s := by
  obtain ⟨z, hd, vs, rel, dd⟩ := dk_of I.hok e
  obtain ⟨z2, hd2, ws, rel2, dd2⟩ := dk_of I.hok e2
  refine call_meetsIn PySem.F.slot_dict_update dd.typeIs PySem.F.entry_dict_update (PySem.F.args_dict_update_2 _ _) (meets_dict_update (mixKind X.prog X.w) a b hne hd2)
    ⟨vs, ws, dd, dd2, by rw [← rel.length, ← rel2.length]; exact hz, fun h' dd' _ hs => h _ ?_⟩
  have he : ∃ q, h'.get? a = some q := let ⟨q, _, _, hq, _⟩ := dd'; ⟨q, hq⟩
  exact d_write I (by rw [e]; exact True.intro) hs he (dk_new (Nat.le_trans (length_mergeK _ _) hz) hd (rel2.merge rel) dd')
def rUpdate : V → List V → Hp → VK → Prop := fun x vs H Q => ∃ a b kvs more, x = .ref a ∧ vs = [.ref b] ∧ H a = some (.dK kvs) ∧ H b = some (.dK more) ∧ a ≠ b ∧ kvs.length + more.length ≤ sizeLine ∧ Q .non (upd H a (.dK (mergeK kvs more)))
theorem mt_update : MtR X "dict.update" rUpdate := by
  intro pins s st H x vs v us Q I rx rv h
  obtain ⟨a, b, kvs, more, rfl, rfl, e, e2, hne, hz, q⟩ := h
  cases rx
  obtain ⟨u, rfl, ru⟩ := rv.one
  cases ru
  exact d_update I e e2 hne hz fun s' I' => ⟨.non, _, I', rfl, q⟩
theorem drel_merge {io : List Addr} {H : Hp} : ∀ {more kvs : List (Str × D)} {ys zs : List (Key × V)}, DRel F io H more zs → DRel F io H kvs ys → DRel F io H (putAll kvs more) (mergeK ys zs)
  | [], kvs, ys, zs, h, h2 => by
    have : zs = [] := by have := h.1; cases zs with
      | nil => rfl
      | cons _ _ => simp at this
    subst this
    exact h2
  | (k, d) :: more, kvs, ys, zs, h, h2 => by
    obtain ⟨h1, h3⟩ := h
    cases zs with
    | nil => simp at h1
    | cons z zs =>
      simp only [List.map_cons, List.cons.injEq] at h1
      simp only [List.map_cons] at h3
      obtain ⟨zk, zv⟩ := z
      obtain ⟨e1, e2⟩ := h1
      simp only at e1
      subst e1
      cases h3 with
      | cons r t =>
        have h5 : DRel F io H more zs := ⟨e2, t⟩
        have h6 := drel_merge h5 (drel_put (x := k) r h2)
        exact h6
theorem drel_len {io : List Addr} {H : Hp} {kvs : List (Str × D)} {ys : List (Key × V)} (h : DRel F io H kvs ys) : ys.length = kvs.length := by
  have := congrArg List.length h.1
  simpa using this
theorem StOK.dct_at {io : List Addr} {H : Hp} {S : Sto} (k : StOK F io H S) {n : Nat} {a : Addr} {l : List (Str × D)} (h1 : io[n]? = some a) (h2 : S[n]? = some (.dct l)) : ∃ ys, H a = some (.dK ys) ∧ DRel F io H l ys := k.at_ n a _ h1 h2
theorem sUpdate {o e : Expr} {x y : E} {apos cpos pos : Pos} (ho : SE G c o x) (he : SE G c e y) (hn : notStar e = true) (hb : ∀ env, attributeBase o ("update" : Str) env (eval o env) = eval o env) (hl : (apos.endLine == cpos.line) = true) :
    SS G c w (.Expr (.Call (.Attribute o ("update" : Str) apos) [e] [] cpos) pos) (.update x y) := by
  intro X F k hp
  have hst : starEach [e] X.env = (false, eval e X.env) :: starEach [] X.env := star_cons hn
  refine PSw (ps_expr (pe_bm PySem.F.plainAttrs_dict PySem.F.slot_dict_update PySem.F.type_dict_update mt_update (ho X F k).1 (SA.pa k (.cons hn he .nil)) (hb X.env) (by rw [hst]; rfl) hl hst rfl) (sw_plain rfl _ _ _)) fun D st H q => ?_
  obtain ⟨io, env, S, r, env', S', sl, so, e, kk⟩ := q
  simp only [ex] at e
  split at e
  · rename_i n S1 q1
    split at e
    case' isFalse => cases e
    rename_i hL
    split at e
    · rename_i m S2 q2
      split at e
      · rename_i kvs more q3 q4
        split at e
        · rename_i hz
          cases e
          refine ⟨io, env, S, _, _, sl, so, q1, fun io1 H1 v g1 so1 r1 => ?_⟩
          cases r1 with
          | ref hn =>
            rename_i p
            have hp1 : ∃ ys, H1 p = some (.dK ys) := by
              simp only [isDc] at hL
              split at hL
              · rename_i l0 q0
                obtain ⟨ys, h0, _⟩ := so1.dct_at hn q0
                exact ⟨ys, h0⟩
              · cases hL
            refine ⟨.inr (.inr (.inl ⟨rfl, .inl hp1⟩)), io1, env, S1, [.ref m], S2, sl.up g1, so1, by simp only [evs, q2], fun io2 H2 vs g2 so2 r2 => ?_⟩
            obtain ⟨v2, rfl, rv⟩ := r2.one
            cases rv with
            | ref hm =>
              rename_i b
              have hn2 := g2.io_get hn
              obtain ⟨ys, h0, h1⟩ := so2.dct_at hn2 q3
              obtain ⟨zs, h3, h4⟩ := so2.dct_at hm q4
              have hlt : n < S2.length := (List.getElem?_eq_some_iff.mp q3).1
              have hne : p ≠ b := fun z => hz.1 (by
                subst z
                have l1 := (List.getElem?_eq_some_iff.mp hn2)
                have l2 := (List.getElem?_eq_some_iff.mp hm)
                obtain ⟨a1, a2⟩ := l1
                obtain ⟨b1, b2⟩ := l2
                exact nodup_inj so2.nd a1 b1 (a2.trans b2.symm))
              have g3 := grow_set so2 hn2 hlt (.dK (mergeK ys zs))
              refine ⟨p, b, ys, zs, rfl, rfl, h0, h3, hne, by rw [drel_len h1, drel_len h4]; exact hz.2, kk io2 _ st ((g1.trans g2).trans g3) ?_ (((sl.up g1).up g2).up g3)⟩
              obtain ⟨d1, d2⟩ := drel_merge h4 h1
              exact so2.set hn2 hlt ⟨_, upd_same, d1, d2.up g3⟩
        · cases e
      · cases e
    · cases e
  · cases e
theorem sAppend {o e : Expr} {x y : E} {apos cpos pos : Pos} (ho : SE G c o x) (he : SE G c e y) (hn : notStar e = true) (hb : ∀ env, attributeBase o ("append" : Str) env (eval o env) = eval o env) (hl : (apos.endLine == cpos.line) = true) :
    SS G c w (.Expr (.Call (.Attribute o ("append" : Str) apos) [e] [] cpos) pos) (.append x y) := by
  intro X F k hp
  have hst : starEach [e] X.env = (false, eval e X.env) :: starEach [] X.env := star_cons hn
  refine PSw (ps_expr (pe_bm PySem.F.plainAttrs_list PySem.F.slot_list_append PySem.F.type_list_append mt_append (ho X F k).1 (SA.pa k (.cons hn he .nil)) (hb X.env) (by rw [hst]; rfl) hl hst rfl) (sw_plain rfl _ _ _)) fun D st H q => ?_
  obtain ⟨io, env, S, r, env', S', sl, so, e, kk⟩ := q
  simp only [ex] at e
  split at e
  · rename_i n S1 q1
    split at e
    case' isFalse => cases e
    rename_i hL
    split at e
    · rename_i d S2 q2
      split at e
      · rename_i l q3
        split at e
        · rename_i hz
          cases e
          refine ⟨io, env, S, _, _, sl, so, q1, fun io1 H1 v g1 so1 r1 => ?_⟩
          cases r1 with
          | ref hn =>
            rename_i p
            have hp1 : ∃ xs, H1 p = some (.lst xs) := by
              simp only [isL] at hL
              split at hL
              · rename_i l0 q0
                obtain ⟨xs, h0, _⟩ := so1.lst_at hn q0
                exact ⟨xs, h0⟩
              · cases hL
            refine ⟨.inl ⟨rfl, ?_⟩, io1, env, S1, [d], S2, sl.up g1, so1, by simp only [evs, q2], fun io2 H2 vs g2 so2 r2 => ?_⟩
            · obtain ⟨xs, h⟩ := hp1
              exact ⟨xs, .inl (.inl h)⟩
            · obtain ⟨v2, rfl, rv⟩ := r2.one
              have hn2 := g2.io_get hn
              obtain ⟨xs, h0, h1⟩ := so2.lst_at hn2 q3
              have hlt : n < S2.length := (List.getElem?_eq_some_iff.mp q3).1
              have g3 := grow_set so2 hn2 hlt (.lst (xs ++ [v2]))
              refine ⟨p, xs, v2, rfl, rfl, h0, by rw [← h1.len]; exact hz, kk io2 _ st ((g1.trans g2).trans g3) ?_ (((sl.up g1).up g2).up g3)⟩
              exact so2.set hn2 hlt ⟨_, upd_same, (h1.app (.cons rv .nil)).up g3⟩
        · cases e
      · cases e
    · cases e
  · cases e
end
end Ev

namespace Ev
open PySem PySem.Spec PyProof.Rows L2
/-! ### from the text to the evaluator's form, with its proof -/
section
variable {G : Gb} {c : Cc} {X : Cx} {F : Fx} {w : Nat}
theorem sIfE {a b d : Expr} {x y z : E} {pos : Pos} (ha : SE G c a x) (hb : SE G c b y) (hd : SE G c d z) : SE G c (.IfExp a b d pos) (.ife x y z) := by
  intro X F k
  refine ⟨sIf ha hb hd X F k, ⟨fun pins s st H Q I q => ?_⟩⟩
  obtain ⟨io, env, S, t, S', sl, so, e, kk⟩ := q
  obtain ⟨d0, e1, e2⟩ := of_cond e
  simp only [ev] at e1
  split at e1
  · cases e1
  · rename_i x1 S1 q1
    split at e1
    · cases e1
    · rename_i q2
      refine isTrue_IfExp (thn ((ha X F k).2.run pins s st H (fun b H1 => b = true ∧ RdT F (cond G y) st H1 Q) I ⟨io, env, S, true, S1, sl, so, cond_of q1 q2, fun io1 H1 g1 so1 => ⟨rfl, io1, env, S1, t, S', sl.up g1, so1, cond_of e1 e2, fun io2 H2 g2 so2 => kk io2 H2 (g1.trans g2) so2⟩⟩) fun b s2 h => ?_)
      obtain ⟨H1, I1, hb1, q3⟩ := h
      subst hb1
      exact (hb X F k).2.run pins s2 st H1 Q I1 q3
    · rename_i q2
      refine isTrue_IfExp (thn ((ha X F k).2.run pins s st H (fun b H1 => b = false ∧ RdT F (cond G z) st H1 Q) I ⟨io, env, S, false, S1, sl, so, cond_of q1 q2, fun io1 H1 g1 so1 => ⟨rfl, io1, env, S1, t, S', sl.up g1, so1, cond_of e1 e2, fun io2 H2 g2 so2 => kk io2 H2 (g1.trans g2) so2⟩⟩) fun b s2 h => ?_)
      obtain ⟨H1, I1, hb1, q3⟩ := h
      subst hb1
      exact (hd X F k).2.run pins s2 st H1 Q I1 q3
end
/-- a type's name -/
def tyOf (x : Str) : Option String :=
  if x = ("int" : Str) then some "int" else if x = ("str" : Str) then some "str" else if x = ("tuple" : Str) then some "tuple" else if x = ("list" : Str) then some "list" else if x = ("bool" : Str) then some "bool" else if x = ("dict" : Str) then some "dict" else none
theorem tyOf_ok {x : Str} {n : String} (h : tyOf x = some n) : bootBuiltins x = some (.type n) ∧ (∀ {G c X F}, CxOK G c X F → X.mg x = none) ∧ x ≠ "__name__" ∧ (x == ("__debug__" : Str)) = false := by
  unfold tyOf at h
  split at h
  · rename_i e; cases h; subst e; exact ⟨by decide +kernel, fun k => k.free .int, by decide, by decide⟩
  split at h
  · rename_i e; cases h; subst e; exact ⟨by decide +kernel, fun k => k.free .str, by decide, by decide⟩
  split at h
  · rename_i e; cases h; subst e; exact ⟨by decide +kernel, fun k => k.free .tuple, by decide, by decide⟩
  split at h
  · rename_i e; cases h; subst e; exact ⟨by decide +kernel, fun k => k.free .list, by decide, by decide⟩
  split at h
  · rename_i e; cases h; subst e; exact ⟨by decide +kernel, fun k => k.free2.2.2.2.1, by decide, by decide⟩
  split at h
  · rename_i e; cases h; subst e; exact ⟨by decide +kernel, fun k => k.free2.2.2.2.2, by decide, by decide⟩
  · cases h
def bfOf (x : Str) : Option Bf :=
  [Bf.len, .isinstance, .int, .abs, .max, .min, .repr, .divmod, .all, .tuple, .list, .str].find? fun f => decide (f.name = x)
theorem bfOf_ok {x : Str} {f : Bf} (h : bfOf x = some f) : f.name = x := by
  have := List.find?_some h
  simpa using this
def ownOf (N : List Str) : List (Str × NameKind) → List (Str × Nat)
  | [] => []
  | (n, k) :: r => if (k == .local || k == .cell) = true then match posOf n N with
      | some i => (n, i) :: ownOf N r
      | none => ownOf N r
    else ownOf N r
/-- a target of names -/
def cT1 (c : Cc) : Expr → Option Nat
  | .Name x _ => match posOf x c.N with
    | none => none
    | some i => match c.names.lookup x with
      | some .local => some i
      | some .cell => if c.inner = true then none else some i
      | _ => none
  | _ => none
def cTs (c : Cc) : List Expr → Option (List Nat)
  | [] => some []
  | e :: es => match cT1 c e, cTs c es with
    | some i, some is => some (i :: is)
    | _, _ => none
def cT (c : Cc) : Expr → Option (List Nat × Bool)
  | .Tuple es _ _ => (cTs c es).map fun is => (is, false)
  | e => (cT1 c e).map fun i => ([i], true)
theorem cT1_ok {c : Cc} {e : Expr} {i : Nat} (h : cT1 c e = some i) : ∃ x p, e = .Name x p ∧ TgOK c x i := by
  cases e <;> simp only [cT1] at h <;> try (cases h; done)
  rename_i x p
  refine ⟨x, p, rfl, ?_⟩
  split at h
  · cases h
  · rename_i j q
    split at h
    · rename_i q2
      cases h
      exact ⟨posOf_get q, .inl q2⟩
    · rename_i q2
      split at h
      · cases h
      · rename_i q3
        cases h
        exact ⟨posOf_get q, .inr ⟨q2, by simpa using q3⟩⟩
    · cases h
theorem cTs_ok {c : Cc} : ∀ {es : List Expr} {is : List Nat}, cTs c es = some is → NsT c es is
  | [], is, h => by simp only [cTs, Option.some.injEq] at h; subst h; exact .nil
  | e :: es, is, h => by
    simp only [cTs] at h
    split at h
    · rename_i i is' q1 q2
      cases h
      obtain ⟨x, p, rfl, hx⟩ := cT1_ok q1
      exact .cons hx (cTs_ok q2)
    · cases h
theorem cT_ok {G : Gb} {c : Cc} {e : Expr} {r : List Nat × Bool} (h : cT c e = some r) : ST G c e r.1 r.2 := by
  have one : ∀ {e : Expr}, (cT1 c e).map (fun i => ([i], true)) = some r → ST G c e r.1 r.2 := fun {e} h => by
    obtain ⟨i, q, rfl⟩ := Option.map_eq_some_iff.mp h
    obtain ⟨x, p, rfl, hx⟩ := cT1_ok q
    exact sT1 hx
  cases e <;> first
    | exact one h
    | (obtain ⟨is, q, rfl⟩ := Option.map_eq_some_iff.mp (show (cTs c _).map (fun is => (is, false)) = some r from h)
       exact sTn (cTs_ok q))
def keysOf : List (Option Expr) → Option (List Str)
  | [] => some []
  | some (.Constant (.str k) _ _) :: r => (keysOf r).map (k :: ·)
  | _ :: _ => none
theorem keysOf_ok : ∀ {keys : List (Option Expr)} {ks : List Str}, keysOf keys = some ks → strKeys ks keys ∧ keys.all (·.isSome) = true ∧ ks.length = keys.length
  | [], ks, h => by simp only [keysOf, Option.some.injEq] at h; subst h; exact ⟨trivial, rfl, rfl⟩
  | k :: r, ks, h => by
    unfold keysOf at h
    split at h
    · rename_i e; cases e
    · rename_i k' a b r' e
      cases e
      obtain ⟨ks', q, rfl⟩ := Option.map_eq_some_iff.mp h
      obtain ⟨h1, h2, h3⟩ := keysOf_ok q
      exact ⟨⟨rfl, h1⟩, by simp [h2], by simp [h3]⟩
    · cases h
/-- which iterables: the kind and the parts -/
def isTup : Expr → Bool
  | .Tuple .. => true
  | _ => false
def iterOf (c : Cc) (tg : Expr) : Expr → Nat × List Expr
  | .Call (.Name f p) es [] pos => if (decide (f = ("range" : Str)) && decide (c.names.lookup ("range" : Str) = some NameKind.globalImplicit) && (es.length == 1 || es.length == 2)) = true then (1, es) else if (decide (f = ("enumerate" : Str)) && decide (c.names.lookup ("enumerate" : Str) = some NameKind.globalImplicit) && es.length == 1 && isTup tg) = true then (2, es) else (0, [.Call (.Name f p) es [] pos])
  | e => (0, [e])
def notSet : Expr → Bool
  | .Set .. => false
  | _ => true
theorem notSet_ok {e : Expr} (h : notSet e = true) (env : Env) (x : Value) : foldedSetIterable e env x = pure x := by
  cases e <;> first
    | rfl
    | (cases h; done)
mutual
def cE : Nat → Cc → Expr → Option E
  | 0, _, _ => none
  | n + 1, c, e => match e with
    | .Name x _ => if (x == ("__debug__" : Str) || x == ("__classdict__" : Str)) = true then none else match c.names.lookup x with
      | some .local => (posOf x c.N).map .var
      | some .cell => (posOf x c.N).map .var
      | some .free => (posOf x c.N).map .var
      | some .globalImplicit => if x ∈ c.glbs then some (.glob x) else if (c.fns.any fun p => decide (p.1 = x)) = true then some (.cst (.fn x)) else (tyOf x).map fun n => .cst (.ty n)
      | _ => none
    | .Constant (.int i) _ _ => some (.cst (.int i))
    | .Constant (.bool b) _ _ => some (.cst (.bl b))
    | .Constant .none _ _ => some (.cst .non)
    | .Constant (.str s) _ _ => some (.cst (.str s))
    | .BinOp a op b _ => match cE n c a, cE n c b with
      | some x, some y => some (.bin op x y)
      | _, _ => none
    | .UnaryOp .USub a _ => (cE n c a).map .neg
    | .UnaryOp .Not a _ => (cE n c a).map .not'
    | .UnaryOp .Invert a _ => (cE n c a).map .inv
    | .Call (.Attribute (.Name x p) a apos) [] [] cpos => if a = ("bit_length" : Str) ∧ (apos.endLine == cpos.line) = true then (cE n c (.Name x p)).map .blen else none
    | .Call (.Attribute (.BinOp l op r p) a apos) [] [] cpos => if a = ("bit_length" : Str) ∧ (apos.endLine == cpos.line) = true then (cE n c (.BinOp l op r p)).map .blen else none
    | .Compare a [op] [b] _ => if behindInMarks op b = false then match cE n c a, cE n c b with
      | some x, some y => some (.cmp op x y)
      | _, _ => none
      else none
    | .Compare a [op, op'] [b, d] _ => if lastMarks [op, op'] [b, d] = false then match cE n c a, cE n c b, cE n c d with
      | some x, some y, some z => some (.chain op op' x y z)
      | _, _, _ => none
      else none
    | .BoolOp op vs _ => cB n c op vs
    | .IfExp a b d _ => match cE n c a, cE n c b, cE n c d with
      | some x, some y, some z => some (.ife x y z)
      | _, _, _ => none
    | .Call (.Name f _) es [] _ => if (decide (c.names.lookup f = some .globalImplicit) && !(f == ("__debug__" : Str))) = true then match cEs n c es with
        | none => none
        | some xs => if (c.fns.any fun p => decide (p.1 = f)) = true then some (.call f xs) else match bfOf f, es with
          | some g, _ :: _ => some (.blt g xs)
          | _, _ => none
      else if ((decide (c.names.lookup f = some .local) || decide (c.names.lookup f = some .cell) || decide (c.names.lookup f = some .free)) && !(f == ("__debug__" : Str)) && !(f == ("__classdict__" : Str))) = true then match posOf f c.N, es, cEs n c es with
        | some i, _ :: _, some xs => some (.calll i xs)
        | _, _, _ => none
      else none
    | .Call (.Name f _) [] kws _ => if (decide (c.names.lookup f = some .globalImplicit) && !(f == ("__debug__" : Str))) = true then match cKs n c kws with
        | none => none
        | some (ks, xs) => match c.kws.find? fun p => decide (p.1 = f ∧ p.2.1 = ks) with
          | none => none
          | some p => if (c.fns.any fun p => decide (p.1 = f)) = true ∧ ks.length = xs.length then some (.callk f ks p.2.2 xs) else none
      else none
    | .Tuple es _ _ => (cEs n c es).map .tup
    | .List es _ => (cEs n c es).map .lst
    | .Dict keys es _ => match keysOf keys, cEs n c es with
      | some ks, some xs => if keys.length = es.length ∧ keys ≠ [] ∧ keys.length ≤ 15 then some (.newd ks xs) else none
      | _, _ => none
    | .Subscript a (.Slice lo hi none _) _ => match cE n c a, cO n c lo, cO n c hi with
      | some x, some (fl, y), some (fh, z) => some (.sl x fl fh y z)
      | _, _, _ => none
    | .Subscript a b _ => if plainIx b = true then match cE n c a, cE n c b with
      | some x, some y => some (.idx x y)
      | _, _ => none
      else none
    | .ListComp elt [⟨tg, iter, ifs, 0⟩] scope _ => cC n c elt tg iter ifs scope
    | _ => none
def cEs : Nat → Cc → List Expr → Option (List E)
  | 0, _, _ => none
  | _ + 1, _, [] => some []
  | n + 1, c, e :: es => if notStar e = true then match cE n c e, cEs n c es with
    | some x, some xs => some (x :: xs)
    | _, _ => none
    else none
def cB : Nat → Cc → BoolOp → List Expr → Option E
  | 0, _, _, _ => none
  | n + 1, c, op, [a] => cE n c a
  | n + 1, c, op, a :: b :: r => match cE n c a, cB n c op (b :: r) with
    | some x, some y => match op with
      | .And => some (.and' x y)
      | .Or => some (.or' x y)
    | _, _ => none
  | _, _, _, [] => none
def cKs : Nat → Cc → List Keyword → Option (List Str × List E)
  | 0, _, _ => none
  | _ + 1, _, [] => some ([], [])
  | n + 1, c, ⟨some k, e, _⟩ :: r => match cE n c e, cKs n c r with
    | some x, some (ks, xs) => some (k :: ks, x :: xs)
    | _, _ => none
  | _, _, _ :: _ => none
def cO : Nat → Cc → Option Expr → Option (Bool × E)
  | 0, _, _ => none
  | _ + 1, _, none => some (false, .cst .non)
  | n + 1, c, some e => (cE n c e).map fun x => (true, x)
/-- a comprehension -/
def cC : Nat → Cc → Expr → Expr → Expr → List Expr → Scope → Option E
  | 0, _, _, _, _, _, _ => none
  | n + 1, c, elt, tg, iter, ifs, scope => if notSet iter = true ∧ blkC c.N { scope with names := c.names } scope (ownOf c.N scope.names) = true then
      match cT (c.blk scope) tg, cEs n c (iterOf c tg iter).2, cE n (c.blk scope) elt with
      | some (is, one), some its, some y => if (is.all fun i => (ownOf c.N scope.names).any fun p => p.2 == i) = true then match ifs with
        | [] => some (.comp ((ownOf c.N scope.names).map (·.2)) is one (iterOf c tg iter).1 its false (.cst .non) y)
        | [e] => (cE n (c.blk scope) e).map fun x => .comp ((ownOf c.N scope.names).map (·.2)) is one (iterOf c tg iter).1 its true x y
        | _ => none
        else none
      | _, _, _ => none
    else none
end
section
variable {G : Gb} {c : Cc}
theorem isTup_ok {e : Expr} (h : isTup e = true) : ∃ a b p, e = .Tuple a b p := by
  cases e <;> first
    | exact ⟨_, _, _, rfl⟩
    | (cases h; done)
theorem iterOf_ok {tg iter : Expr} {its : List E} (h : SA G c (iterOf c tg iter).2 its) : SI G c tg iter (iterOf c tg iter).1 its := by
  have base : ∀ {e : Expr}, SA G c [e] its → SI G c tg e 0 its := fun {e} h => by
    cases h with
    | cons _ ha hs =>
      cases hs
      exact sIt0 ha
  generalize hq : iterOf c tg iter = r at h ⊢
  unfold iterOf at hq
  split at hq
  · split at hq
    · rename_i hc
      subst hq
      simp only [Bool.and_eq_true, decide_eq_true_eq, Bool.or_eq_true, beq_iff_eq] at hc
      obtain ⟨⟨rfl, hk⟩, hl⟩ := hc
      exact sIt1 h hl hk
    · split at hq
      · rename_i hc
        subst hq
        simp only [Bool.and_eq_true, decide_eq_true_eq, beq_iff_eq] at hc
        obtain ⟨⟨⟨rfl, hk⟩, hl⟩, ht⟩ := hc
        obtain ⟨a, b, p0, rfl⟩ := isTup_ok ht
        obtain ⟨e, rfl⟩ := len_one hl
        simp only at h ⊢
        cases h with
        | cons h1 h2 h3 =>
          cases h3
          exact sIt2 (.cons h1 h2 .nil) hk
      · subst hq
        exact base h
  · subst hq
    exact base h
theorem fns_of {f : Str} (h : (c.fns.any fun p => decide (p.1 = f)) = true) : ∃ ps, (f, ps) ∈ c.fns := by
  obtain ⟨p, hp, e⟩ := List.any_eq_true.mp h
  simp only [decide_eq_true_eq] at e
  subst e
  exact ⟨p.2, hp⟩
structure COK (G : Gb) (n : Nat) : Prop where
  e : ∀ c e x, cE n c e = some x → SE G c e x
  es : ∀ c e x, cEs n c e = some x → SA G c e x
  b : ∀ c op vs x, cB n c op vs = some x → ∀ pos, SW G c (.BoolOp op vs pos) x
  k : ∀ c kws ks xs, cKs n c kws = some (ks, xs) → SK G c kws ks xs
  o : ∀ c e fl x, cO n c e = some (fl, x) → SO G c e fl x
  cc : ∀ c elt tg iter ifs scope x, cC n c elt tg iter ifs scope = some x → ∃ (own : List (Str × Nat)) (is : List Nat) (one : Bool) (m : Nat) (its : List E) (fi : Bool) (cd y : E), x = .comp (own.map (·.2)) is one m its fi cd y ∧
    SI G c tg iter m its ∧ blkC c.N { scope with names := c.names } scope own = true ∧ ST G (c.blk scope) tg is one ∧ (is.all fun i => own.any fun p => p.2 == i) = true ∧ SIf G (c.blk scope) ifs fi cd ∧ SE G (c.blk scope) elt y ∧ notSet iter = true
theorem cok (G : Gb) : ∀ n, COK G n
  | 0 => ⟨fun c e x h => by simp [cE] at h, fun c e x h => by simp [cEs] at h, fun c op vs x h => by simp [cB] at h, fun c kws ks xs h => by simp [cKs] at h, fun c e fl x h => by simp [cO] at h, fun c elt tg iter ifs scope x h => by simp [cC] at h⟩
  | n + 1 => by
    have ih := cok G n
    refine ⟨fun c e x h => ?_, fun c es xs h => ?_, fun c op vs x h pos => ?_, fun c kws ks xs h => ?_, fun c e fl x h => ?_, fun c elt tg iter ifs scope x h => ?_⟩
    · have two : ∀ {a b : Expr} {f : E → E → E}, (match cE n c a, cE n c b with
          | some x, some y => some (f x y)
          | _, _ => none) = some x → ∃ y z, SE G c a y ∧ SE G c b z ∧ x = f y z := fun {a b f} h => by
        split at h
        · rename_i x1 y1 q1 q2
          cases h
          exact ⟨x1, y1, ih.e _ _ _ q1, ih.e _ _ _ q2, rfl⟩
        · cases h
      have three : ∀ {a b d : Expr} {f : E → E → E → E}, (match cE n c a, cE n c b, cE n c d with
          | some x, some y, some z => some (f x y z)
          | _, _, _ => none) = some x → ∃ y z u, SE G c a y ∧ SE G c b z ∧ SE G c d u ∧ x = f y z u := fun {a b d f} h => by
        split at h
        · rename_i x1 y1 z1 q1 q2 q3
          cases h
          exact ⟨x1, y1, z1, ih.e _ _ _ q1, ih.e _ _ _ q2, ih.e _ _ _ q3, rfl⟩
        · cases h
      simp only [cE] at h
      split at h
      · -- a name
        rename_i x0 p
        split at h
        · cases h
        · rename_i hd
          simp only [Bool.or_eq_true, not_or, Bool.not_eq_true] at hd
          split at h
          · rename_i q1
            obtain ⟨i, q, rfl⟩ := Option.map_eq_some_iff.mp h
            exact sVar (posOf_get q) (.inl q1) hd.1 hd.2
          · rename_i q1
            obtain ⟨i, q, rfl⟩ := Option.map_eq_some_iff.mp h
            exact sVar (posOf_get q) (.inr (.inl q1)) hd.1 hd.2
          · rename_i q1
            obtain ⟨i, q, rfl⟩ := Option.map_eq_some_iff.mp h
            exact sVar (posOf_get q) (.inr (.inr q1)) hd.1 hd.2
          · rename_i q1
            split at h
            · rename_i hg
              cases h
              exact sGlb q1 hg hd.1
            · split at h
              · rename_i hf
                cases h
                obtain ⟨ps, hp⟩ := fns_of hf
                exact sFn q1 hp hd.1
              obtain ⟨i, q, rfl⟩ := Option.map_eq_some_iff.mp h
              obtain ⟨h1, h2, h3, h4⟩ := tyOf_ok q
              exact sTy q1 h1 (fun X F k => h2 k) h3 h4
          · cases h
      · cases h; exact sInt
      · cases h; exact sBl
      · cases h; exact sNon
      · cases h; exact sStr
      · obtain ⟨y, z, h1, h2, rfl⟩ := two h
        exact sBin h1 h2
      · obtain ⟨y, q, rfl⟩ := Option.map_eq_some_iff.mp h
        exact sNeg (ih.e _ _ _ q)
      · obtain ⟨y, q, rfl⟩ := Option.map_eq_some_iff.mp h
        exact sNot (ih.e _ _ _ q)
      · obtain ⟨y, q, rfl⟩ := Option.map_eq_some_iff.mp h
        exact sInv (ih.e _ _ _ q)
      · split at h
        · rename_i hb
          obtain ⟨rfl, h2⟩ := hb
          obtain ⟨y, q, rfl⟩ := Option.map_eq_some_iff.mp h
          exact sBlen (ih.e _ _ _ q) (fun _ => rfl) h2
        · cases h
      · split at h
        · rename_i hb
          obtain ⟨rfl, h2⟩ := hb
          obtain ⟨y, q, rfl⟩ := Option.map_eq_some_iff.mp h
          exact sBlen (ih.e _ _ _ q) (fun _ => rfl) h2
        · cases h
      · split at h
        · rename_i hm
          obtain ⟨y, z, h1, h2, rfl⟩ := two h
          exact sCmp h1 h2 hm
        · cases h
      · split at h
        · rename_i hm
          obtain ⟨y, z, u, h1, h2, h3, rfl⟩ := three h
          exact sChain h1 h2 h3 hm
        · cases h
      · exact (ih.b _ _ _ _ h _).se
      · obtain ⟨y, z, u, h1, h2, h3, rfl⟩ := three h
        exact sIfE h1 h2 h3
      · -- a call by place
        split at h
        · rename_i hk
          simp only [Bool.and_eq_true, decide_eq_true_eq, Bool.not_eq_true'] at hk
          split at h
          · cases h
          · rename_i xs q
            split at h
            · rename_i hf
              cases h
              obtain ⟨ps, hp⟩ := fns_of hf
              exact sCall (ih.es _ _ _ q) hk.1 hp hk.2
            · split at h
              · rename_i q2
                cases h
                have e := bfOf_ok q2
                subst e
                exact sBlt (ih.es _ _ _ q) hk.1
              · cases h
        · split at h
          · rename_i hk
            simp only [Bool.and_eq_true, decide_eq_true_eq, Bool.not_eq_true', Bool.or_eq_true] at hk
            split at h
            · rename_i i e0 es0 xs q1 q2
              cases h
              exact sCallL (ih.es _ _ _ q2) (posOf_get q1) (by rcases hk.1.1 with (z | z) | z; exact .inl z; exact .inr (.inl z); exact .inr (.inr z)) hk.1.2 hk.2
            · cases h
          · cases h
      · -- by keywords
        split at h
        · rename_i hk
          simp only [Bool.and_eq_true, decide_eq_true_eq, Bool.not_eq_true'] at hk
          split at h
          · cases h
          · rename_i ks xs q
            split at h
            · cases h
            · rename_i p q2
              split at h
              · rename_i hf
                cases h
                obtain ⟨ps, hp⟩ := fns_of hf.1
                have e1 := List.mem_of_find?_eq_some q2
                have e2 := List.find?_some q2
                simp only [decide_eq_true_eq] at e2
                obtain ⟨f1, ks1, ix1⟩ := p
                obtain ⟨rfl, rfl⟩ := e2
                exact sCallK (ih.k _ _ _ _ q) hf.2 hk.1 hp e1 hk.2
              · cases h
        · cases h
      · obtain ⟨y, q, rfl⟩ := Option.map_eq_some_iff.mp h
        exact sTup (ih.es _ _ _ q)
      · obtain ⟨y, q, rfl⟩ := Option.map_eq_some_iff.mp h
        exact sLst (ih.es _ _ _ q)
      · split at h
        · rename_i ks xs q1 q2
          split at h
          · rename_i hl
            cases h
            obtain ⟨h1, h2, h3⟩ := keysOf_ok q1
            exact sNewd h1 (ih.es _ _ _ q2) hl.1 hl.2.1 hl.2.2 h2 h3
          · cases h
        · cases h
      · split at h
        · rename_i x1 fl y fh z q1 q2 q3
          cases h
          exact sSl (ih.e _ _ _ q1) (ih.o _ _ _ _ q2) (ih.o _ _ _ _ q3)
        · cases h
      · split at h
        · rename_i hp
          obtain ⟨y, z, h1, h2, rfl⟩ := two h
          exact sIdx h1 h2 hp
        · cases h
      · obtain ⟨own, is, one, m, its, fi, cd, y, rfl, h1, h2, h3, h4, h5, h6, h7⟩ := ih.cc _ _ _ _ _ _ _ h
        exact sComp h1 h2 h3 h4 h5 h6 (notSet_ok h7)
      · cases h
    · cases es with
      | nil => simp only [cEs, Option.some.injEq] at h; subst h; exact .nil
      | cons e es =>
        simp only [cEs] at h
        split at h
        · rename_i hn
          split at h
          · rename_i x xs' q1 q2
            cases h
            exact .cons hn (ih.e _ _ _ q1) (ih.es _ _ _ q2)
          · cases h
        · cases h
    · cases vs with
      | nil => simp [cB] at h
      | cons a r =>
        cases r with
        | nil =>
          simp only [cB] at h
          cases op with
          | And => exact wAnd1 (ih.e _ _ _ h)
          | Or => exact wOr1 (ih.e _ _ _ h)
        | cons b r =>
          simp only [cB] at h
          split at h
          · rename_i x1 y1 q1 q2
            cases op with
            | And => cases h; exact wAnd (ih.e _ _ _ q1) (ih.b _ _ _ _ q2 pos)
            | Or => cases h; exact wOr (ih.e _ _ _ q1) (ih.b _ _ _ _ q2 pos)
          · cases h
    · cases kws with
      | nil => simp only [cKs, Option.some.injEq, Prod.mk.injEq] at h; obtain ⟨rfl, rfl⟩ := h; exact kNil
      | cons kw r =>
        obtain ⟨nm, e, kp⟩ := kw
        cases nm with
        | none => simp [cKs] at h
        | some k =>
          simp only [cKs] at h
          split at h
          · rename_i x1 ks1 xs1 q1 q2
            cases h
            exact kCons (ih.e _ _ _ q1) (ih.k _ _ _ _ q2)
          · cases h
    · cases e with
      | none => simp only [cO, Option.some.injEq, Prod.mk.injEq] at h; exact .inl ⟨rfl, h.1.symm⟩
      | some e =>
        simp only [cO] at h
        obtain ⟨x', q, e2⟩ := Option.map_eq_some_iff.mp h
        cases e2
        exact .inr ⟨e, rfl, rfl, ih.e _ _ _ q⟩
    · simp only [cC] at h
      split at h
      · rename_i hb
        split at h
        · rename_i is one its y q1 q2 q3
          split at h
          · rename_i hin
            split at h
            · cases h
              exact ⟨_, is, one, _, its, false, _, y, rfl, iterOf_ok (ih.es _ _ _ q2), hb.2, cT_ok q1, hin, trivial, ih.e _ _ _ q3, hb.1⟩
            · obtain ⟨x', q, e2⟩ := Option.map_eq_some_iff.mp h
              cases e2
              exact ⟨_, is, one, _, its, true, _, y, rfl, iterOf_ok (ih.es _ _ _ q2), hb.2, cT_ok q1, hin, ih.e _ _ _ q, ih.e _ _ _ q3, hb.1⟩
            · cases h
          · cases h
        · cases h
      · cases h
end
end Ev

namespace Ev
open PySem PySem.Spec PyProof.Rows L2
/-- an expression whose list display is to be held and changed -/
def cV (n : Nat) (c : Cc) (e : Expr) : Option E := if c.refs = true then match e with
    | .List es _ => (cEs n c es).map .newl
    | .IfExp a (.List b _) (.List d _) _ => match cE n c a, cEs n c b, cEs n c d with
      | some x, some y, some z => some (.ife x (.newl y) (.newl z))
      | _, _, _ => none
    | e => cE n c e
  else cE n c e
def cVs (n : Nat) (c : Cc) : List Expr → Option (List E)
  | [] => some []
  | e :: es => if notStar e = true then match cV n c e, cVs n c es with
    | some x, some xs => some (x :: xs)
    | _, _ => none
    else none
theorem cV_ok {G : Gb} {n : Nat} {c : Cc} {e : Expr} {x : E} (h : cV n c e = some x) : SE G c e x := by
  unfold cV at h
  split at h
  · split at h
    · obtain ⟨y, q, rfl⟩ := Option.map_eq_some_iff.mp h
      exact sNewl ((cok G n).es _ _ _ q)
    · split at h
      · rename_i x1 y1 z1 q1 q2 q3
        cases h
        exact sIfE ((cok G n).e _ _ _ q1) (sNewl ((cok G n).es _ _ _ q2)) (sNewl ((cok G n).es _ _ _ q3))
      · cases h
    · exact (cok G n).e _ _ _ h
  · exact (cok G n).e _ _ _ h
theorem cVs_ok {G : Gb} {n : Nat} {c : Cc} : ∀ {es : List Expr} {xs : List E}, cVs n c es = some xs → SA G c es xs
  | [], xs, h => by simp only [cVs, Option.some.injEq] at h; subst h; exact .nil
  | e :: es, xs, h => by
    simp only [cVs] at h
    split at h
    · rename_i hn
      split at h
      · rename_i x xs' q1 q2
        cases h
        exact .cons hn (cV_ok q1) (cVs_ok q2)
      · cases h
    · cases h
def cG (n : Nat) (c : Cc) : Expr → Option Tg
  | .Name x p => (cT1 c (.Name x p)).map .name
  | .Subscript o i _ => if plainIx i = true then match cE n c o, cE n c i with
      | some x, some y => some (.sub x y)
      | _, _ => none
    else none
  | _ => none
def cGs (n : Nat) (c : Cc) : List Expr → Option (List Tg)
  | [] => some []
  | e :: es => match cG n c e, cGs n c es with
    | some x, some xs => some (x :: xs)
    | _, _ => none
def orStop : Option T → T
  | some t => t
  | none => .stop
def cPar (n : Nat) (c : Cc) : List Expr → List Expr → Option T
  | [.Name x px, .Name y py], [a, b] => match posOf x c.N, posOf y c.N, cVs n c [a, b] with
    | some i, some j, some es => if i ≠ j ∧ c.names.lookup x = some .local ∧ c.names.lookup y = some .local ∧ swN c.names [.Name x px, .Name y py] [a, b] = some (some [x, y]) then some (.par [i, j] es) else none
    | _, _, _ => none
  | [.Name x px, .Name y py, .Name z pz], [a, b, d] => match posOf x c.N, posOf y c.N, posOf z c.N, cVs n c [a, b, d] with
    | some i, some j, some l, some es => if i ≠ j ∧ i ≠ l ∧ j ≠ l ∧ c.names.lookup x = some .local ∧ c.names.lookup y = some .local ∧ c.names.lookup z = some .local ∧ swN c.names [.Name x px, .Name y py, .Name z pz] [a, b, d] = some (some [x, y, z]) then some (.par [i, j, l] es) else none
    | _, _, _, _ => none
  | _, _ => none
def isTupE : Expr → Bool
  | .Tuple .. => true
  | _ => false
def isLcE : Expr → Bool
  | .ListComp _ [⟨_, _, _, 0⟩] _ _ => true
  | _ => false
def cAsg (n : Nat) (c : Cc) (tgt e : Expr) : Option T := match tgt with
  | .Name x p => match cT1 c (.Name x p) with
    | none => none
    | some i => match e with
      | .ListComp elt [⟨tg, iter, ifs, 0⟩] scope _ => (cC n c elt tg iter ifs scope).map fun y => .asg (.name i) y
      | e => if noLc e = true then (cV n c e).map fun y => .asg (.name i) y else none
  | .Subscript o i p => if noLc e = true then match cG n c (.Subscript o i p), cE n c e with
      | some t, some y => some (.asg t y)
      | _, _ => none
    else none
  | .Tuple ts _ _ => match e with
    | .Tuple vs j p => match swN c.names ts vs with
      | some none => match cGs n c ts, cE n c (.Tuple vs j p) with
        | some tgs, some y => some (.tup tgs y)
        | _, _ => none
      | some (some _) => cPar n c ts vs
      | none => none
    | e => match cGs n c ts, cE n c e with
      | some tgs, some y => some (.tup tgs y)
      | _, _ => none
  | _ => none
mutual
def cS : Nat → Cc → Stmt → T
  | 0, _, _ => .stop
  | n + 1, c, s => match s with
    | .Expr (.Constant (.str _) _ _) _ => .pass
    | .Expr (.Call (.Attribute (.Name o po) a apos) [e] [] cpos) _ => if a = ("append" : Str) ∧ notStar e = true ∧ (apos.endLine == cpos.line) = true then match cE n c (.Name o po), cE n c e with
        | some x, some y => .append x y
        | _, _ => .stop
      else if a = ("update" : Str) ∧ notStar e = true ∧ (apos.endLine == cpos.line) = true then match cE n c (.Name o po), cE n c e with
        | some x, some y => .update x y
        | _, _ => .stop
      else .stop
    | .Expr e _ => if noLc e = true then match cE n c e with
        | some y => .expr y
        | none => .stop
      else .stop
    | .Assign [tgt] e _ => orStop (cAsg n c tgt e)
    | .AugAssign (.Name x p) op e _ => match cT1 c (.Name x p), cE n c e with
      | some i, some y => if op = .Add ∨ op = .Sub then .aug i op y else .stop
      | _, _ => .stop
    | .Return none _ => .retN
    | .Return (some e) _ => match cV n c e with
      | some y => .ret y
      | none => .stop
    | .Pass _ => .pass
    | .Break _ => .brk
    | .Continue _ => .cont
    | .If e a b _ => match cE n c e with
      | some y => .ife y (cSs n c a) (cSs n c b)
      | none => .stop
    | .While e a [] _ => match cE n c e with
      | some y => .while' y (cSs n c a)
      | none => .stop
    | .For tg iter a [] _ => match cT c tg, cEs n c (iterOf c tg iter).2 with
      | some (is, one), some its => if notSet iter = true then .for' is one (iterOf c tg iter).1 its (cSs n c a) else .stop
      | _, _ => .stop
    | _ => .stop
def cSs : Nat → Cc → List Stmt → List T
  | 0, _, _ => [.stop]
  | _ + 1, _, [] => []
  | n + 1, c, s :: ss => cS n c s :: cSs n c ss
end
section
variable {G : Gb} {c : Cc} {w : Nat}
theorem ssStop {ss : List Stmt} : SSs G c w ss [.stop] := by
  intro X F k hp
  refine PSsw pss_never fun D st H q => ?_
  obtain ⟨io, env, S, r, env', S', sl, so, e, kk⟩ := q
  simp [exs, ex] at e
theorem cG_ok {n : Nat} {e : Expr} {t : Tg} (h : cG n c e = some t) : SG G c e t := by
  cases e with
  | Subscript o i p =>
    simp only [cG] at h
    split at h
    · rename_i hp
      split at h
      · rename_i x y q1 q2
        cases h
        refine sGs ((cok G n).e _ _ _ q1) ((cok G n).e _ _ _ q2) ?_
        cases i <;> first
          | (intro _ _; rfl)
          | (cases hp; done)
      · cases h
    · cases h
  | Name x p =>
    simp only [cG] at h
    obtain ⟨i, q, rfl⟩ := Option.map_eq_some_iff.mp h
    obtain ⟨x, p, e, hx⟩ := cT1_ok q
    cases e
    exact sGn hx
  | _ => simp [cG] at h
theorem cGs_ok {n : Nat} : ∀ {es : List Expr} {ts : List Tg}, cGs n c es = some ts → SGs G c es ts
  | [], ts, h => by simp only [cGs, Option.some.injEq] at h; subst h; exact .nil
  | e :: es, ts, h => by
    simp only [cGs] at h
    split at h
    · rename_i x xs q1 q2
      cases h
      exact .cons (cG_ok q1) (cGs_ok q2)
    · cases h
theorem sw_none {ts : List Expr} {j : Nat} {p : Pos} {e : Expr} {env : Env} (h : isTupE e = false) : swappedStores [.Tuple ts j p] e env = pure none := by
  cases e <;> first
    | rfl
    | (cases h; done)
theorem cPar_ok {n : Nat} {ts vs : List Expr} {j j2 : Nat} {p p2 pos : Pos} {t : T} (h : cPar n c ts vs = some t) : SS G c w (.Assign [.Tuple ts j p] (.Tuple vs j2 p2) pos) t := by
  unfold cPar at h
  split at h
  · split at h
    · rename_i i j es q1 q2 q3
      split at h
      · rename_i hc
        cases h
        exact sPar2 (posOf_get q1) (posOf_get q2) hc.1 hc.2.1 hc.2.2.1 (cVs_ok q3) hc.2.2.2
      · cases h
    · cases h
  · split at h
    · rename_i i j l es q1 q2 q3 q4
      split at h
      · rename_i hc
        cases h
        exact sPar3 (posOf_get q1) (posOf_get q2) (posOf_get q3) hc.1 hc.2.1 hc.2.2.1 hc.2.2.2.1 hc.2.2.2.2.1 hc.2.2.2.2.2.1 (cVs_ok q4) hc.2.2.2.2.2.2
      · cases h
    · cases h
  · cases h
theorem cAsg_ok {n : Nat} {tgt e : Expr} {pos : Pos} {t : T} (h : cAsg n c tgt e = some t) : SS G c w (.Assign [tgt] e pos) t := by
  unfold cAsg at h
  split at h
  · split at h
    · cases h
    · rename_i i q
      obtain ⟨x, p, e1, hx⟩ := cT1_ok q
      cases e1
      split at h
      · obtain ⟨y, q2, rfl⟩ := Option.map_eq_some_iff.mp h
        obtain ⟨own, is, one, m, its, fi, cd, y, rfl, h1, h2, h3, h4, h5, h6, h7⟩ := (cok G n).cc _ _ _ _ _ _ _ q2
        exact sSetLc hx h1 h2 h3 h4 h5 h6 (notSet_ok h7)
      · split at h
        · rename_i hn
          obtain ⟨y, q2, rfl⟩ := Option.map_eq_some_iff.mp h
          exact sSet hx (cV_ok q2) hn
        · cases h
  · split at h
    · rename_i hn
      split at h
      · rename_i t y q1 q2
        cases h
        have hg := cG_ok (G := G) q1
        simp only [cG] at q1
        split at q1
        · split at q1
          · cases q1
            exact sSub hg ((cok G n).e _ _ _ q2) hn
          · cases q1
        · cases q1
      · cases h
    · cases h
  · split at h
    · split at h
      · rename_i q0
        split at h
        · rename_i tgs y q1 q2
          cases h
          exact sAsgT (cGs_ok q1) ((cok G n).e _ _ _ q2) fun X F k => swN_ok k q0
        · cases h
      · exact cPar_ok h
      · cases h
    · rename_i hne
      split at h
      · rename_i tgs y q1 q2
        cases h
        refine sAsgT (cGs_ok q1) ((cok G n).e _ _ _ q2) fun X F k => sw_none ?_
        cases e <;> first
          | rfl
          | exact absurd rfl (hne _ _ _)
      · cases h
  · cases h
structure SOKs (G : Gb) (w n : Nat) : Prop where
  s : ∀ c s, SS G c w s (cS n c s)
  ss : ∀ c s, SSs G c w s (cSs n c s)
theorem sok (G : Gb) (w : Nat) : ∀ n, SOKs G w n
  | 0 => ⟨fun c s => by simp only [cS]; exact sStop, fun c s => by simp only [cSs]; exact ssStop⟩
  | n + 1 => by
    have ih := sok G w n
    refine ⟨fun c s => ?_, fun c s => ?_⟩
    · simp only [cS]
      split
      · exact sDoc
      · split
        · rename_i hc
          obtain ⟨rfl, h2, h3⟩ := hc
          split
          · rename_i x y q1 q2
            exact sAppend ((cok G n).e _ _ _ q1) ((cok G n).e _ _ _ q2) h2 (fun _ => rfl) h3
          · exact sStop
        · split
          · rename_i hc
            obtain ⟨rfl, h2, h3⟩ := hc
            split
            · rename_i x y q1 q2
              exact sUpdate ((cok G n).e _ _ _ q1) ((cok G n).e _ _ _ q2) h2 (fun _ => rfl) h3
            · exact sStop
          · exact sStop
      · split
        · rename_i hn
          split
          · rename_i y q
            exact sExpr ((cok G n).e _ _ _ q) hn
          · exact sStop
        · exact sStop
      · rename_i tgt e pos
        cases q : cAsg n c tgt e with
        | none => exact sStop
        | some t => exact cAsg_ok q
      · split
        · rename_i i y q1 q2
          obtain ⟨x, p, e, hx⟩ := cT1_ok q1
          cases e
          split
          · rename_i ho
            exact sAug hx ho ((cok G n).e _ _ _ q2)
          · exact sStop
        · exact sStop
      · exact sRetN
      · split
        · rename_i y q
          exact sRet (cV_ok q)
        · exact sStop
      · exact sPass
      · exact sBrk
      · exact sCont
      · split
        · rename_i y q
          exact sIfS ((cok G n).e _ _ _ q) (ih.ss _ _) (ih.ss _ _)
        · exact sStop
      · split
        · rename_i y q
          exact sWhile ((cok G n).e _ _ _ q) (ih.ss _ _)
        · exact sStop
      · split
        · rename_i is one its q1 q2
          split
          · rename_i hs
            exact sFor (iterOf_ok ((cok G n).es _ _ _ q2)) (cT_ok q1) (ih.ss _ _) (notSet_ok hs)
          · exact sStop
        · exact sStop
      · exact sStop
    · cases s with
      | nil => simp only [cSs]; exact ssNil
      | cons s ss => simp only [cSs]; exact ssCons (ih.s _ _) (ih.ss _ _)
end
end Ev

namespace Ev
open PySem PySem.Spec PyProof.Rows L2
/-! ### a text's defs -/
structure DI where
  name : Str
  params : Arguments
  body : List Stmt
  scope : Scope
  ps : List Str
  N : List Str
  refs : Bool
  deriving Inhabited
structure Pg where
  ds : List DI
  glbs : List Str
  kws : List (Str × List Str × List Nat)
  fuel : Nat
def Pg.fns (p : Pg) : List (Str × List Str) := p.ds.map fun d => (d.name, d.ps)
def Pg.cc (p : Pg) (d : DI) : Cc := ⟨d.N, d.scope.names, p.fns, p.glbs, p.kws, d.refs, false⟩
/-- what the evaluator knows of them -/
structure Ag (p : Pg) (df : Str → Option Df) : Prop where
  dom : ∀ g e, df g = some e → ∃ d ∈ p.ds, d.name = g
  df : ∀ d ∈ p.ds, df d.name = some ⟨d.ps, d.N.length, cSs p.fuel (p.cc d) d.body⟩
/-- what the machine holds of them -/
structure Mc (p : Pg) (K : PySem.W.Frag) (mg : Str → Option Value) (fa : Str → Addr) (glb : Str → Option D) : Prop where
  fn : ∀ d ∈ p.ds, ∃ fd, FunD K d.name d.name d.params d.body d.scope [] [] (fa d.name) fd ∧ mg d.name = some (.ref (fa d.name)) ∧ Binds K fd d.ps [] ∧ ∀ ks ix, (d.name, ks, ix) ∈ p.kws → KwOK K fd d.ps ks ix
  sc : ∀ d ∈ p.ds, FnScope d.N d.ps d.scope
  free : ∀ f : Bf, mg f.name = none
  free2 : mg "range" = none ∧ mg "enumerate" = none ∧ mg "zip" = none ∧ mg "bool" = none ∧ mg "dict" = none
  glb : ∀ g d, g ∈ p.glbs → glb g = some d → ∃ u v, mg g = some u ∧ RelV v u ∧ ∀ lk io H, Rep ⟨K, fa, lk⟩ io H d v
section
variable {p : Pg} {df : Str → Option Df} {glb : Str → Option D} {wf : Nat} {P : Program} {w : World} {K : PySem.W.Frag} {mg : Str → Option Value} {base : Heap} {fa : Str → Addr}
theorem callN_len {n : Nat} {f : Str} {d : Df} (h : df f = some d) (as : List D) (S : Sto) (r : D × Sto) (e : callN df glb wf n f as S = some r) : as.length = d.ps.length := by
  cases n with
  | zero => simp [callN] at e
  | succ n =>
    simp only [callN, h] at e
    split at e
    · assumption
    · cases e
theorem start_ok {F : Fx} {io : List Addr} {H : Hp} {N : List Str} {as : List D} {vs : List V} {d : Df} (hn : d.n = N.length) (r : Reps F io H as vs) : SlOK F io H (L2.start N vs) (startD d as) := by
  have hl := r.len
  refine ⟨by simp [startD, L2.start, hn, hl], fun i e he => ?_⟩
  unfold startD at he
  by_cases hi : i < as.length
  · rw [List.getElem?_append_left (by simpa using hi), List.getElem?_map] at he
    cases q : as[i]? with
    | none => rw [q] at he; cases he
    | some a =>
      rw [q] at he
      cases he
      obtain ⟨v, e1, e2⟩ := r.get q
      refine ⟨v, ?_, e2⟩
      unfold L2.start
      rw [List.getElem?_append_left (by simp; omega), List.getElem?_map, e1]
      rfl
  · rw [List.getElem?_append_right (by simpa using hi), List.getElem?_replicate] at he
    split at he <;> cases he
theorem lev (A : Ag p df) (M : Mc p K mg fa glb) : ∀ (n : Nat), ∀ d ∈ p.ds, ∀ fd, FunD K d.name d.name d.params d.body d.scope [] [] (fa d.name) fd →
    FnG P w K mg base n (fa d.name) fd d.ps (spG K fa d.ps (callN df glb wf n d.name))
  | 0, d, hd, fd, T => by
    refine ⟨fun vs H Q q => ?_, fun ar outs sh H args us vs Q _ _ _ _ _ q => ?_⟩
    · obtain ⟨lk, io, S, ds, r, S', so, rs, e, _⟩ := q
      simp [callN] at e
    · obtain ⟨lk, io, S, ds, r, S', so, rs, e, _⟩ := q
      simp [callN] at e
  | n + 1, d, hd, fd, T => by
    have ih := lev A M n
    refine FnG.of T (M.sc d hd) (fun vs H Q q => ?_) fun cdv ar outs sh H vs Q gd room wish => ?_
    · obtain ⟨lk, io, S, ds, r, S', so, rs, e, hl, _⟩ := q
      exact hl
    obtain ⟨lk, io, S, as, r, S', so, rs, e, hl, kk⟩ := wish
    have hdf := A.df d hd
    simp only [callN, hdf] at e
    split at e
    case' isFalse => cases e
    rename_i hlen
    have ck : CxOK ⟨callN df glb wf n, glb⟩ (p.cc d) (cxOf CX0 P w K mg base d.N d.name d.scope (fa d.name) cdv ar outs sh H E0) ⟨K, fa, lk⟩ := by
      refine ⟨rfl, rfl, (M.sc d hd).nd, rfl, (M.sc d hd).kind, rfl, ?_, room.units, fun _ _ => rfl, M.free, M.free2, fun g e hg he => ?_, fun f ps hf => ?_, fun g ds S r e => ?_⟩
      · show (ar.deeper _).guards = some []
        exact gd
      · obtain ⟨u, v, h1, h2, h3⟩ := M.glb g e hg he
        exact ⟨u, v, h1, h2, fun lk io H => h3 lk io H⟩
      · obtain ⟨d2, hd2, e2⟩ := List.mem_map.mp (show (f, ps) ∈ p.ds.map fun d => (d.name, d.ps) from hf)
        cases e2
        obtain ⟨fd2, T2, hm, hb, hk⟩ := M.fn d2 hd2
        refine ⟨⟨fa d2.name, fd2, n, hm, T2.kp, ih d2 hd2 fd2 T2, room, hb, hk⟩, fun ds S r e => ?_, hm⟩
        exact callN_len (A.df d2 hd2) ds S r e
      · have hd3 : ∃ e2, df g = some e2 := by
          cases n with
          | zero => simp [callN] at e
          | succ n =>
            simp only [callN] at e
            split at e
            · cases e
            · rename_i d0 q0
              exact ⟨d0, q0⟩
        obtain ⟨e2, h2⟩ := hd3
        obtain ⟨d3, hd3, rfl⟩ := A.dom g e2 h2
        exact ⟨d3.ps, List.mem_map_of_mem (f := fun d : DI => (d.name, d.ps)) hd3⟩
    have ps := (sok (⟨callN df glb wf n, glb⟩ : Gb) wf p.fuel).ss (p.cc d) d.body _ _ ck PassesOwn.leaving
    refine ⟨_, ps, ?_⟩
    have sl : SlOK ⟨K, fa, lk⟩ io H (L2.start d.N vs) (startD ⟨d.ps, d.N.length, cSs p.fuel (p.cc d) d.body⟩ as) := start_ok rfl rs
    revert e
    cases q : exs ⟨callN df glb wf n, glb⟩ wf (cSs p.fuel (p.cc d) d.body) (startD ⟨d.ps, d.N.length, cSs p.fuel (p.cc d) d.body⟩ as) S with
    | none => intro e; cases e
    | some z =>
      obtain ⟨fl, env', S1⟩ := z
      intro e
      refine ⟨io, _, S, fl, env', S1, sl, so, q, fun io' H' st' g so' sl' => ?_⟩
      cases fl with
      | rt x =>
        simp only [Option.some.injEq, Prod.mk.injEq] at e
        obtain ⟨rfl, rfl⟩ := e
        exact fun v rv => kk io' H' v g so' rv
      | nx =>
        simp only [Option.some.injEq, Prod.mk.injEq] at e
        obtain ⟨rfl, rfl⟩ := e
        exact kk io' H' .non g so' .non
      | bk => cases e
      | ct => cases e
/-- the law's own def, as walk_ofE asks it -/
def spL (K : PySem.W.Frag) : Sp := fun vs H Q _ => ∃ (a : Addr) (ns : List Int), vs = [.ref a] ∧ Only H ∧ SqL K H a (ns.map V.int) ∧ ns.length ≤ 63 ∧ ∀ H', Q (.bl true) H'
theorem FnG.toOk {k : Nat} {f : Addr} {fd : FuncData} {ps : List Str} {sp : SpG} {sp' : Sp} (G : FnG P w K mg base k f fd ps sp) (h : ∀ vs H Q E, sp' vs H Q E → sp vs H Q)
    (hg : ∀ ar : Around, Room k ar → ar.guards = some []) : FnOk P w K mg base CX0 k f fd ps sp' :=
  ⟨fun vs H Q E q => G.len vs H Q (h _ _ _ _ q), fun ar outs sh H args us vs Q E r e b v q => G.run ar outs sh H args us vs Q r (hg ar r) e b v (h _ _ _ _ q)⟩
end
end Ev

namespace Ev
open PySem PySem.Spec PyProof.Rows L2
/-! ### the law's call, by FnG -/
abbrev LawEnd (sh sh' : Shared) (r : Result) : Prop := r = .ok (.ret (.bool true)) ∧ OldK sh.heap sh'.heap ∧ sh'.os = sh.os ∧ AllBare sh'.gens
section
variable {P : Program} {w : World} {K : PySem.W.Frag} {mg mb : Str → Option Value} {k : Nat} {fa a : Addr} {fd : FuncData} {x : Str} {sp : SpG} {sh : Shared} {vs : List Value} {ns : List Int}
theorem law_core {H : Hp} (KX : K.In sh.heap) (hns : sh.heap.Ns mainGlobals mg) (hb : sh.heap.Ns builtinsNs mb) (hbb : ∀ x : Str, x ≠ "__name__" → mb x = bootBuiltins x) (hlim : sh.heap.NoLimit) (hg : sh.gens = #[])
    (ha : sh.heap.get? a = some { cls := .type "list", data := .seq vs.toArray }) (hr : Room k callerA)
    (FF : ∀ base : Heap, K.In base → base.Ns mainGlobals mg → FnG P w K mg base k fa fd [x] sp) (hbind : ∀ (s : Shared) (u : Value), BindsTo s fd ⟨[u], []⟩ [(x, u)])
    (hO : Only H) (wish : sp [.ref a] H (fun v _ => v = .bl true)) (hok : HOk P w H sh.heap) (hA : ∀ b, H b ≠ none → b = a) (hK : H a ≠ none → K.lookup a = none) :
    codeAny (model P w) callerA (.call (.ref fa) ⟨[.ref a], []⟩) (fun r s' => LawEnd sh s' r) sh := by
  have base_of : ∀ {b : Addr} {o : Obj}, sh.heap.get? b = some o → H b = none → (hidT sh.heap H).get? b = some o := hidT_get
  have only_a : ∀ {b : Addr} {u : HO}, H b = some u → b = a := fun q => hA _ (by rw [q]; exact fun z => nomatch z)
  have noA : ∀ {b : Addr} {o : Obj} {es : Array DictEntry} {ep : Nat}, sh.heap.get? b = some o → o.data = .dict es ep → H b = none := by
    intro b o es ep e d
    match q : H b with
    | none => rfl
    | some u =>
      obtain rfl := only_a q
      rw [ha] at e
      cases e
      exact nomatch (show Data.seq vs.toArray _ = Data.dict es ep from d)
  have nsK : ∀ {b : Addr} {m : Str → Option Value}, sh.heap.Ns b m → (hidT sh.heap H).Ns b m := by
    rintro b m ⟨o, es, ep, e, d, r⟩
    exact ⟨o, es, ep, base_of e (noA e d), d, r⟩
  have hKb : K.In (hidT sh.heap H) := by
    intro b o e
    refine base_of (KX b o e) ?_
    match q : H b with
    | none => rfl
    | some u =>
      obtain rfl := only_a q
      exact nomatch (hK (by rw [q]; exact fun z => nomatch z)).symm.trans e
  have hM : Mod K mg (hidT sh.heap H) := by
    obtain ⟨mc, h1, h2⟩ := hlim
    exact ⟨hKb, nsK hns, ⟨mb, nsK hb, hbb⟩, mc, nsK h1, h2⟩
  have e0 : Env0 P w K mg (hidT sh.heap H) callerA [] sh H := by
    refine ⟨rfl, hM, fun b o e => of_hidT e, ?_, trivial, ?_, hok, .of_eq hg⟩
    · exact Nat.le_of_eq (hidT_size _ _)
    · intro b hb
      cases hb
  have go := (FF _ hKb (nsK hns)).run callerA [] sh H ⟨[.ref a], []⟩ [.ref a] [.ref a] _ hr rfl e0 (hbind sh (.ref a)) (.cons rfl .nil) wish
  refine codeAny_mono go fun r s' h => ?_
  match r, h with
  | .error e, h => exact h.elim
  | .ok .next, h => exact h.elim
  | .ok .brk, h => exact h.elim
  | .ok .cont, h => exact h.elim
  | .ok (.ret u), h =>
    obtain ⟨v, H', os, bare, un, hok', r', q⟩ := h
    obtain rfl : v = .bl true := q
    obtain rfl : u = Value.bool true := r'
    refine ⟨rfl, OldK.of_keep ?_, os, bare⟩
    intro b o e
    match q : H b with
    | none => exact un.keep b o e q (fun z => nomatch z) (fun z => nomatch z)
    | some u =>
      rcases hO b with z | ⟨ob, xs, z⟩
      · exact nomatch q.symm.trans z
      · have z2 := un.frzs b ob _ z
        obtain ⟨e1, _⟩ := hok b _ z
        obtain ⟨e2, _⟩ := hok' b _ z2
        rw [e] at e1
        cases e1
        exact e2
theorem law_callG (KX : K.In sh.heap) (hns : sh.heap.Ns mainGlobals mg) (hb : sh.heap.Ns builtinsNs mb) (hbb : ∀ x : Str, x ≠ "__name__" → mb x = bootBuiltins x) (hlim : sh.heap.NoLimit) (hg : sh.gens = #[])
    (ha : sh.heap.get? a = some { cls := .type "list", data := .seq vs.toArray }) (hi : IntsAre vs ns) (hl : ns.length ≤ sizeLine) (hr : Room k callerA)
    (FF : ∀ base : Heap, K.In base → base.Ns mainGlobals mg → FnG P w K mg base k fa fd [x] sp) (hbind : ∀ (s : Shared) (u : Value), BindsTo s fd ⟨[u], []⟩ [(x, u)])
    (hsp : ∀ H : Hp, Only H → SqL K H a (ns.map V.int) → sp [.ref a] H (fun v _ => v = .bl true)) :
    codeAny (model P w) callerA (.call (.ref fa) ⟨[.ref a], []⟩) (fun r s' => LawEnd sh s' r) sh := by
  have rv := vals_ints hi
  have lenV := hi.length
  match hk : K.lookup a with
  | some o =>
    have e := KX a o hk
    rw [ha] at e
    cases e
    have none_ : ∀ b : Addr, (fun _ => none : Hp) b = none := fun _ => rfl
    refine law_core (H := fun _ => none) KX hns hb hbb hlim hg ha hr FF hbind (fun b => .inl rfl) (hsp _ (fun b => .inl rfl) ?_) ?_ (fun b z => absurd rfl z) (fun z => absurd rfl z)
    · refine .inr ⟨_, vs.toArray, _, hk, rfl, rfl, rfl, ?_, ?_⟩
      · rw [List.size_toArray, lenV]
        exact hl
      · simpa using rv
    · intro b u z
      exact nomatch (none_ b).symm.trans z
  | none =>
    let ob : Obj := { cls := .type "list", data := .seq vs.toArray }
    let H : Hp := fun b => if b = a then some (.frz ob (.lst (ns.map V.int))) else none
    have at_a : H a = some (.frz ob (.lst (ns.map V.int))) := if_pos rfl
    have off : ∀ {b}, b ≠ a → H b = none := fun h => if_neg h
    have hO : Only H := by
      intro b
      by_cases e : b = a
      · subst e
        exact .inr ⟨_, _, at_a⟩
      · exact .inl (off e)
    refine law_core (H := H) KX hns hb hbb hlim hg ha hr FF hbind hO (hsp H hO (.inl (.inr ⟨ob, at_a⟩))) ?_ ?_ fun _ => hk
    · intro b u z
      by_cases e : b = a
      · subst e
        rw [at_a] at z
        cases z
        refine ⟨ha, ?_, vs, _, rv, ha⟩
        rw [List.length_map]
        exact hl
      · exact nomatch (off e).symm.trans z
    · intro b z
      by_cases e : b = a
      · exact e
      · exact absurd (off e) z
end
theorem walk_ofG {l : PySem.W.OpenLaw} {n k : Nat} {q : Program} {loose : List Str} {XP : (Str → Option Value) → Heap → Prop} {YP : World → Heap → Prop} {d : DefRec} {x : Str} (hn : l.most = some n) (hn2 : n ≤ sizeLine) (hdf : d.params.defaults = []) (hr : Room k callerA)
    (FF : ∀ (w : World) (mg : Str → Option Value) (fa : Addr) (h : Heap), YP w h → h.Ns mainGlobals mg → mg d.name = some (.ref fa) → ∃ (K : PySem.W.Frag) (fd : FuncData) (sp : SpG), K.In h ∧ (∀ (s : Shared) (u : Value), BindsTo s fd ⟨[u], []⟩ [(x, u)]) ∧
        (∀ (H : Hp) (a : Addr) (ns : List Int), ns.length ≤ n → Only H → SqL K H a (ns.map V.int) → sp [.ref a] H (fun v _ => v = .bl true)) ∧ ∀ base : Heap, K.In base → base.Ns mainGlobals mg → FnG l.prog w K mg base k fa fd [x] sp) :
    PySem.W.WalkO q loose XP YP l.row.toRowW d [] (fun f vs => PySem.call f vs) := by
  apply Att.attach_call hn hdf
  intro w s0 s1 mg mb fa o pm cd doc a vs ns G Y ho hd hcd hmg hobj hints hlen hg
  obtain ⟨K, fd, sp, KX, hb, hsp, hF⟩ := FF w mg fa _ Y G.T.g hmg
  refine law_callG KX G.T.g G.T.b G.T.builtins G.T.nolimit hg hobj hints (Nat.le_trans hlen hn2) hr hF hb ?_
  exact fun H hO hS => hsp H a ns hlen hO hS
/-- the script as the evaluator has it -/
theorem script_rep {K : PySem.W.Frag} {fa : Str → Addr} {H : Hp} {a : Addr} {ns : List Int} (hO : Only H) (hS : SqL K H a (ns.map V.int)) (io : List Addr) (lk : List Addr) : Rep ⟨K, fa, lk⟩ io H (.rls (ns.map D.int)) (.ref a) := by
  have rs : Reps ⟨K, fa, lk⟩ io H (ns.map D.int) (ns.map V.int) := by
    clear hS
    induction ns with
    | nil => exact .nil
    | cons n ns ih => exact .cons (.int n) ih
  rcases hS with (h | ⟨o, h⟩) | h
  · rcases hO a with z | ⟨o, xs, z⟩
    · exact nomatch z.symm.trans h
    · exact nomatch z.symm.trans h
  · exact .rlsF h rs
  · exact .rlsK h rs
/-- the law: its def's own call by the evaluator tells True -/
theorem law_sp {K : PySem.W.Frag} {fa : Str → Addr} {cl : List D → Sto → Option (D × Sto)} {x : Str} {H : Hp} {a : Addr} {ns : List Int} (hO : Only H) (hS : SqL K H a (ns.map V.int)) {S' : Sto} (e : cl [.rls (ns.map D.int)] [] = some (.bl true, S')) :
    spG K fa [x] cl [.ref a] H (fun v _ => v = .bl true) := by
  refine ⟨[], [], [], [.rls (ns.map D.int)], .bl true, S', ?_, .cons (script_rep hO hS [] []) .nil, e, rfl, fun io' H' v g so r => ?_⟩
  · exact ⟨rfl, .nil, fun a ha => (by cases ha), fun n a m h => (by simp at h)⟩
  · cases r
    rfl
end Ev

namespace Ev
open PySem PySem.Spec PyProof.Rows L2
/-! ### the head's facts -/
def Pg.fnD (p : Pg) : List He.DefD := p.ds.map fun d => ⟨(d.name, none), d.name, d.name, d.params, d.body, d.scope, [], []⟩
def Pg.fas (p : Pg) (free : List Str) : List He.Fa := (p.ds.map fun d => He.Fa.glo d.name) ++ (p.glbs.map He.Fa.glo ++ free.map He.Fa.free)
def frees : List Str := ["len", "isinstance", "int", "abs", "max", "min", "repr", "divmod", "all", "tuple", "list", "str", "range", "enumerate", "zip", "bool", "dict"]
/-- constants of the module: tuples of plain values, of such tuples -/
def dvD : D → Option He.Dv
  | .non => some .non
  | .bl b => some (.bl b)
  | .int i => some (.int i)
  | .str x => some (.str x)
  | _ => none
def dvDs : List D → Option (List He.Dv)
  | [] => some []
  | d :: ds => match dvD d, dvDs ds with
    | some v, some vs => some (v :: vs)
    | _, _ => none
/-- what the head must hold of the constant g -/
def cstB (K : PySem.W.Frag) (g : Str) (d : D) : Bool := match d with
  | .tup l => match dvDs l with
    | some vs => He.tupB K g vs
    | none => false
  | _ => false
theorem dvD_rep {F : Fx} {io : List Addr} {H : Hp} {d : D} {v : He.Dv} (h : dvD d = some v) : Rep F io H d (v.v F.K) := by
  cases d <;> simp only [dvD] at h <;> first
    | (cases h; done)
    | (cases h; first | exact .non | exact .bl _ | exact .int _ | exact .str _)
theorem dvDs_rep {F : Fx} {io : List Addr} {H : Hp} : ∀ {ds : List D} {vs : List He.Dv}, dvDs ds = some vs → Reps F io H ds (vs.map (He.Dv.v F.K))
  | [], vs, h => by simp only [dvDs, Option.some.injEq] at h; subst h; exact .nil
  | d :: ds, vs, h => by
    simp only [dvDs] at h
    split at h
    · rename_i v vs' q1 q2
      cases h
      exact .cons (dvD_rep q1) (dvDs_rep q2)
    · cases h
theorem cst_rep {K : PySem.W.Frag} {fa : Str → Addr} {g : Str} {d : D} (h : cstB K g d = true) (lk io : List Addr) (H : Hp) : Rep ⟨K, fa, lk⟩ io H d (.ref (He.ga K g)) := by
  unfold cstB at h
  split at h
  · split at h
    · rename_i vs q
      exact .tup (He.tupB_ok h H) (dvDs_rep (F := ⟨K, fa, lk⟩) q)
    · cases h
  · cases h
/-- the constants by name -/
def lookD (x : Str) : List (Str × D) → Option D
  | [] => none
  | (y, d) :: r => if y = x then some d else lookD x r
def cstsB (cs : List (Str × D)) (K : PySem.W.Frag) : Bool := cs.all fun q => cstB K q.1 q.2
theorem lookD_mem {x : Str} {d : D} : ∀ {cs : List (Str × D)}, lookD x cs = some d → (x, d) ∈ cs
  | [], h => by cases h
  | (y, e) :: r, h => by
    simp only [lookD] at h
    split at h
    · rename_i q
      cases h
      subst q
      exact List.mem_cons_self
    · exact List.mem_cons_of_mem _ (lookD_mem h)
/-- how a def's parameters are bound -/
def BndOK (d : DI) : Prop := ∀ (kV doc pm : Value) (an : Option Addr) (cdv ct : Value) (us : List Value), us.length = d.ps.length →
  bindArgs (PySem.W.fnOf d.name d.name d.params d.body d.scope .none kV doc pm an cdv ct) ⟨us, []⟩ = pure (d.ps.zip us)
def KwdOK (d : DI) (ks : List Str) (ix : List Nat) : Prop := ∀ (kV doc pm : Value) (an : Option Addr) (cdv ct : Value) (ws us : List Value), ws.length = ks.length → pickV ix ws = some us →
  bindArgs (PySem.W.fnOf d.name d.name d.params d.body d.scope .none kV doc pm an cdv ct) ⟨[], ks.zip ws⟩ = pure (d.ps.zip us)
def scB (d : DI) : Bool := decide (d.scope.kind = .function) && (!d.scope.isCoroutine && (!d.scope.isGenerator && (decide d.N.Nodup && (decide (d.N.take d.ps.length = d.ps) &&
  ((d.ps.all fun x => decide (d.scope.names.lookup x = some .local) || decide (d.scope.names.lookup x = some .cell)) && d.scope.names.all fun y => decide (y.2 ≠ .free))))))
theorem scB_ok {d : DI} (h : scB d = true) : FnScope d.N d.ps d.scope := by
  simp only [scB, Bool.and_eq_true, decide_eq_true_eq, Bool.not_eq_true', List.all_eq_true, Bool.or_eq_true] at h
  obtain ⟨h1, h2, h3, h4, h5, h6, h7⟩ := h
  exact ⟨h1, h2, h3, h4, h5, h6, h7⟩
/-- all that is asked of the text -/
structure TxOK (p : Pg) (cs : List (Str × D)) : Prop where
  sc : (p.ds.all scB) = true
  bn : ∀ d ∈ p.ds, BndOK d
  kw : ∀ d ∈ p.ds, ∀ ks ix, (d.name, ks, ix) ∈ p.kws → KwdOK d ks ix
  gl : ∀ g d, lookD g cs = some d → g ∈ p.glbs
section
variable {p : Pg} {cs : List (Str × D)} {w : World} {h : Heap} {K : PySem.W.Frag} {mg : Str → Option Value}
theorem funs (T : TxOK p cs) (Y : He.SaysX (p.fas frees) p.fnD [] [] (cstsB cs) w h K) {d : DI} (hd : d ∈ p.ds) : ∃ fd, FunD K d.name d.name d.params d.body d.scope [] [] (He.ga K d.name) fd := by
  have hm : (⟨(d.name, none), d.name, d.name, d.params, d.body, d.scope, [], []⟩ : He.DefD) ∈ p.fnD := List.mem_map_of_mem (f := fun d : DI => (⟨(d.name, none), d.name, d.name, d.params, d.body, d.scope, [], []⟩ : He.DefD)) hd
  obtain ⟨fd, F⟩ := Y.t.d.defs hm
  exact ⟨fd, F⟩
theorem facs (Y : He.SaysX (p.fas frees) p.fnD [] [] (cstsB cs) w h K) {f : He.Fa} (hf : f ∈ p.fas frees) : f.ok K = true := Y.t.d.facts hf
theorem mc_of (T : TxOK p cs) (Y : He.SaysX (p.fas frees) p.fnD [] [] (cstsB cs) w h K) (X : K.In h) (G : h.Ns mainGlobals mg) : Mc p K mg (He.ga K) fun g => lookD g cs := by
  have fr : ∀ x ∈ frees, mg x = none := fun x hx => He.free_ok X G (facs Y (List.mem_append_right _ (List.mem_append_right _ (List.mem_map_of_mem hx))))
  refine ⟨fun d hd => ?_, fun d hd => scB_ok (List.all_eq_true.mp T.sc d hd), fun f => ?_, ?_, fun g d hg e => ?_⟩
  · obtain ⟨fd, F⟩ := funs T Y hd
    refine ⟨fd, F, He.glo_ok X G (facs Y (List.mem_append_left _ (List.mem_map_of_mem (f := fun d : DI => He.Fa.glo d.name) hd))), FunD.bindsN F (T.bn d hd), fun ks ix hk => ?_⟩
    intro sh ws us _ hl hp
    obtain ⟨oc, od, dV, kV, doc, pm, an, cdv, ct, osl, rfl, lk, hcd, hD, hK⟩ := F.ex
    rcases hD with ⟨_, rfl⟩ | ⟨e, _⟩
    · exact .of_eq (T.kw d hd ks ix hk kV doc pm an cdv ct ws us hl hp)
    · exact absurd rfl e
  · cases f <;> exact fr _ (by decide +kernel)
  · exact ⟨fr _ (by decide +kernel), fr _ (by decide +kernel), fr _ (by decide +kernel), fr _ (by decide +kernel), fr _ (by decide +kernel)⟩
  · refine ⟨_, .ref (He.ga K g), He.glo_ok X G (facs Y (List.mem_append_right _ (List.mem_append_left _ (List.mem_map_of_mem hg)))), rfl, fun lk io H => ?_⟩
    exact cst_rep (List.all_eq_true.mp Y.more (g, d) (lookD_mem e)) lk io H
end
/-- the law by the evaluator -/
theorem law_walk {l : PySem.W.OpenLaw} {k wf : Nat} {q : Program} {loose : List Str} {XP : (Str → Option Value) → Heap → Prop} {d : DefRec} {p : Pg} {cs : List (Str × D)} {df : Str → Option Df} {dl : DI} {x : Str}
    (T : TxOK p cs) (A : Ag p df) (hd : dl ∈ p.ds) (hx : dl.ps = [x]) (hnm : dl.name = d.name) (hn : l.most = some 63) (hdf : d.params.defaults = []) (hr : Room k callerA)
    (run : ∀ ns : List Int, ns.length ≤ 63 → ∃ S', callN df (fun g => lookD g cs) wf k dl.name [.rls (ns.map D.int)] [] = some (.bl true, S')) :
    PySem.W.WalkO q loose XP (He.hookX 4 (p.fas frees) p.fnD [] [] (cstsB cs)).says l.row.toRowW d [] (fun f vs => PySem.call f vs) := by
  refine walk_ofG (n := 63) (k := k) (x := x) hn (by decide) hdf hr fun w mg fa h Y G hm => ?_
  obtain ⟨K, X, c⟩ := Y
  obtain ⟨fd, F⟩ := funs T c hd
  have M := mc_of T c X G
  have e : mg dl.name = some (.ref (He.ga K dl.name)) := He.glo_ok X G (facs c (List.mem_append_left _ (List.mem_map_of_mem (f := fun d : DI => He.Fa.glo d.name) hd)))
  rw [← hnm] at hm
  have e2 := e.symm.trans hm
  cases e2
  refine ⟨K, fd, spG K (He.ga K) [x] (callN df (fun g => lookD g cs) wf k dl.name), X, fun s u => ?_, fun H a ns hl hO hS => ?_, fun base hb hg => ?_⟩
  · have b := FunD.bindsA (ps := dl.ps) F (T.bn dl hd) s [u] (by rw [hx]; rfl)
    rw [hx] at b
    exact b
  · obtain ⟨S', e3⟩ := run ns hl
    exact law_sp hO hS e3
  · have L := lev (P := l.prog) (w := w) (base := base) (wf := wf) A M k dl hd fd F
    rw [hx] at L
    exact L
end Ev

namespace Ev
open PySem PySem.Spec PyProof.Rows L2
/-! ### reckoning by the evaluator -/
theorem call_eq {df : Str → Option Df} {gl : Str → Option D} {w k : Nat} {f : Str} {d : Df} (h : df f = some d) {as : List D} {S : Sto} (hl : as.length = d.ps.length) :
    callN df gl w (k + 1) f as S = match exs ⟨callN df gl w k, gl⟩ w d.body (startD d as) S with
      | some (.rt r, _, S1) => some (r, S1)
      | some (.nx, _, S1) => some (.non, S1)
      | _ => none := by
  simp only [callN, h, hl, if_true] <;> rfl
theorem forLoop_inv {bd : D → EnvD → Option EnvD} {body : EnvD → Sto → Option (Fl × EnvD × Sto)} {I : EnvD → Sto → Prop} : ∀ {ds : List D} {env : EnvD} {S : Sto},
    (∀ d ∈ ds, ∀ env S, I env S → ∃ env1 env2 S2, bd d env = some env1 ∧ body env1 S = some (.nx, env2, S2) ∧ I env2 S2) → I env S →
    ∃ env' S', forLoop (fun _ => true) bd body ds env S = some (.nx, env', S') ∧ I env' S'
  | [], env, S, _, h => ⟨env, S, by simp [forLoop], h⟩
  | d :: ds, env, S, st, h => by
    obtain ⟨env1, env2, S2, e1, e2, h2⟩ := st d List.mem_cons_self env S h
    obtain ⟨env', S', e3, h3⟩ := forLoop_inv (ds := ds) (fun d hd => st d (List.mem_cons_of_mem _ hd)) h2
    exact ⟨env', S', by simp only [forLoop, if_true, e1, e2]; exact e3, h3⟩
/-- a loop that may end by a return of one value -/
theorem compLoop_inv {bd : D → EnvD → Option EnvD} {el : EnvD → Sto → Option (D × Sto)} {I : Sto → Prop} {env : EnvD} {x : D} : ∀ {ds : List D} {S : Sto} {acc : List D},
    (∀ d ∈ ds, ∀ S, I S → ∃ env1 S2, bd d env = some env1 ∧ el env1 S = some (x, S2) ∧ I S2) → I S → acc.length + ds.length ≤ 1000 →
    ∃ S', compLoop (fun _ => true) bd (fun _ S => some (true, S)) el env ds S acc = some (acc ++ List.replicate ds.length x, S') ∧ I S'
  | [], S, acc, _, h, _ => ⟨S, by simp [compLoop], h⟩
  | d :: ds, S, acc, st, h, hl => by
    obtain ⟨env1, S2, e1, e2, h2⟩ := st d List.mem_cons_self S h
    have hl2 : (acc ++ [x]).length + ds.length ≤ 1000 := by
      rw [List.length_append, List.length_singleton]
      rw [List.length_cons] at hl
      omega
    obtain ⟨S', e3, h3⟩ := compLoop_inv (ds := ds) (acc := acc ++ [x]) (fun d hd => st d (List.mem_cons_of_mem _ hd)) h2 hl2
    refine ⟨S', ?_, h3⟩
    have hz : acc.length < sizeLine := by
      rw [sizeLine_eq]
      omega
    simp only [compLoop, if_true, e1, e2, if_pos hz, e3, List.length_cons, List.replicate_succ, List.append_assoc, List.singleton_append]
theorem bls_true : ∀ n : Nat, bls (List.replicate n (.bl true)) = some (List.replicate n true)
  | 0 => rfl
  | n + 1 => by simp [List.replicate_succ, bls, toBl, bls_true n]
theorem shw_ok {d : D} {p : PyData} (hp : py d = some p) (h1 : p.showable = true) (h2 : p.leavesShort 13 = true) (h3 : p.weight ≤ 2 ^ 20) (h4 : p.depth ≤ 60) : shw (py d) = some (.str p.shown) := by
  have h5 := PyData.shown_fits (B := 13) (by decide) (by decide) h2 h3
  rw [hp]
  simp only [shw, h1, h4, h5, and_self, if_true]
theorem int_log {i : Int} (h1 : -999999999999 ≤ i) (h2 : i ≤ 999999999999) : i.natAbs.log2 < 64 := by
  by_cases h : i.natAbs = 0
  · rw [h]
    decide
  · exact (Nat.log2_lt h).mpr (show i.natAbs < 2 ^ 64 by omega)
theorem int_showable {i : Int} (h1 : -999999999999 ≤ i) (h2 : i ≤ 999999999999) : decide (i.natAbs.log2 < 1920) = true := by
  have := int_log h1 h2
  exact decide_eq_true (by omega)
theorem repr2 {a b : Int} (ha : -999999999999 ≤ a) (ha' : a ≤ 999999999999) (hb : -999999999999 ≤ b) (hb' : b ≤ 999999999999) : ∃ s, shw (py (.lst [.int a, .int b])) = some (.str s) := by
  have h1 := PyData.shown_int_le2 ha ha'
  have h2 := PyData.shown_int_le2 hb hb'
  refine ⟨_, shw_ok (p := .list [.int a, .int b]) rfl ?_ ?_ ?_ ?_⟩
  · simp only [PyData.showable, PyData.showableAll, int_showable ha ha', int_showable hb hb', Bool.and_true]
  · simp [PyData.leavesShort, PyData.leavesShortAll, h1, h2]
  · have l1 := int_log ha ha'
    have l2 := int_log hb hb'
    simp only [PyData.weight, PyData.weightAll]
    split <;> split <;> omega
  · simp [PyData.depth, PyData.depthAll]
end Ev

namespace Ev
open PySem PySem.Spec PyProof.Rows L2
variable {S : Sto}
/-- a call by its body -/
theorem call_of {df : Str → Option Df} {gl : Str → Option D} {w k : Nat} {f : Str} {d : Df} (h : df f = some d) {as : List D} {r : D} {S' : Sto} (hl : as.length = d.ps.length)
    (hb : (∃ env, exs ⟨callN df gl w k, gl⟩ w d.body (startD d as) S = some (.rt r, env, S')) ∨ (r = .non ∧ ∃ env, exs ⟨callN df gl w k, gl⟩ w d.body (startD d as) S = some (.nx, env, S'))) : callN df gl w (k + 1) f as S = some (r, S') := by
  rw [call_eq h hl]
  rcases hb with ⟨env, e⟩ | ⟨rfl, env, e⟩ <;> rw [e]
/-! expressions by parts -/
section
variable {G : Gb} {env : EnvD} {S1 S2 : Sto} {x y : E} {a b d : D} {t u : Bool}
theorem eV {i : Nat} (h : env[i]? = some (some d)) : ev G (.var i) env S = some (d, S) := by simp only [ev, h]
theorem eC : ev G (.cst d) env S = some (d, S) := by simp only [ev]
theorem eB {op : Operator} (hx : ev G x env S = some (a, S1)) (hy : ev G y env S1 = some (b, S2)) (h : binS S2 op a b = some d) : ev G (.bin op x y) env S = some (d, S2) := by simp only [ev, hx, hy, h]
theorem eQ {op : CmpOp} (hx : ev G x env S = some (a, S1)) (hy : ev G y env S1 = some (b, S2)) (h : cop S2 op a b = some t) : ev G (.cmp op x y) env S = some (.bl t, S2) := by simp only [ev, hx, hy, h]
theorem eA (hx : ev G x env S = some (.bl t, S1)) (hy : t = true → ev G y env S1 = some (.bl u, S1)) : ev G (.and' x y) env S = some (.bl (t && u), S1) := by
  cases t with
  | false => simp only [ev, hx, truth, Bool.false_and]
  | true => simp only [ev, hx, truth, Bool.true_and, hy rfl]
theorem eO (hx : ev G x env S = some (.bl t, S1)) (hy : t = false → ev G y env S1 = some (.bl u, S1)) : ev G (.or' x y) env S = some (.bl (t || u), S1) := by
  cases t with
  | true => simp only [ev, hx, truth, Bool.true_or]
  | false => simp only [ev, hx, truth, Bool.false_or, hy rfl]
theorem eN (hx : ev G x env S = some (.bl t, S1)) : ev G (.not' x) env S = some (.bl (!t), S1) := by simp only [ev, hx, truth]
theorem eI {z w : E} (hx : ev G x env S = some (.bl t, S1)) (h1 : t = true → ev G z env S1 = some (d, S2)) (h2 : t = false → ev G w env S1 = some (d, S2)) : ev G (.ife x z w) env S = some (d, S2) := by
  cases t with
  | true => simp only [ev, hx, truth, h1 rfl]
  | false => simp only [ev, hx, truth, h2 rfl]
theorem es0 : evs G [] env S = some ([], S) := by simp only [evs]
theorem es1 {xs : List E} {ds : List D} (hx : ev G x env S = some (a, S1)) (hs : evs G xs env S1 = some (ds, S2)) : evs G (x :: xs) env S = some (a :: ds, S2) := by simp only [evs, hx, hs]
theorem eCall {f : Str} {xs : List E} {ds : List D} {r : D × Sto} (hs : evs G xs env S = some (ds, S1)) (h : G.cl f ds S1 = some r) : ev G (.call f xs) env S = some r := by simp only [ev, hs, h]
theorem eBlt {f : Bf} {xs : List E} {ds : List D} (hs : evs G xs env S = some (ds, S1)) (h : bfun S1 f ds = some d) : ev G (.blt f xs) env S = some (d, S1) := by simp only [ev, hs, h]
theorem eTup {xs : List E} {ds : List D} (hs : evs G xs env S = some (ds, S1)) (h : ds.length ≤ 1000) : ev G (.tup xs) env S = some (.tup ds, S1) := by
  simp only [ev, hs]
  rw [if_pos (show ds.length ≤ sizeLine by rw [sizeLine_eq]; omega)]
theorem eLst {xs : List E} {ds : List D} (hs : evs G xs env S = some (ds, S1)) (h : ds.length ≤ 1000) : ev G (.lst xs) env S = some (.lst ds, S1) := by
  simp only [ev, hs]
  rw [if_pos (show ds.length ≤ sizeLine by rw [sizeLine_eq]; omega)]
theorem eNew {xs : List E} {ds : List D} (hs : evs G xs env S = some (ds, S1)) (h : ds.length ≤ 1000) : ev G (.newl xs) env S = some (.ref S1.length, S1 ++ [.lst ds]) := by
  simp only [ev, hs]
  rw [if_pos (show ds.length ≤ sizeLine by rw [sizeLine_eq]; omega)]
theorem eIx (hx : ev G x env S = some (a, S1)) (hy : ev G y env S1 = some (b, S2)) (h : ixf S2 a b = some d) : ev G (.idx x y) env S = some (d, S2) := by simp only [ev, hx, hy, h]
theorem cN {w : Nat} {e : E} (h : ev G e env S = some (.bl t, S1)) : Ev.cond G e env S = some (t, S1) := by simp only [Ev.cond, h, truth]
/-! statements by parts -/
variable {w i : Nat} {e : E} {ss p q : List T} {env1 : EnvD} {r : Option (Fl × EnvD × Sto)}
theorem xAsg (h : ev G e env S = some (d, S1)) (hs : exs G w ss (env.set i (some d)) S1 = r) : exs G w (.asg (.name i) e :: ss) env S = r := by simp only [exs, ex, h, asgT, hs]
theorem xRet (h : ev G e env S = some (d, S1)) : exs G w (.ret e :: ss) env S = some (.rt d, env, S1) := by simp only [exs, ex, h]
theorem xIfT (h : ev G e env S = some (.bl true, S1)) (h2 : exs G w p env S1 = some (.rt d, env1, S2)) : exs G w (.ife e p q :: ss) env S = some (.rt d, env1, S2) := by simp only [exs, ex, Ev.cond, h, truth, h2]
theorem xIfN (h : ev G e env S = some (.bl t, S1)) (h2 : exs G w (if t then p else q) env S1 = some (.nx, env1, S2)) (hs : exs G w ss env1 S2 = r) : exs G w (.ife e p q :: ss) env S = r := by
  cases t with
  | true => simp only [exs, ex, Ev.cond, h, truth, show exs G w p env S1 = some (.nx, env1, S2) from h2, hs]
  | false => simp only [exs, ex, Ev.cond, h, truth, show exs G w q env S1 = some (.nx, env1, S2) from h2, hs]
theorem xIfF (h : ev G e env S = some (.bl false, S1)) (hs : exs G w ss env S1 = r) : exs G w (.ife e p [] :: ss) env S = r := by simp only [exs, ex, Ev.cond, h, truth, hs]
theorem xNil : exs G w [] env S = some (.nx, env, S) := by simp only [exs]
theorem xExpr (h : ev G e env S = some (d, S1)) (hs : exs G w ss env S1 = r) : exs G w (.expr e :: ss) env S = r := by simp only [exs, ex, h, hs]
theorem xFor {tg : List Nat} {one : Bool} {kd : Nat} {its : List E} {body : List T} {as ds : List D} {gd : Sto → Bool} (h : evs G its env S = some (as, S1)) (h2 : itemsOf S1 kd as = some (ds, gd)) (h3 : forLoop gd (bindT tg one) (exs G w body) ds env S1 = some (.nx, env1, S2)) (hs : exs G w ss env1 S2 = r) :
    exs G w (.for' tg one kd its body :: ss) env S = r := by simp only [exs, ex, h, h2, h3, hs]
theorem xForR {tg : List Nat} {one : Bool} {kd : Nat} {its : List E} {body : List T} {as ds : List D} {gd : Sto → Bool} (h : evs G its env S = some (as, S1)) (h2 : itemsOf S1 kd as = some (ds, gd)) (h3 : forLoop gd (bindT tg one) (exs G w body) ds env S1 = some (.rt d, env1, S2)) :
    exs G w (.for' tg one kd its body :: ss) env S = some (.rt d, env1, S2) := by simp only [exs, ex, h, h2, h3]
theorem xTup {ts : List Tg} {l : List D} (h : ev G e env S = some (.tup l, S1)) (h2 : asgTs G ts l env S1 = some (env1, S2)) (hs : exs G w ss env1 S2 = r) : exs G w (.tup ts e :: ss) env S = r := by simp only [exs, ex, h, h2, hs]
theorem xPar {is : List Nat} {es : List E} {ds : List D} (h : evs G es env S = some (ds, S1)) (h2 : setAll is ds env = some env1) (hs : exs G w ss env1 S1 = r) : exs G w (.par is es :: ss) env S = r := by simp only [exs, ex, h, h2, hs]
theorem xWhile {c : E} {body : List T} (h : whileLoop (Ev.cond G c) (exs G w body) w env S = some (.nx, env1, S1)) (hs : exs G w ss env1 S1 = r) : exs G w (.while' c body :: ss) env S = r := by simp only [exs, ex, h, hs]
theorem xApp {o : E} {n : Nat} {l : List D} (ho : ev G o env S = some (.ref n, S1)) (hL : isL S1 n = true) (he : ev G e env S1 = some (d, S2)) (hl : S2[n]? = some (.lst l)) (hz : l.length ≤ 1000) (hs : exs G w ss env (S2.set n (.lst (l ++ [d]))) = r) : exs G w (.append o e :: ss) env S = r := by
  have h : l.length < sizeLine := by rw [sizeLine_eq]; omega
  simp only [exs, ex, ho, hL, if_true, he, hl, if_pos h, hs]
end
/-! loops over numbers, looked through -/
def dn (n : Nat) : D := .int (n : Int)
def nums (j : Nat) : Nat → List D
  | 0 => []
  | n + 1 => dn j :: nums (j + 1) n
def flP : Option D → Fl
  | some d => .rt d
  | none => .nx
def flF (P : Nat → Option D) : Nat → Nat → Fl
  | 0, _ => .nx
  | n + 1, j => match P j with
    | some d => .rt d
    | none => flF P n (j + 1)
theorem forLoop_find {bd : D → EnvD → Option EnvD} {body : EnvD → Sto → Option (Fl × EnvD × Sto)} {I : EnvD → Prop} {P : Nat → Option D} {hi : Nat}
    (step : ∀ j, j < hi → ∀ env, I env → ∃ env1 env2, bd (dn j) env = some env1 ∧ body env1 S = some (flP (P j), env2, S) ∧ I env2) :
    ∀ (n j : Nat) (env : EnvD), j + n ≤ hi → I env → ∃ env', forLoop (fun _ => true) bd body (nums j n) env S = some (flF P n j, env', S) ∧ (flF P n j = .nx → I env')
  | 0, j, env, h, h2 => ⟨env, by simp only [nums, forLoop, if_true, flF], fun _ => h2⟩
  | n + 1, j, env, h, h2 => by
    obtain ⟨env1, env2, e1, e2, h3⟩ := step j (by omega) env h2
    cases q : P j with
    | some d =>
      rw [q] at e2
      exact ⟨env2, by simp only [nums, forLoop, if_true, e1, e2, flP, flF, q], fun _ => h3⟩
    | none =>
      rw [q] at e2
      obtain ⟨env', e3, h4⟩ := forLoop_find step n (j + 1) env2 (by omega) h3
      refine ⟨env', ?_, ?_⟩
      · simp only [nums, forLoop, if_true, e1, e2, flP, flF, q]
        exact e3
      · simp only [flF, q]
        exact h4
theorem forLoop_fold {bd : D → EnvD → Option EnvD} {body : EnvD → Sto → Option (Fl × EnvD × Sto)} {I : Nat → EnvD → Sto → Prop} {hi : Nat}
    (step : ∀ j, j < hi → ∀ env S, I j env S → ∃ env1 env2 S2, bd (dn j) env = some env1 ∧ body env1 S = some (.nx, env2, S2) ∧ I (j + 1) env2 S2) :
    ∀ (n j : Nat) (env : EnvD) (S : Sto), j + n ≤ hi → I j env S → ∃ env' S', forLoop (fun _ => true) bd body (nums j n) env S = some (.nx, env', S') ∧ I (j + n) env' S'
  | 0, j, env, S, h, h2 => ⟨env, S, by simp only [nums, forLoop, if_true], h2⟩
  | n + 1, j, env, S, h, h2 => by
    obtain ⟨env1, env2, S2, e1, e2, h3⟩ := step j (by omega) env S h2
    obtain ⟨env', S', e3, h4⟩ := forLoop_fold step n (j + 1) env2 S2 (by omega) h3
    refine ⟨env', S', ?_, ?_⟩
    · simp only [nums, forLoop, if_true, e1, e2]
      exact e3
    · rw [show j + (n + 1) = j + 1 + n by omega]
      exact h4
theorem rangeD_nums (n : Nat) : rangeD 0 (n : Int) = nums 0 n := by
  have key : ∀ n j : Nat, (List.range' j n).map (fun i : Nat => D.int (0 + (i : Int))) = nums j n := by
    intro n
    induction n with
    | zero => intro j; rfl
    | succ n ih =>
      intro j
      rw [List.range'_succ, List.map_cons, ih]
      show _ = dn j :: _
      rw [Int.zero_add]
      rfl
  unfold rangeD
  rw [Int.sub_zero, Int.toNat_natCast, List.range_eq_range', key]
theorem mn_eq {ns : List Int} {m : Int} (h : m ∈ ns) (h2 : ∀ y ∈ ns, m ≤ y) : mnI ns = some m := by
  cases q : mnI ns with
  | none =>
    cases ns with
    | nil => cases h
    | cons => cases q
  | some r =>
    obtain ⟨_, h3, h4⟩ := mnI_ok q
    rw [Int.le_antisymm (h4 m h) (h2 r h3)]
theorem mx_eq {ns : List Int} {m : Int} (h : m ∈ ns) (h2 : ∀ y ∈ ns, y ≤ m) : mxI ns = some m := by
  cases q : mxI ns with
  | none =>
    cases ns with
    | nil => cases h
    | cons => cases q
  | some r =>
    obtain ⟨_, h3, h4⟩ := mxI_ok q
    rw [Int.le_antisymm (h2 r h3) (h4 m h)]
theorem toInts_map : ∀ l : List Int, toInts (l.map D.int) = some l
  | [] => rfl
  | i :: l => by simp [toInts, toInt, toInts_map l]
end Ev

/-! words that fit a mask: the least one from a word on (pure mathematics of numbers) -/
namespace Fit
/-- bits behind a raised bit k: those of b below, of s above -/
def cand (s b k : Nat) : Nat := 2 ^ k * (2 * (s / 2 ^ (k + 1)) + 1) + b % 2 ^ k
theorem bit_div (x i : Nat) : x.testBit i = decide (x / 2 ^ i % 2 = 1) := by
  rw [Nat.testBit_eq_decide_div_mod_eq]
theorem cand_bit (s b k i : Nat) : (cand s b k).testBit i = if i < k then b.testBit i else if i = k then true else s.testBit i := by
  unfold cand
  rw [Nat.testBit_two_pow_mul_add _ (Nat.mod_lt _ (Nat.two_pow_pos k))]
  split
  · rename_i h
    rw [Nat.testBit_mod_two_pow]
    simp [h]
  · rename_i h
    split
    · rename_i h2
      subst h2
      rw [Nat.sub_self, Nat.testBit_zero]
      simp
    · rename_i h2
      obtain ⟨j, rfl⟩ : ∃ j, i = k + 1 + j := ⟨i - (k + 1), by omega⟩
      have e : k + 1 + j - k = j + 1 := by omega
      rw [e, Nat.testBit_succ]
      have e2 : (2 * (s / 2 ^ (k + 1)) + 1) / 2 = s / 2 ^ (k + 1) := by omega
      rw [e2, Nat.testBit_div_two_pow]
      rw [Nat.add_comm]
theorem cand_div (s b k : Nat) : cand s b k / 2 ^ k = 2 * (s / 2 ^ (k + 1)) + 1 := by
  unfold cand
  rw [Nat.mul_add_div (Nat.two_pow_pos k), Nat.div_eq_of_lt (Nat.mod_lt _ (Nat.two_pow_pos k)), Nat.add_zero]
theorem div_succ (s k : Nat) : s / 2 ^ (k + 1) = s / 2 ^ k / 2 := by
  rw [Nat.div_div_eq_div_mul, Nat.pow_succ]
theorem lt_of_div {a b n : Nat} (h : a / 2 ^ n < b / 2 ^ n) : a < b := by
  apply Nat.lt_of_not_le
  intro h2
  exact absurd (Nat.div_le_div_right (c := 2 ^ n) h2) (by omega)
/-- raised above s where s has a 0 -/
theorem cand_gt {s b k : Nat} (h : s.testBit k = false) : s < cand s b k := by
  apply lt_of_div (n := k)
  rw [cand_div, div_succ]
  rw [bit_div] at h
  have : s / 2 ^ k % 2 ≠ 1 := of_decide_eq_false h
  omega
theorem cand_lt {s b k : Nat} (hs : s < 65536) (hb : b < 65536) (hk : k < 16) : cand s b k < 65536 := by
  have e : cand s b k < 2 ^ 16 := by
    apply Nat.lt_pow_two_of_testBit
    intro i hi
    rw [cand_bit, if_neg (by omega), if_neg (by omega)]
    have h2 : 2 ^ 16 ≤ 2 ^ i := Nat.pow_le_pow_right (show 2 > 0 by decide) hi
    exact Nat.testBit_lt_two_pow (Nat.lt_of_lt_of_le hs h2)
  exact e
/-- lower places give lesser words -/
theorem cand_mono {s b c k l : Nat} (h : k < l) (hl : s.testBit l = false) : cand s b k < cand s c l := by
  apply lt_of_div (n := l)
  rw [cand_div]
  have e : cand s b k / 2 ^ l = s / 2 ^ l := by
    obtain ⟨j, rfl⟩ : ∃ j, l = k + 1 + j := ⟨l - (k + 1), by omega⟩
    have e1 : cand s b k / 2 ^ (k + 1) = s / 2 ^ (k + 1) := by
      rw [div_succ, cand_div]
      omega
    rw [Nat.pow_add, ← Nat.div_div_eq_div_mul, ← Nat.div_div_eq_div_mul, e1]
  rw [e]
  rw [bit_div] at hl
  have : s / 2 ^ l % 2 ≠ 1 := of_decide_eq_false hl
  have := div_succ s l
  omega
/-- the highest place where two words part -/
theorem part : ∀ (n : Nat) {s x : Nat}, s / 2 ^ n = x / 2 ^ n → s < x → ∃ k, k < n ∧ s / 2 ^ (k + 1) = x / 2 ^ (k + 1) ∧ s / 2 ^ k < x / 2 ^ k
  | 0, s, x, h, h2 => by simp at h; omega
  | n + 1, s, x, h, h2 => by
    by_cases e : s / 2 ^ n = x / 2 ^ n
    · obtain ⟨k, h3, h4⟩ := part n e h2
      exact ⟨k, by omega, h4⟩
    · have := Nat.div_le_div_right (c := 2 ^ n) (Nat.le_of_lt h2)
      exact ⟨n, by omega, h, by omega⟩
theorem bit_of_div {s x k i : Nat} (h : s / 2 ^ k = x / 2 ^ k) (hi : k ≤ i) : s.testBit i = x.testBit i := by
  obtain ⟨j, rfl⟩ : ∃ j, i = k + j := ⟨i - k, by omega⟩
  have e1 : (s / 2 ^ k).testBit j = s.testBit (k + j) := by rw [Nat.testBit_div_two_pow, Nat.add_comm]
  have e2 : (x / 2 ^ k).testBit j = x.testBit (k + j) := by rw [Nat.testBit_div_two_pow, Nat.add_comm]
  rw [← e1, ← e2, h]
/-- x fits m, b -/
abbrev Fits (m b x : Nat) : Prop := x &&& m = b
theorem fits_bit {m b x : Nat} (h : Fits m b x) (i : Nat) : (x.testBit i && m.testBit i) = b.testBit i := by
  rw [← Nat.testBit_and, h]
theorem sub_of_fits {m b x : Nat} (h : Fits m b x) : b &&& m = b := by
  rw [← h, Nat.and_assoc, Nat.and_self]
theorem le_of_bits {r x : Nat} (h : ∀ i, r.testBit i = true → x.testBit i = true) : r ≤ x := by
  have e : r &&& x = r := by
    apply Nat.eq_of_testBit_eq
    intro i
    rw [Nat.testBit_and]
    cases q : r.testBit i with
    | false => rfl
    | true => rw [h i q]; rfl
  rw [← e]
  exact Nat.and_le_right
/-- the word that is looked for at a place fits -/
def Q (s m b k : Nat) : Prop := s.testBit k = false ∧ Fits m b (cand s b k)
instance (s m b k : Nat) : Decidable (Q s m b k) := by unfold Q; infer_instance
/-- a greater word that fits has a place -/
theorem Q_of {s m b x : Nat} (hx : x < 65536) (hsx : s < x) (h : Fits m b x) : ∃ k, k < 16 ∧ Q s m b k ∧ cand s b k ≤ x := by
  obtain ⟨k, hk, h1, h2⟩ := part 16 (s := s) (x := x) (by rw [Nat.div_eq_of_lt (by omega), Nat.div_eq_of_lt (by omega)]) hsx
  have hb := fits_bit h
  have d1 := div_succ s k
  have d2 := div_succ x k
  have s0 : s.testBit k = false := by
    rw [bit_div]
    exact decide_eq_false (by omega)
  have x1 : x.testBit k = true := by
    rw [bit_div]
    exact decide_eq_true (by omega)
  have cx : ∀ i, k ≤ i → (cand s b k).testBit i = x.testBit i := by
    intro i hi
    rw [cand_bit, if_neg (by omega)]
    split
    · rename_i e
      rw [e, x1]
    · exact bit_of_div h1 (by omega)
  refine ⟨k, hk, ⟨s0, ?_⟩, ?_⟩
  · apply Nat.eq_of_testBit_eq
    intro i
    rw [Nat.testBit_and]
    by_cases hi : k ≤ i
    · rw [cx i hi, hb]
    · rw [cand_bit, if_pos (by omega), ← hb i]
      cases x.testBit i <;> cases m.testBit i <;> rfl
  · apply le_of_bits
    intro i q
    by_cases hi : k ≤ i
    · rw [cx i hi] at q
      exact q
    · rw [cand_bit, if_pos (by omega), ← hb i] at q
      simp only [Bool.and_eq_true] at q
      exact q.1
/-- the first place -/
def firstQ (s m b : Nat) : Nat → Nat → Option Nat
  | 0, _ => none
  | n + 1, k => if Q s m b k then some (cand s b k) else firstQ s m b n (k + 1)
def least (s m b : Nat) : Option Nat := if Fits m b s then some s else firstQ s m b 16 0
theorem firstQ_some {s m b : Nat} : ∀ {n k r : Nat}, firstQ s m b n k = some r → ∃ j, k ≤ j ∧ j < k + n ∧ Q s m b j ∧ r = cand s b j ∧ ∀ i, k ≤ i → i < j → ¬ Q s m b i
  | 0, k, r, h => by cases h
  | n + 1, k, r, h => by
    unfold firstQ at h
    split at h
    · rename_i q
      cases h
      exact ⟨k, by omega, by omega, q, rfl, fun i h1 h2 => by omega⟩
    · rename_i q
      obtain ⟨j, h1, h2, h3, h4, h5⟩ := firstQ_some h
      refine ⟨j, by omega, by omega, h3, h4, fun i h6 h7 => ?_⟩
      by_cases e : i = k
      · rw [e]
        exact q
      · exact h5 i (by omega) h7
theorem firstQ_none {s m b : Nat} : ∀ {n k : Nat}, firstQ s m b n k = none → ∀ i, k ≤ i → i < k + n → ¬ Q s m b i
  | 0, k, h, i, h1, h2 => by omega
  | n + 1, k, h, i, h1, h2 => by
    unfold firstQ at h
    split at h
    · cases h
    · rename_i q
      by_cases e : i = k
      · rw [e]
        exact q
      · exact firstQ_none h i (by omega) (by omega)
theorem least_some {s m b r : Nat} (hs : s < 65536) (hb : b < 65536) (h : least s m b = some r) : s ≤ r ∧ r < 65536 ∧ Fits m b r ∧ ∀ x, s ≤ x → x < 65536 → Fits m b x → r ≤ x := by
  unfold least at h
  split at h
  · rename_i q
    cases h
    exact ⟨Nat.le_refl _, hs, q, fun x h1 _ _ => h1⟩
  · rename_i q
    obtain ⟨j, _, h2, h3, rfl, h5⟩ := firstQ_some h
    refine ⟨Nat.le_of_lt (cand_gt h3.1), cand_lt hs hb (by omega), h3.2, fun x h6 h7 h8 => ?_⟩
    have hne : s ≠ x := fun e => q (e ▸ h8)
    obtain ⟨k, k1, k2, k3⟩ := Q_of (s := s) h7 (by omega) h8
    by_cases e : k = j
    · rw [← e]
      exact k3
    · have hjk : j < k := by
        apply Nat.lt_of_not_le
        intro hle
        exact h5 k (by omega) (by omega) k2
      have := cand_mono (b := b) (c := b) hjk k2.1
      omega
theorem least_none {s m b : Nat} (h : least s m b = none) (x : Nat) (h1 : s ≤ x) (h2 : x < 65536) : ¬ Fits m b x := by
  unfold least at h
  split at h
  · cases h
  · rename_i q
    intro hf
    have hne : s ≠ x := fun e => q (e ▸ hf)
    obtain ⟨k, k1, k2, _⟩ := Q_of (s := s) h2 (by omega) hf
    exact firstQ_none h k (by omega) (by omega) k2
/-- a word by what it is -/
theorem least_eq {s m b r : Nat} (hs : s < 65536) (hb : b < 65536) (h1 : s ≤ r) (h2 : r < 65536) (h3 : Fits m b r) (h4 : ∀ x, s ≤ x → x < 65536 → Fits m b x → r ≤ x) : least s m b = some r := by
  cases e : least s m b with
  | none => exact absurd h3 (least_none e r h1 h2)
  | some r2 =>
    obtain ⟨g1, g2, g3, g4⟩ := least_some hs hb e
    have := g4 r h1 h2 h3
    have := h4 r2 g1 g2 g3
    rw [show r2 = r by omega]
/-! ### the program's own test and word -/
theorem Q_iff {s m b k : Nat} (hm : b &&& m = b) : Q s m b k ↔ s.testBit k = false ∧ ((s / 2 ^ (k + 1) * 2 ^ (k + 1)) ||| 2 ^ k) &&& (m / 2 ^ k * 2 ^ k) = b &&& (m / 2 ^ k * 2 ^ k) := by
  have rb : ∀ i, ((s / 2 ^ (k + 1) * 2 ^ (k + 1)) ||| 2 ^ k).testBit i = if i < k then false else if i = k then true else s.testBit i := by
    intro i
    rw [Nat.testBit_or, Nat.testBit_two_pow, Nat.mul_comm, Nat.testBit_two_pow_mul, Nat.testBit_div_two_pow]
    by_cases h1 : i < k
    · rw [if_pos h1]
      have e1 : decide (i ≥ k + 1) = false := decide_eq_false (by omega)
      have e2 : decide (k = i) = false := decide_eq_false (by omega)
      rw [e1, e2]
      rfl
    · rw [if_neg h1]
      by_cases h2 : i = k
      · subst h2
        simp
      · have e1 : decide (i ≥ k + 1) = true := decide_eq_true (by omega)
        have e2 : decide (k = i) = false := decide_eq_false (by omega)
        have e3 : i - (k + 1) + (k + 1) = i := by omega
        rw [e1, e2, if_neg h2, e3]
        simp
  have fb : ∀ i, (m / 2 ^ k * 2 ^ k).testBit i = (decide (k ≤ i) && m.testBit i) := by
    intro i
    rw [Nat.mul_comm, Nat.testBit_two_pow_mul, Nat.testBit_div_two_pow]
    by_cases h1 : k ≤ i
    · have e3 : i - k + k = i := by omega
      rw [e3]
    · have e1 : decide (i ≥ k) = false := decide_eq_false (by omega)
      have e2 : decide (k ≤ i) = false := decide_eq_false (by omega)
      rw [e1]
      rfl
  have mb : ∀ i, (b.testBit i && m.testBit i) = b.testBit i := fun i => by rw [← Nat.testBit_and, hm]
  unfold Q
  constructor
  · rintro ⟨h1, h2⟩
    refine ⟨h1, Nat.eq_of_testBit_eq fun i => ?_⟩
    have h3 := fits_bit h2 i
    rw [cand_bit] at h3
    rw [Nat.testBit_and, Nat.testBit_and, rb, fb]
    by_cases h4 : i < k
    · have e2 : decide (k ≤ i) = false := decide_eq_false (by omega)
      rw [e2]
      simp
    · have e2 : decide (k ≤ i) = true := decide_eq_true (by omega)
      rw [if_neg h4] at h3
      rw [e2, if_neg h4, Bool.true_and, h3, mb]
  · rintro ⟨h1, h2⟩
    refine ⟨h1, Nat.eq_of_testBit_eq fun i => ?_⟩
    rw [Nat.testBit_and, cand_bit]
    by_cases h4 : i < k
    · rw [if_pos h4, mb]
    · have e2 : decide (k ≤ i) = true := decide_eq_true (by omega)
      have h3 : (((s / 2 ^ (k + 1) * 2 ^ (k + 1)) ||| 2 ^ k) &&& (m / 2 ^ k * 2 ^ k)).testBit i = (b &&& (m / 2 ^ k * 2 ^ k)).testBit i := by rw [h2]
      rw [Nat.testBit_and, Nat.testBit_and, rb, fb, e2, if_neg h4, Bool.true_and, mb] at h3
      rw [if_neg h4]
      exact h3
theorem cand_or {s m b k : Nat} (hm : b &&& m = b) (h : Q s m b k) : (s / 2 ^ (k + 1) * 2 ^ (k + 1)) ||| 2 ^ k ||| b = cand s b k := by
  have mb : ∀ i, (b.testBit i && m.testBit i) = b.testBit i := fun i => by rw [← Nat.testBit_and, hm]
  apply Nat.eq_of_testBit_eq
  intro i
  rw [Nat.testBit_or, Nat.testBit_or, Nat.testBit_two_pow, Nat.mul_comm, Nat.testBit_two_pow_mul, Nat.testBit_div_two_pow, cand_bit]
  have h3 := fits_bit h.2 i
  rw [cand_bit] at h3
  by_cases h1 : i < k
  · have e1 : decide (i ≥ k + 1) = false := decide_eq_false (by omega)
    have e2 : decide (k = i) = false := decide_eq_false (by omega)
    rw [e1, e2, if_pos h1]
    simp
  · rw [if_neg h1] at h3
    rw [if_neg h1]
    by_cases h2 : i = k
    · subst h2
      simp
    · have e1 : decide (i ≥ k + 1) = true := decide_eq_true (by omega)
      have e2 : decide (k = i) = false := decide_eq_false (by omega)
      have e3 : i - (k + 1) + (k + 1) = i := by omega
      rw [if_neg h2] at h3
      rw [e1, e2, if_neg h2, e3]
      have := mb i
      revert h3 this
      cases s.testBit i <;> cases b.testBit i <;> cases m.testBit i <;> simp
/-! ### the mirror: the greatest one up to a word -/
theorem comp_bit {x i : Nat} (h : x < 65536) (hi : i < 16) : (65535 - x).testBit i = !x.testBit i := by
  have e : 65535 - x = 2 ^ 16 - (x + 1) := by omega
  rw [e, Nat.testBit_two_pow_sub_succ (by omega)]
  simp [hi]
/-- the bits that a mirrored word has at the mask -/
def mir (m b : Nat) : Nat := m &&& (65535 - b)
theorem mir_bit {m b i : Nat} (hm : m < 65536) (hb : b < 65536) : (mir m b).testBit i = (m.testBit i && !b.testBit i) := by
  unfold mir
  rw [Nat.testBit_and]
  by_cases hi : i < 16
  · rw [comp_bit hb hi]
  · have h2 : 2 ^ 16 ≤ 2 ^ i := Nat.pow_le_pow_right (show 2 > 0 by decide) (by omega)
    have e : m.testBit i = false := Nat.testBit_lt_two_pow (Nat.lt_of_lt_of_le hm h2)
    rw [e]
    rfl
theorem mir_lt {m b : Nat} (hm : m < 65536) : mir m b < 65536 := Nat.lt_of_le_of_lt Nat.and_le_left hm
theorem fits_mir {m b x : Nat} (hm : m < 65536) (hb : b < 65536) (hx : x < 65536) (hs : b &&& m = b) : Fits m (mir m b) (65535 - x) ↔ Fits m b x := by
  have mb : ∀ i, (b.testBit i && m.testBit i) = b.testBit i := fun i => by rw [← Nat.testBit_and, hs]
  constructor
  · intro h
    apply Nat.eq_of_testBit_eq
    intro i
    have h1 := fits_bit h i
    rw [mir_bit hm hb] at h1
    rw [Nat.testBit_and]
    by_cases hi : i < 16
    · rw [comp_bit hx hi] at h1
      have := mb i
      revert h1 this
      cases x.testBit i <;> cases b.testBit i <;> cases m.testBit i <;> simp
    · have h2 : 2 ^ 16 ≤ 2 ^ i := Nat.pow_le_pow_right (show 2 > 0 by decide) (by omega)
      rw [Nat.testBit_lt_two_pow (Nat.lt_of_lt_of_le hx h2), Nat.testBit_lt_two_pow (Nat.lt_of_lt_of_le hb h2)]
      rfl
  · intro h
    apply Nat.eq_of_testBit_eq
    intro i
    have h1 := fits_bit h i
    rw [mir_bit hm hb, Nat.testBit_and]
    by_cases hi : i < 16
    · rw [comp_bit hx hi]
      have := mb i
      revert h1 this
      cases x.testBit i <;> cases b.testBit i <;> cases m.testBit i <;> simp
    · have h2 : 2 ^ 16 ≤ 2 ^ i := Nat.pow_le_pow_right (show 2 > 0 by decide) (by omega)
      rw [Nat.testBit_lt_two_pow (Nat.lt_of_lt_of_le hm h2), Bool.and_false]
      rfl
def greatest (h m b : Nat) : Option Nat := (least (65535 - h) m (mir m b)).map fun r => 65535 - r
theorem greatest_some {h m b r : Nat} (hh : h < 65536) (hm : m < 65536) (hb : b < 65536) (hs : b &&& m = b) (e : greatest h m b = some r) : r ≤ h ∧ Fits m b r ∧ ∀ x, x ≤ h → Fits m b x → x ≤ r := by
  unfold greatest at e
  obtain ⟨q, e1, rfl⟩ := Option.map_eq_some_iff.mp e
  obtain ⟨g1, g2, g3, g4⟩ := least_some (by omega) (mir_lt hm) e1
  have e2 : 65535 - (65535 - q) = q := by omega
  refine ⟨by omega, ?_, fun x hx hf => ?_⟩
  · rw [← fits_mir hm hb (by omega) hs, e2]
    exact g3
  · have := g4 (65535 - x) (by omega) (by omega) ((fits_mir hm hb (by omega) hs).mpr hf)
    omega
theorem greatest_eq {h m b r : Nat} (hh : h < 65536) (hm : m < 65536) (hb : b < 65536) (hs : b &&& m = b) (h1 : r ≤ h) (h2 : Fits m b r) (h3 : ∀ x, x ≤ h → Fits m b x → x ≤ r) : greatest h m b = some r := by
  unfold greatest
  rw [least_eq (r := 65535 - r) (by omega) (mir_lt hm) (by omega) (by omega) ((fits_mir hm hb (by omega) hs).mpr h2) fun x g1 g2 g3 => ?_]
  · have e2 : 65535 - (65535 - r) = r := by omega
    rw [Option.map_some, e2]
  · have e2 : 65535 - (65535 - x) = x := by omega
    have := h3 (65535 - x) (by omega) ((fits_mir hm hb (by omega) hs).mp (by rw [e2]; exact g3))
    omega
/-! ### all places, as a list -/
def fs (s m b : Nat) : Nat → Nat → List Nat
  | 0, _ => []
  | n + 1, k => if Q s m b k then cand s b k :: fs s m b n (k + 1) else fs s m b n (k + 1)
theorem fs_mem {s m b : Nat} : ∀ {n k y : Nat}, y ∈ fs s m b n k → ∃ j, k ≤ j ∧ Q s m b j ∧ y = cand s b j
  | 0, k, y, h => by cases h
  | n + 1, k, y, h => by
    unfold fs at h
    split at h
    · rename_i q
      rcases List.mem_cons.mp h with rfl | h
      · exact ⟨k, Nat.le_refl _, q, rfl⟩
      · obtain ⟨j, h1, h2⟩ := fs_mem h
        exact ⟨j, by omega, h2⟩
    · obtain ⟨j, h1, h2⟩ := fs_mem h
      exact ⟨j, by omega, h2⟩
theorem fs_first {s m b : Nat} : ∀ {n k : Nat}, (firstQ s m b n k = none ∧ fs s m b n k = []) ∨ ∃ r, firstQ s m b n k = some r ∧ r ∈ fs s m b n k ∧ ∀ y ∈ fs s m b n k, r ≤ y
  | 0, k => .inl ⟨rfl, rfl⟩
  | n + 1, k => by
    unfold firstQ fs
    by_cases q : Q s m b k
    · rw [if_pos q, if_pos q]
      refine .inr ⟨_, rfl, List.mem_cons_self, fun y hy => ?_⟩
      rcases List.mem_cons.mp hy with rfl | hy
      · exact Nat.le_refl _
      · obtain ⟨j, h1, h2, rfl⟩ := fs_mem hy
        exact Nat.le_of_lt (cand_mono (by omega) h2.1)
    · rw [if_neg q, if_neg q]
      exact fs_first
/-- the word that is looked for at a place, from above -/
def gw (h m b k : Nat) : Nat := 2 ^ (k + 1) * (h / 2 ^ (k + 1)) + (b ||| (65535 - m)) % 2 ^ k
theorem gw_bit (h m b k i : Nat) : (gw h m b k).testBit i = if i < k then (b ||| (65535 - m)).testBit i else if i = k then false else h.testBit i := by
  unfold gw
  rw [Nat.testBit_two_pow_mul_add _ (Nat.lt_of_lt_of_le (Nat.mod_lt _ (Nat.two_pow_pos k)) (Nat.pow_le_pow_right (show 2 > 0 by decide) (Nat.le_succ k)))]
  by_cases h1 : i < k
  · rw [if_pos (by omega), if_pos h1, Nat.testBit_mod_two_pow, decide_eq_true h1, Bool.true_and]
  · rw [if_neg h1]
    by_cases h2 : i = k
    · subst h2
      rw [if_pos (by omega), if_pos rfl, Nat.testBit_mod_two_pow, decide_eq_false (by omega), Bool.false_and]
    · rw [if_neg (by omega), if_neg h2, Nat.testBit_div_two_pow]
      have e : i - (k + 1) + (k + 1) = i := by omega
      rw [e]
theorem big_bit {x i : Nat} (h : x < 65536) (hi : 16 ≤ i) : x.testBit i = false := by
  have h2 : 2 ^ 16 ≤ 2 ^ i := Nat.pow_le_pow_right (show 2 > 0 by decide) hi
  exact Nat.testBit_lt_two_pow (Nat.lt_of_lt_of_le h h2)
theorem lt_of_bits {x : Nat} (h : ∀ i, 16 ≤ i → x.testBit i = false) : x < 65536 := by
  have e : x < 2 ^ 16 := Nat.lt_pow_two_of_testBit _ fun i hi => h i hi
  exact e
theorem gw_lt {h m b k : Nat} (hh : h < 65536) (hb : b < 65536) (hk : k < 16) : gw h m b k < 65536 := by
  apply lt_of_bits
  intro i hi
  rw [gw_bit, if_neg (by omega), if_neg (by omega), big_bit hh hi]
theorem gw_cand {h m b k : Nat} (hh : h < 65536) (hm : m < 65536) (hb : b < 65536) (hk : k < 16) : cand (65535 - h) (mir m b) k = 65535 - gw h m b k := by
  have g := gw_lt (m := m) hh hb hk
  apply Nat.eq_of_testBit_eq
  intro i
  by_cases hi : i < 16
  · rw [comp_bit g hi, gw_bit, cand_bit, mir_bit hm hb, Nat.testBit_or, comp_bit hm hi, comp_bit hh hi]
    by_cases h1 : i < k
    · rw [if_pos h1, if_pos h1]
      cases b.testBit i <;> cases m.testBit i <;> rfl
    · rw [if_neg h1, if_neg h1]
      by_cases h2 : i = k
      · rw [if_pos h2, if_pos h2]
        rfl
      · rw [if_neg h2, if_neg h2]
  · rw [big_bit (cand_lt (by omega) (mir_lt hm) hk) (by omega), big_bit (by omega) (by omega)]
theorem gw_Q {h m b k : Nat} (hh : h < 65536) (hm : m < 65536) (hb : b < 65536) (hk : k < 16) (hs : b &&& m = b) : Q (65535 - h) m (mir m b) k ↔ h.testBit k = true ∧ Fits m b (gw h m b k) := by
  unfold Q
  rw [gw_cand hh hm hb hk, fits_mir hm hb (gw_lt hh hb hk) hs, comp_bit hh hk]
  cases h.testBit k <;> simp
/-! ### high bits that two words share -/
theorem xor_div (a b n : Nat) : (a ^^^ b) / 2 ^ n = 0 ↔ a / 2 ^ n = b / 2 ^ n := by
  have e : (a ^^^ b) / 2 ^ n = a / 2 ^ n ^^^ b / 2 ^ n := by
    have := Nat.shiftRight_xor_distrib (a := a) (b := b) (i := n)
    simpa [Nat.shiftRight_eq_div_pow] using this
  rw [e]
  constructor
  · intro h
    apply Nat.eq_of_testBit_eq
    intro i
    have h1 : (a / 2 ^ n ^^^ b / 2 ^ n).testBit i = (0 : Nat).testBit i := by rw [h]
    rw [Nat.testBit_xor, Nat.zero_testBit] at h1
    revert h1
    cases (a / 2 ^ n).testBit i <;> cases (b / 2 ^ n).testBit i <;> simp
  · intro h
    rw [h, Nat.xor_self]
/-- the mask of the bits from n on -/
def top (n : Nat) : Nat := 65535 / 2 ^ n * 2 ^ n
theorem top_bit {n i : Nat} : (top n).testBit i = (decide (n ≤ i) && decide (i < 16)) := by
  unfold top
  rw [Nat.mul_comm, Nat.testBit_two_pow_mul, Nat.testBit_div_two_pow]
  by_cases h : n ≤ i
  · have e : i - n + n = i := by omega
    have e2 : (65535 : Nat) = 2 ^ 16 - 1 := by decide
    rw [e, e2, Nat.testBit_two_pow_sub_one]
  · have e : decide (i ≥ n) = false := decide_eq_false (by omega)
    rw [e]
    rfl
theorem top_lt (n : Nat) : top n < 65536 := by
  have := Nat.div_mul_le_self 65535 (2 ^ n)
  unfold top
  omega
theorem top_sub {n : Nat} (h : n ≤ 16) : top n = 65536 - 2 ^ n := by
  obtain ⟨k, rfl⟩ : ∃ k : Fin 17, k.val = n := ⟨⟨n, by omega⟩, rfl⟩
  have key : ∀ k : Fin 17, top k.val = 65536 - 2 ^ k.val := by decide +kernel
  exact key k
/-- a word between two that share bits shares them -/
theorem between {a b x n : Nat} (h : a / 2 ^ n = b / 2 ^ n) (h1 : a ≤ x) (h2 : x ≤ b) : x / 2 ^ n = a / 2 ^ n := by
  have := Nat.div_le_div_right (c := 2 ^ n) h1
  have := Nat.div_le_div_right (c := 2 ^ n) h2
  omega
theorem and_top {a x n : Nat} (h : x / 2 ^ n = a / 2 ^ n) : x &&& top n = a &&& top n := by
  apply Nat.eq_of_testBit_eq
  intro i
  rw [Nat.testBit_and, Nat.testBit_and, top_bit]
  by_cases hi : n ≤ i
  · rw [bit_of_div h hi]
  · rw [decide_eq_false hi]
    simp
/-- the told bits behind: the same words between -/
theorem more_fits {m b a x n : Nat} (hs : b &&& m = b) (hx : x / 2 ^ n = a / 2 ^ n) (ha : Fits m b a) : Fits (m ||| top n) (b ||| (a &&& top n)) x ↔ Fits m b x := by
  have ht := and_top hx
  have tb : ∀ i, (x.testBit i && (top n).testBit i) = (a.testBit i && (top n).testBit i) := fun i => by rw [← Nat.testBit_and, ht, Nat.testBit_and]
  have ab := fits_bit ha
  constructor
  · intro h
    apply Nat.eq_of_testBit_eq
    intro i
    have h1 := fits_bit h i
    have h2 := tb i
    have h3 := ab i
    rw [Nat.testBit_or, Nat.testBit_or, Nat.testBit_and] at h1
    rw [Nat.testBit_and]
    revert h1 h2 h3
    cases x.testBit i <;> cases m.testBit i <;> cases b.testBit i <;> cases a.testBit i <;> cases (top n).testBit i <;> simp
  · intro h
    have xb := fits_bit h
    apply Nat.eq_of_testBit_eq
    intro i
    have h1 := xb i
    have h2 := tb i
    rw [Nat.testBit_and, Nat.testBit_or, Nat.testBit_or, Nat.testBit_and]
    revert h1 h2
    cases x.testBit i <;> cases m.testBit i <;> cases b.testBit i <;> cases a.testBit i <;> cases (top n).testBit i <;> simp
/-! how many bits; made tight -/
def bl (x : Nat) : Nat := if x = 0 then 0 else x.log2 + 1
theorem bl_le {x n : Nat} : bl x ≤ n ↔ x / 2 ^ n = 0 := by
  rw [Nat.div_eq_zero_iff_lt (Nat.two_pow_pos n)]
  unfold bl
  split
  · rename_i h
    subst h
    exact ⟨fun _ => Nat.two_pow_pos n, fun _ => Nat.zero_le _⟩
  · rename_i h
    rw [← Nat.log2_lt h]
    omega
theorem bl_16 {x : Nat} (h : x < 65536) : bl x ≤ 16 := bl_le.mpr (Nat.div_eq_of_lt h)
def tightN (lo hi m b : Nat) : Option (Nat × Nat × Nat × Nat) := match least lo m b, greatest hi m b with
  | some l, some h => if h < l then none else some (l, h, m ||| top (bl (l ^^^ h)), b ||| (l &&& top (bl (l ^^^ h))))
  | _, _ => none
theorem or_add : ∀ (n a b : Nat), a < 2 ^ n → b < 2 ^ n → (a ||| b) + (a &&& b) = a + b
  | 0, a, b, h1, h2 => by
    have e1 : a = 0 := by simpa using h1
    have e2 : b = 0 := by simpa using h2
    subst e1 e2
    rfl
  | n + 1, a, b, h1, h2 => by
    have ih := or_add n (a / 2) (b / 2) (by rw [Nat.pow_succ] at h1; omega) (by rw [Nat.pow_succ] at h2; omega)
    have e1 := Nat.or_div_two (a := a) (b := b)
    have e2 := Nat.and_div_two (a := a) (b := b)
    have e3 := Nat.or_mod_two_eq_one (a := a) (b := b)
    have e4 := Nat.and_mod_two_eq_one (a := a) (b := b)
    rw [← e1, ← e2] at ih
    omega
theorem and_sub {m b : Nat} (hm : m < 65536) (hb : b < 65536) : mir m b + (m &&& b) = m := by
  have h1 : mir m b ||| (m &&& b) = m := by
    apply Nat.eq_of_testBit_eq
    intro i
    rw [Nat.testBit_or, mir_bit hm hb, Nat.testBit_and]
    cases m.testBit i <;> cases b.testBit i <;> rfl
  have h2 : mir m b &&& (m &&& b) = 0 := by
    apply Nat.eq_of_testBit_eq
    intro i
    rw [Nat.testBit_and, mir_bit hm hb, Nat.testBit_and, Nat.zero_testBit]
    cases m.testBit i <;> cases b.testBit i <;> rfl
  have h3 := or_add 16 (mir m b) (m &&& b) (mir_lt hm) (Nat.lt_of_le_of_lt Nat.and_le_left hm)
  omega
theorem fs_snoc {s m b : Nat} : ∀ {n k : Nat}, fs s m b (n + 1) k = fs s m b n k ++ (if Q s m b (k + n) then [cand s b (k + n)] else [])
  | 0, k => by
    unfold fs fs
    simp
  | n + 1, k => by
    have ih := fs_snoc (s := s) (m := m) (b := b) (n := n) (k := k + 1)
    have e : k + 1 + n = k + (n + 1) := by omega
    rw [e] at ih
    rw [fs]
    rw [show fs s m b (n + 1) k = if Q s m b k then cand s b k :: fs s m b n (k + 1) else fs s m b n (k + 1) from rfl, ih]
    by_cases q : Q s m b k
    · rw [if_pos q, if_pos q, List.cons_append]
    · rw [if_neg q, if_neg q]
theorem cand_sum (s b k : Nat) : s / 2 ^ (k + 1) * 2 ^ (k + 1) + 2 ^ k + (b &&& (2 ^ k - 1)) = cand s b k := by
  unfold cand
  rw [Nat.and_two_pow_sub_one_eq_mod, Nat.mul_add, Nat.mul_one, ← Nat.mul_assoc, ← Nat.pow_succ, Nat.mul_comm (2 ^ (k + 1))]
theorem gw_sum (h m b k : Nat) : h / 2 ^ (k + 1) * 2 ^ (k + 1) + ((b ||| (65535 - m)) &&& (2 ^ k - 1)) = gw h m b k := by
  unfold gw
  rw [Nat.and_two_pow_sub_one_eq_mod, Nat.mul_comm]
theorem fs_len {s m b : Nat} : ∀ {n k : Nat}, (fs s m b n k).length ≤ n
  | 0, k => Nat.le_refl _
  | n + 1, k => by
    unfold fs
    have ih := fs_len (s := s) (m := m) (b := b) (n := n) (k := k + 1)
    split
    · rw [List.length_cons]
      omega
    · omega
/-- the least of all that are found -/
theorem all_least {s m b l : Nat} (h : least s m b = some l) : l ∈ (if Fits m b s then [s] else []) ++ fs s m b 16 0 ∧ ∀ y ∈ (if Fits m b s then [s] else []) ++ fs s m b 16 0, l ≤ y := by
  unfold least at h
  by_cases q : Fits m b s
  · rw [if_pos q] at h ⊢
    cases h
    refine ⟨by simp, fun y hy => ?_⟩
    rcases List.mem_append.mp hy with hy | hy
    · have : y = s := by simpa using hy
      omega
    · obtain ⟨j, _, h2, rfl⟩ := fs_mem hy
      exact Nat.le_of_lt (cand_gt h2.1)
  · rw [if_neg q] at h ⊢
    rcases fs_first (s := s) (m := m) (b := b) (n := 16) (k := 0) with ⟨h1, _⟩ | ⟨r, h1, h2, h3⟩
    · rw [h1] at h
      cases h
    · rw [h1] at h
      cases h
      rw [List.nil_append]
      exact ⟨h2, h3⟩
end Fit

namespace K12
open PySem PySem.Spec PyProof.Rows L2 Ev
def top (i : Nat) : Stmt := PySem.Challenge.pw_suresieves_k12_whole_tight_the_same_word.main.body.getD i (.Pass ⟨0, 0, 0, 0⟩)
def d_is_whole : DI := ⟨"is_whole", defArgs (top 1), defBody (top 1), defScope (top 1), ["value"], ["value"], false⟩
def d_is_between : DI := ⟨"is_between", defArgs (top 2), defBody (top 2), defScope (top 2), ["value", "least", "most"], ["value", "least", "most"], false⟩
def d_is_word : DI := ⟨"is_word", defArgs (top 3), defBody (top 3), defScope (top 3), ["value"], ["value"], false⟩
def d_is_tuple : DI := ⟨"is_tuple", defArgs (top 4), defBody (top 4), defScope (top 4), ["value", "least", "most"], ["value", "least", "most"], false⟩
def d_are_all : DI := ⟨"are_all", defArgs (top 5), defBody (top 5), defScope (top 5), ["value", "least", "most", "is_good"], ["value", "least", "most", "is_good"], false⟩
def d_first_bad : DI := ⟨"first_bad", defArgs (top 6), defBody (top 6), defScope (top 6), ["values", "is_good"], ["values", "is_good", "index", "value"], false⟩
def d_least_fitting : DI := ⟨"least_fitting", defArgs (top 11), defBody (top 11), defScope (top 11), ["start", "mask", "bits"], ["start", "mask", "bits", "k", "above", "raised", "fixed"], false⟩
def d_greatest_fitting : DI := ⟨"greatest_fitting", defArgs (top 12), defBody (top 12), defScope (top 12), ["end", "mask", "bits"], ["end", "mask", "bits", "mirrored"], false⟩
def d_agreed_bits : DI := ⟨"agreed_bits", defArgs (top 13), defBody (top 13), defScope (top 13), ["low", "high"], ["low", "high", "apart"], false⟩
def d_tightened : DI := ⟨"tightened", defArgs (top 14), defBody (top 14), defScope (top 14), ["value"], ["value", "low", "high", "mask", "bits", "agreed"], false⟩
def d_is_none_or : DI := ⟨"is_none_or", defArgs (top 16), defBody (top 16), defScope (top 16), ["value", "most"], ["value", "most"], false⟩
def d_is_known : DI := ⟨"is_known", defArgs (top 17), defBody (top 17), defScope (top 17), ["value"], ["value", "low", "high", "mask", "bits", "minus", "left", "handle"], false⟩
def d_need_known : DI := ⟨"need_known", defArgs (top 18), defBody (top 18), defScope (top 18), ["value"], ["value"], false⟩
def d_tight : DI := ⟨"tight", defArgs (top 19), defBody (top 19), defScope (top 19), ["known"], ["known"], false⟩
def d__law_well : DI := ⟨"_law_well", defArgs (top 21), defBody (top 21), defScope (top 21), ["script", "turn", "start"], ["script", "turn", "start", "own", "mixed", "cell"], true⟩
def d__law_draw : DI := ⟨"_law_draw", defArgs (top 22), defBody (top 22), defScope (top 22), ["well", "size"], ["well", "size", "digit", "seed"], false⟩
def d__law_pick : DI := ⟨"_law_pick", defArgs (top 23), defBody (top 23), defScope (top 23), ["well", "some"], ["well", "some"], false⟩
def d__law_any : DI := ⟨"_law_any", defArgs (top 24), defBody (top 24), defScope (top 24), [], [], false⟩
def d__law_least : DI := ⟨"_law_least", defArgs (top 25), defBody (top 25), defScope (top 25), ["low", "mask", "bits"], ["low", "mask", "bits", "found", "place", "word"], true⟩
def d__law_greatest : DI := ⟨"_law_greatest", defArgs (top 26), defBody (top 26), defScope (top 26), ["high", "mask", "bits"], ["high", "mask", "bits", "found", "place", "word"], true⟩
def d__law_tightened : DI := ⟨"_law_tightened", defArgs (top 27), defBody (top 27), defScope (top 27), ["value"], ["value", "low", "high", "mask", "bits", "wide", "far", "top"], false⟩
def d__law_put : DI := ⟨"_law_put", defArgs (top 28), defBody (top 28), defScope (top 28), ["row", "at", "value"], ["row", "at", "value"], false⟩
def d__law_begun : DI := ⟨"_law_begun", defArgs (top 29), defBody (top 29), defScope (top 29), ["packet", "tables", "clock", "writable"], ["packet", "tables", "clock", "writable"], false⟩
def d__law_words : DI := ⟨"_law_words", defArgs (top 30), defBody (top 30), defScope (top 30), ["well", "many", "far"], ["well", "many", "far", "found", "turn", "near", "some"], true⟩
def d__law_bytes : DI := ⟨"_law_bytes", defArgs (top 31), defBody (top 31), defScope (top 31), ["well", "many"], ["well", "many", "found", "turn"], true⟩
def d__law_cells : DI := ⟨"_law_cells", defArgs (top 32), defBody (top 32), defScope (top 32), ["well", "kind"], ["well", "kind", "found", "ahead", "turn"], true⟩
def d__law_kinds : DI := ⟨"_law_kinds", defArgs (top 33), defBody (top 33), defScope (top 33), ["well"], ["well", "found", "turn", "sort", "most"], true⟩
def d__law_grant : DI := ⟨"_law_grant", defArgs (top 34), defBody (top 34), defScope (top 34), ["well"], ["well", "least", "most"], false⟩
def d__law_fitting : DI := ⟨"_law_fitting", defArgs (top 35), defBody (top 35), defScope (top 35), ["well", "grant"], ["well", "grant", "more", "packet", "rows", "kind"], true⟩
def d__law_midway : DI := ⟨"_law_midway", defArgs (top 36), defBody (top 36), defScope (top 36), ["well", "grant", "place"], ["well", "grant", "place", "run", "counters", "turn", "far"], true⟩
def d__law_handles : DI := ⟨"_law_handles", defArgs (top 37), defBody (top 37), defScope (top 37), ["word", "run"], ["word", "run", "some", "at", "each"], false⟩
def d__law_about : DI := ⟨"_law_about", defArgs (top 38), defBody (top 38), defScope (top 38), ["well", "word", "run"], ["well", "word", "run", "far", "low", "high", "mask", "minus", "room", "value"], false⟩
def d__law_right : DI := ⟨"_law_right", defArgs (top 39), defBody (top 39), defScope (top 39), ["well"], ["well", "run", "word", "mask", "value", "some", "each", "first", "last", "wide", "top", "due"], false⟩
def d_law : DI := ⟨"law", defArgs (top 40), defBody (top 40), defScope (top 40), ["script"], ["script", "turn"], false⟩
def cs : List (Str × D) := []
def pg : Pg := ⟨[d_is_whole, d_is_between, d_is_word, d_is_tuple, d_are_all, d_first_bad, d_least_fitting, d_greatest_fitting, d_agreed_bits, d_tightened, d_is_none_or, d_is_known, d_need_known, d_tight, d__law_well, d__law_draw, d__law_pick, d__law_any, d__law_least, d__law_greatest, d__law_tightened, d__law_put, d__law_begun, d__law_words, d__law_bytes, d__law_cells, d__law_kinds, d__law_grant, d__law_fitting, d__law_midway, d__law_handles, d__law_about, d__law_right, d_law], [], [("tight", ["known"], [0])], 60⟩
abbrev R : PySem.W.OpenRow := PySem.W.OpenLaw.row PySem.Challenge.rw_suresieves_k12_whole_tight_the_same_word
abbrev hk : PySem.W.Hook := He.hookX 4 (pg.fas frees) pg.fnD [] [] (cstsB cs)
def ob (s : PySem.W.SharedT) : He.AlX := He.obsX 4 (pg.fas frees) pg.fnD [] [] (cstsB cs) (HandSHeadRun.getT s)
theorem ob_eq (s : PySem.W.SharedT) : ob s = hk.obs s.abs := He.obsX_eq (HandSHeadRun.getT_eq s)
def loose : List Str := (["is_whole", "is_between", "is_word", "is_tuple", "are_all", "first_bad", "least_fitting", "greatest_fitting", "agreed_bits", "tightened", "is_none_or", "is_known", "need_known", "tight", "_law_well", "_law_draw", "_law_pick", "_law_any", "_law_least", "_law_greatest", "_law_tightened", "_law_put", "_law_begun", "_law_words", "_law_bytes", "_law_cells", "_law_kinds", "_law_grant", "_law_fitting", "_law_midway"] : List Str) ++ (["_law_handles", "_law_about", "_law_right", "SieveError", "InvalidKnown"] : List Str)
theorem run (w : World) : HandSHeadRun.RunEq R (PySem.W.view R.prog [40]) hk ob 3000 loose w := by
  intro os
  kernel_rfl
theorem scs : (pg.ds.all scB) = true := by decide +kernel
theorem b_is_whole : BndOK d_is_whole := fun _ _ _ _ _ _ us hl => match us, hl with | [_], _ => rfl
theorem b_is_between : BndOK d_is_between := fun _ _ _ _ _ _ us hl => match us, hl with | [_, _, _], _ => rfl
theorem b_is_word : BndOK d_is_word := fun _ _ _ _ _ _ us hl => match us, hl with | [_], _ => rfl
theorem b_is_tuple : BndOK d_is_tuple := fun _ _ _ _ _ _ us hl => match us, hl with | [_, _, _], _ => rfl
theorem b_are_all : BndOK d_are_all := fun _ _ _ _ _ _ us hl => match us, hl with | [_, _, _, _], _ => rfl
theorem b_first_bad : BndOK d_first_bad := fun _ _ _ _ _ _ us hl => match us, hl with | [_, _], _ => rfl
theorem b_least_fitting : BndOK d_least_fitting := fun _ _ _ _ _ _ us hl => match us, hl with | [_, _, _], _ => rfl
theorem b_greatest_fitting : BndOK d_greatest_fitting := fun _ _ _ _ _ _ us hl => match us, hl with | [_, _, _], _ => rfl
theorem b_agreed_bits : BndOK d_agreed_bits := fun _ _ _ _ _ _ us hl => match us, hl with | [_, _], _ => rfl
theorem b_tightened : BndOK d_tightened := fun _ _ _ _ _ _ us hl => match us, hl with | [_], _ => rfl
theorem b_is_none_or : BndOK d_is_none_or := fun _ _ _ _ _ _ us hl => match us, hl with | [_, _], _ => rfl
theorem b_is_known : BndOK d_is_known := fun _ _ _ _ _ _ us hl => match us, hl with | [_], _ => rfl
theorem b_need_known : BndOK d_need_known := fun _ _ _ _ _ _ us hl => match us, hl with | [_], _ => rfl
theorem b_tight : BndOK d_tight := fun _ _ _ _ _ _ us hl => match us, hl with | [_], _ => rfl
theorem b__law_well : BndOK d__law_well := fun _ _ _ _ _ _ us hl => match us, hl with | [_, _, _], _ => rfl
theorem b__law_draw : BndOK d__law_draw := fun _ _ _ _ _ _ us hl => match us, hl with | [_, _], _ => rfl
theorem b__law_pick : BndOK d__law_pick := fun _ _ _ _ _ _ us hl => match us, hl with | [_, _], _ => rfl
theorem b__law_any : BndOK d__law_any := fun _ _ _ _ _ _ us hl => match us, hl with | [], _ => rfl
theorem b__law_least : BndOK d__law_least := fun _ _ _ _ _ _ us hl => match us, hl with | [_, _, _], _ => rfl
theorem b__law_greatest : BndOK d__law_greatest := fun _ _ _ _ _ _ us hl => match us, hl with | [_, _, _], _ => rfl
theorem b__law_tightened : BndOK d__law_tightened := fun _ _ _ _ _ _ us hl => match us, hl with | [_], _ => rfl
theorem b__law_put : BndOK d__law_put := fun _ _ _ _ _ _ us hl => match us, hl with | [_, _, _], _ => rfl
theorem b__law_begun : BndOK d__law_begun := fun _ _ _ _ _ _ us hl => match us, hl with | [_, _, _, _], _ => rfl
theorem b__law_words : BndOK d__law_words := fun _ _ _ _ _ _ us hl => match us, hl with | [_, _, _], _ => rfl
theorem b__law_bytes : BndOK d__law_bytes := fun _ _ _ _ _ _ us hl => match us, hl with | [_, _], _ => rfl
theorem b__law_cells : BndOK d__law_cells := fun _ _ _ _ _ _ us hl => match us, hl with | [_, _], _ => rfl
theorem b__law_kinds : BndOK d__law_kinds := fun _ _ _ _ _ _ us hl => match us, hl with | [_], _ => rfl
theorem b__law_grant : BndOK d__law_grant := fun _ _ _ _ _ _ us hl => match us, hl with | [_], _ => rfl
theorem b__law_fitting : BndOK d__law_fitting := fun _ _ _ _ _ _ us hl => match us, hl with | [_, _], _ => rfl
theorem b__law_midway : BndOK d__law_midway := fun _ _ _ _ _ _ us hl => match us, hl with | [_, _, _], _ => rfl
theorem b__law_handles : BndOK d__law_handles := fun _ _ _ _ _ _ us hl => match us, hl with | [_, _], _ => rfl
theorem b__law_about : BndOK d__law_about := fun _ _ _ _ _ _ us hl => match us, hl with | [_, _, _], _ => rfl
theorem b__law_right : BndOK d__law_right := fun _ _ _ _ _ _ us hl => match us, hl with | [_], _ => rfl
theorem b_law : BndOK d_law := fun _ _ _ _ _ _ us hl => match us, hl with | [_], _ => rfl
theorem bnd : ∀ d ∈ pg.ds, BndOK d := by
  intro d hd
  simp only [pg, List.mem_cons, List.not_mem_nil, or_false] at hd
  rcases hd with rfl | rfl | rfl | rfl | rfl | rfl | rfl | rfl | rfl | rfl | rfl | rfl | rfl | rfl | rfl | rfl | rfl | rfl | rfl | rfl | rfl | rfl | rfl | rfl | rfl | rfl | rfl | rfl | rfl | rfl | rfl | rfl | rfl | rfl
  · exact b_is_whole
  · exact b_is_between
  · exact b_is_word
  · exact b_is_tuple
  · exact b_are_all
  · exact b_first_bad
  · exact b_least_fitting
  · exact b_greatest_fitting
  · exact b_agreed_bits
  · exact b_tightened
  · exact b_is_none_or
  · exact b_is_known
  · exact b_need_known
  · exact b_tight
  · exact b__law_well
  · exact b__law_draw
  · exact b__law_pick
  · exact b__law_any
  · exact b__law_least
  · exact b__law_greatest
  · exact b__law_tightened
  · exact b__law_put
  · exact b__law_begun
  · exact b__law_words
  · exact b__law_bytes
  · exact b__law_cells
  · exact b__law_kinds
  · exact b__law_grant
  · exact b__law_fitting
  · exact b__law_midway
  · exact b__law_handles
  · exact b__law_about
  · exact b__law_right
  · exact b_law
theorem w_0 : KwdOK d_tight ["known"] [0] := fun _ _ _ _ _ _ ws us hl hp => match ws, hl, hp with | [_], _, hp => by cases hp; rfl
theorem kwd : ∀ d ∈ pg.ds, ∀ ks ix, (d.name, ks, ix) ∈ pg.kws → KwdOK d ks ix := by
  intro d hd ks ix hk
  simp only [pg, List.mem_cons, List.not_mem_nil, or_false] at hd hk
  rcases hd with rfl | rfl | rfl | rfl | rfl | rfl | rfl | rfl | rfl | rfl | rfl | rfl | rfl | rfl | rfl | rfl | rfl | rfl | rfl | rfl | rfl | rfl | rfl | rfl | rfl | rfl | rfl | rfl | rfl | rfl | rfl | rfl | rfl | rfl <;> rcases hk with hk <;> first
    | (cases hk; done)
    | (cases hk; exact w_0)
theorem glo : ∀ g d, lookD g cs = some d → g ∈ pg.glbs := by
  intro g d h
  have z := lookD_mem h
  have h2 : g ∈ cs.map (·.1) := List.mem_map_of_mem (f := fun q : Str × D => q.1) z
  exact h2
theorem tx : TxOK pg cs := ⟨scs, bnd, kwd, glo⟩
end K12

namespace K12
open PySem PySem.Spec PyProof.Rows L2 Ev
def t_is_whole : List T := [(.ret (.and' (.blt .isinstance [(.var 0), (.cst (.ty "int"))]) (.not' (.blt .isinstance [(.var 0), (.cst (.ty "bool"))]))))]
def t_is_between : List T := [(.ret (.and' (.call "is_whole" [(.var 0)]) (.chain .LtE .LtE (.var 1) (.var 0) (.var 2))))]
def t_is_word : List T := [(.ret (.call "is_between" [(.var 0), (.cst (.int 0)), (.cst (.int 65535))]))]
def t_is_tuple : List T := [(.ret (.and' (.blt .isinstance [(.var 0), (.cst (.ty "tuple"))]) (.chain .LtE .LtE (.var 1) (.blt .len [(.var 0)]) (.var 2))))]
def t_are_all : List T := [(.ret (.and' (.call "is_tuple" [(.var 0), (.var 1), (.var 2)]) (.cmp .Is (.call "first_bad" [(.var 0), (.var 3)]) (.cst .non))))]
def t_first_bad : List T := [(.for' [2, 3] false 2 [(.var 0)] [(.ife (.not' (.calll 1 [(.var 3)])) [(.ret (.var 2))] [])]), (.ret (.cst .non))]
def t_least_fitting : List T := [(.ife (.cmp .Eq (.bin .BitAnd (.var 0) (.var 1)) (.var 2)) [(.ret (.var 0))] []), (.for' [3] true 1 [(.cst (.int 16))] [(.asg (.name 4) (.bin .LShift (.bin .RShift (.var 0) (.bin .Add (.var 3) (.cst (.int 1)))) (.bin .Add (.var 3) (.cst (.int 1))))), (.asg (.name 5) (.bin .BitOr (.var 4) (.bin .LShift (.cst (.int 1)) (.var 3)))), (.asg (.name 6) (.bin .LShift (.bin .RShift (.var 1) (.var 3)) (.var 3))), (.ife (.and' (.cmp .Eq (.bin .BitAnd (.bin .RShift (.var 0) (.var 3)) (.cst (.int 1))) (.cst (.int 0))) (.cmp .Eq (.bin .BitAnd (.var 5) (.var 6)) (.bin .BitAnd (.var 2) (.var 6)))) [(.ret (.bin .BitOr (.var 5) (.var 2)))] [])]), (.ret (.cst .non))]
def t_greatest_fitting : List T := [(.asg (.name 3) (.call "least_fitting" [(.bin .Sub (.cst (.int 65535)) (.var 0)), (.var 1), (.bin .BitAnd (.var 1) (.inv (.var 2)))])), (.ret (.ife (.cmp .Is (.var 3) (.cst .non)) (.cst .non) (.bin .Sub (.cst (.int 65535)) (.var 3))))]
def t_agreed_bits : List T := [(.asg (.name 2) (.blen (.bin .BitXor (.var 0) (.var 1)))), (.ret (.bin .LShift (.bin .RShift (.cst (.int 65535)) (.var 2)) (.var 2)))]
def t_tightened : List T := [(.tup [(.name 1), (.name 2), (.name 3), (.name 4)] (.sl (.var 0) false true (.cst .non) (.cst (.int 4)))), (.par [1, 2] [(.call "least_fitting" [(.var 1), (.var 3), (.var 4)]), (.call "greatest_fitting" [(.var 2), (.var 3), (.var 4)])]), (.ife (.or' (.cmp .Is (.var 1) (.cst .non)) (.or' (.cmp .Is (.var 2) (.cst .non)) (.cmp .Gt (.var 1) (.var 2)))) [(.ret (.cst .non))] []), (.asg (.name 5) (.call "agreed_bits" [(.var 1), (.var 2)])), (.ret (.bin .Add (.tup [(.var 1), (.var 2), (.bin .BitOr (.var 3) (.var 5)), (.bin .BitOr (.var 4) (.bin .BitAnd (.var 1) (.var 5)))]) (.sl (.var 0) true false (.cst (.int 4)) (.cst .non))))]
def t_is_none_or : List T := [(.ret (.or' (.cmp .Is (.var 0) (.cst .non)) (.call "is_between" [(.var 0), (.cst (.int 0)), (.var 1)])))]
def t_is_known : List T := [(.ife (.or' (.not' (.call "is_tuple" [(.var 0), (.cst (.int 7)), (.cst (.int 7))])) (.not' (.call "are_all" [(.sl (.var 0) false true (.cst .non) (.cst (.int 4))), (.cst (.int 4)), (.cst (.int 4)), (.cst (.fn "is_word"))]))) [(.ret (.cst (.bl false)))] []), (.tup [(.name 1), (.name 2), (.name 3), (.name 4), (.name 5), (.name 6), (.name 7)] (.var 0)), (.ife (.or' (.cmp .Gt (.var 1) (.var 2)) (.cmp .NotEq (.bin .BitAnd (.var 4) (.inv (.var 3))) (.cst (.int 0)))) [(.ret (.cst (.bl false)))] []), (.ife (.not' (.and' (.call "is_none_or" [(.var 5), (.cst (.int 256))]) (.and' (.call "is_none_or" [(.var 6), (.cst (.int 256))]) (.call "is_none_or" [(.var 7), (.cst (.int 5))])))) [(.ret (.cst (.bl false)))] []), (.ret (.cmp .IsNot (.call "tightened" [(.var 0)]) (.cst .non)))]
def t_need_known : List T := [(.ife (.not' (.call "is_known" [(.var 0)])) [.stop] [])]
def t_tight : List T := [(.expr (.call "need_known" [(.var 0)])), (.ret (.call "tightened" [(.var 0)]))]
def t__law_well : List T := [(.asg (.name 3) (.ife (.cmp .Lt (.var 1) (.blt .len [(.var 0)])) (.blt .int [(.idx (.var 0) (.var 1))]) (.cst (.int 0)))), (.asg (.name 4) (.bin .Add (.var 2) (.bin .Mult (.cst (.int 7919)) (.var 1)))), (.for' [5] true 0 [(.sl (.var 0) false true (.cst .non) (.cst (.int 9)))] [(.asg (.name 4) (.bin .Mod (.blt .int [(.bin .Add (.bin .Add (.bin .Mult (.var 4) (.cst (.int 48271))) (.bin .Mod (.blt .int [(.var 5)]) (.cst (.int 2147483579)))) (.cst (.int 17)))]) (.cst (.int 2147483629))))]), (.asg (.name 4) (.bin .Mod (.blt .int [(.bin .Add (.bin .Add (.bin .Mult (.var 4) (.cst (.int 40014))) (.bin .Mult (.bin .Mod (.blt .int [(.var 3)]) (.cst (.int 2147483399))) (.cst (.int 16807)))) (.cst (.int 3)))]) (.cst (.int 2147483629)))), (.ret (.newl [(.ife (.cmp .GtE (.blt .abs [(.var 3)]) (.bin .Pow (.cst (.int 10)) (.cst (.int 15)))) (.blt .abs [(.var 3)]) (.cst (.int 0))), (.var 4), (.cst (.int 0))]))]
def t__law_draw : List T := [(.ife (.cmp .Gt (.idx (.var 0) (.cst (.int 0))) (.cst (.int 0))) [(.asg (.name 2) (.bin .Mod (.blt .int [(.idx (.var 0) (.cst (.int 0)))]) (.var 1))), (.asg (.sub (.var 0) (.cst (.int 0))) (.bin .FloorDiv (.idx (.var 0) (.cst (.int 0))) (.var 1))), (.ret (.var 2))] []), (.asg (.sub (.var 0) (.cst (.int 2))) (.bin .Add (.idx (.var 0) (.cst (.int 2))) (.cst (.int 1)))), (.asg (.name 3) (.bin .Mod (.blt .int [(.bin .Add (.bin .Add (.bin .Mult (.idx (.var 0) (.cst (.int 1))) (.cst (.int 16807))) (.bin .Mult (.cst (.int 60013)) (.idx (.var 0) (.cst (.int 2))))) (.cst (.int 11)))]) (.cst (.int 2147483629)))), (.asg (.sub (.var 0) (.cst (.int 1))) (.var 3)), (.ret (.bin .Mod (.blt .int [(.bin .FloorDiv (.bin .Mult (.var 3) (.bin .Add (.bin .Mod (.blt .int [(.var 3)]) (.cst (.int 50021))) (.cst (.int 20011)))) (.cst (.int 8191)))]) (.var 1)))]
def t__law_pick : List T := [(.ret (.idx (.var 1) (.call "_law_draw" [(.var 0), (.blt .len [(.var 1)])])))]
def t__law_any : List T := [(.ret (.tup [(.cst (.int 0)), (.cst (.int 65535)), (.cst (.int 0)), (.cst (.int 0)), (.cst .non), (.cst .non), (.cst .non)]))]
def t__law_least : List T := [(.asg (.name 3) (.ife (.cmp .Eq (.bin .BitAnd (.var 0) (.var 1)) (.var 2)) (.newl [(.var 0)]) (.newl []))), (.for' [4] true 1 [(.cst (.int 16))] [(.asg (.name 5) (.bin .Add (.bin .Add (.bin .LShift (.bin .RShift (.var 0) (.bin .Add (.var 4) (.cst (.int 1)))) (.bin .Add (.var 4) (.cst (.int 1)))) (.bin .LShift (.cst (.int 1)) (.var 4))) (.bin .BitAnd (.var 2) (.bin .Sub (.bin .LShift (.cst (.int 1)) (.var 4)) (.cst (.int 1)))))), (.ife (.and' (.cmp .Eq (.bin .BitAnd (.bin .RShift (.var 0) (.var 4)) (.cst (.int 1))) (.cst (.int 0))) (.cmp .Eq (.bin .BitAnd (.var 5) (.var 1)) (.var 2))) [(.append (.var 3) (.var 5))] [])]), (.ret (.blt .min [(.bin .Add (.var 3) (.lst [(.cst (.int 65536))]))]))]
def t__law_greatest : List T := [(.asg (.name 3) (.ife (.cmp .Eq (.bin .BitAnd (.var 0) (.var 1)) (.var 2)) (.newl [(.var 0)]) (.newl []))), (.for' [4] true 1 [(.cst (.int 16))] [(.asg (.name 5) (.bin .Add (.bin .LShift (.bin .RShift (.var 0) (.bin .Add (.var 4) (.cst (.int 1)))) (.bin .Add (.var 4) (.cst (.int 1)))) (.bin .BitAnd (.bin .BitOr (.var 2) (.bin .Sub (.cst (.int 65535)) (.var 1))) (.bin .Sub (.bin .LShift (.cst (.int 1)) (.var 4)) (.cst (.int 1)))))), (.ife (.and' (.cmp .Eq (.bin .BitAnd (.bin .RShift (.var 0) (.var 4)) (.cst (.int 1))) (.cst (.int 1))) (.cmp .Eq (.bin .BitAnd (.var 5) (.var 1)) (.var 2))) [(.append (.var 3) (.var 5))] [])]), (.ret (.blt .max [(.bin .Add (.var 3) (.lst [(.neg (.cst (.int 1)))]))]))]
def t__law_tightened : List T := [(.tup [(.name 1), (.name 2), (.name 3), (.name 4)] (.sl (.var 0) false true (.cst .non) (.cst (.int 4)))), (.ife (.or' (.cmp .Gt (.var 1) (.cst (.int 65535))) (.cmp .Lt (.var 2) (.cst (.int 0)))) [(.ret (.cst .non))] []), (.asg (.name 1) (.ife (.cmp .Eq (.bin .BitAnd (.var 1) (.var 3)) (.var 4)) (.var 1) (.call "_law_least" [(.var 1), (.var 3), (.var 4)]))), (.asg (.name 2) (.ife (.cmp .Eq (.bin .BitAnd (.var 2) (.var 3)) (.var 4)) (.var 2) (.call "_law_greatest" [(.var 2), (.var 3), (.var 4)]))), (.ife (.cmp .Gt (.var 1) (.var 2)) [(.ret (.cst .non))] []), (.par [5, 6] [(.cst (.int 0)), (.bin .BitXor (.var 1) (.var 2))]), (.while' (.cmp .Gt (.bin .RShift (.var 6) (.var 5)) (.cst (.int 0))) [(.asg (.name 5) (.bin .Add (.var 5) (.cst (.int 1))))]), (.asg (.name 7) (.bin .LShift (.bin .RShift (.cst (.int 65535)) (.var 5)) (.var 5))), (.ret (.bin .Add (.tup [(.var 1), (.var 2), (.bin .BitOr (.var 3) (.var 7)), (.bin .BitOr (.var 4) (.bin .BitAnd (.var 1) (.var 7)))]) (.sl (.var 0) true false (.cst (.int 4)) (.cst .non))))]
def t__law_put : List T := [(.ret (.bin .Add (.bin .Add (.sl (.var 0) false true (.cst .non) (.var 1)) (.tup [(.var 2)])) (.sl (.var 0) true false (.bin .Add (.var 1) (.cst (.int 1))) (.cst .non))))]
def t__law_begun : List T := [(.ret (.tup [(.bin .Mult (.tup [(.cst (.int 0))]) (.cst (.int 8))), (.bin .Mult (.tup [(.cst (.int 0))]) (.cst (.int 16))), (.bin .Mult (.tup [(.cst (.int 0))]) (.cst (.int 4))), (.cst (.int 0)), (.var 0), (.var 1), (.var 2), (.cst (.int 0)), (.cst .non), (.var 3)]))]
def t__law_words : List T := [(.asg (.name 3) (.newl [])), (.for' [4] true 1 [(.var 1)] [(.asg (.name 5) (.blt .max [(.cst (.int 0)), (.bin .Add (.bin .Sub (.var 2) (.cst (.int 2))) (.call "_law_draw" [(.var 0), (.cst (.int 4))]))])), (.asg (.name 6) (.newl [(.call "_law_draw" [(.var 0), (.cst (.int 7))]), (.var 5), (.call "_law_draw" [(.var 0), (.cst (.int 300))]), (.call "_law_draw" [(.var 0), (.cst (.int 65536))]), (.bin .Sub (.cst (.int 65535)) (.call "_law_draw" [(.var 0), (.cst (.int 3))]))])), (.append (.var 3) (.call "_law_pick" [(.var 0), (.bin .Add (.sl (.var 6) false true (.cst .non) (.cst (.int 3))) (.var 6))]))]), (.ret (.blt .tuple [(.var 3)]))]
def t__law_bytes : List T := [(.asg (.name 2) (.newl [])), (.for' [3] true 1 [(.var 1)] [(.append (.var 2) (.call "_law_pick" [(.var 0), (.lst [(.cst (.int 0)), (.cst (.int 1)), (.cst (.int 8)), (.cst (.int 255)), (.call "_law_draw" [(.var 0), (.cst (.int 256))])])]))]), (.ret (.blt .tuple [(.var 2)]))]
def t__law_cells : List T := [(.par [2, 3] [(.newl []), (.neg (.cst (.int 1)))]), (.ife (.cmp .Eq (.idx (.var 1) (.cst (.int 0))) (.cst (.str "array"))) [(.ret (.call "_law_words" [(.var 0), (.idx (.var 1) (.cst (.int 2))), (.cst (.int 9))]))] []), (.for' [4] true 1 [(.call "_law_draw" [(.var 0), (.bin .Add (.idx (.var 1) (.cst (.int 2))) (.cst (.int 1)))])] [(.asg (.name 3) (.bin .Add (.bin .Add (.var 3) (.cst (.int 1))) (.call "_law_draw" [(.var 0), (.cst (.int 4))]))), (.append (.var 2) (.tup [(.var 3), (.call "_law_draw" [(.var 0), (.cst (.int 70))])]))]), (.ret (.blt .tuple [(.var 2)]))]
def t__law_kinds : List T := [(.asg (.name 1) (.newl [])), (.for' [2] true 1 [(.call "_law_pick" [(.var 0), (.lst [(.cst (.int 2)), (.cst (.int 1)), (.cst (.int 3)), (.cst (.int 2)), (.cst (.int 0))])])] [(.asg (.name 3) (.call "_law_pick" [(.var 0), (.lst [(.cst (.str "array")), (.cst (.str "pairs"))])])), (.asg (.name 4) (.call "_law_pick" [(.var 0), (.lst [(.cst (.int 4)), (.cst (.int 8)), (.cst (.int 5)), (.cst (.int 1)), (.cst (.int 16)), (.cst (.int 3))])])), (.append (.var 1) (.tup [(.var 3), (.call "_law_pick" [(.var 0), (.lst [(.cst (.int 1)), (.cst (.int 1)), (.cst (.int 0))])]), (.var 4)]))]), (.ret (.blt .tuple [(.var 1)]))]
def t__law_grant : List T := [(.asg (.name 1) (.call "_law_pick" [(.var 0), (.lst [(.cst (.int 0)), (.cst (.int 4)), (.cst (.int 14)), (.cst (.int 20)), (.cst (.int 1)), (.call "_law_draw" [(.var 0), (.cst (.int 60))])])])), (.asg (.name 2) (.bin .Add (.var 1) (.call "_law_pick" [(.var 0), (.lst [(.cst (.int 0)), (.cst (.int 3)), (.cst (.int 40)), (.cst (.int 20))])]))), (.ret (.tup [(.var 1), (.var 2), (.call "_law_pick" [(.var 0), (.lst [(.cst (.int 1)), (.cst (.int 1)), (.cst (.int 0))])]), (.call "_law_kinds" [(.var 0)])]))]
def t__law_fitting : List T := [(.asg (.name 2) (.bin .Sub (.idx (.var 1) (.cst (.int 1))) (.idx (.var 1) (.cst (.int 0))))), (.asg (.name 3) (.call "_law_bytes" [(.var 0), (.bin .Add (.idx (.var 1) (.cst (.int 0))) (.call "_law_pick" [(.var 0), (.lst [(.cst (.int 0)), (.var 2), (.call "_law_draw" [(.var 0), (.bin .Add (.var 2) (.cst (.int 1)))])])]))])), (.asg (.name 4) (.newl [])), (.for' [5] true 0 [(.idx (.var 1) (.cst (.int 3)))] [(.append (.var 4) (.tup [(.idx (.var 5) (.cst (.int 0))), (.idx (.var 5) (.cst (.int 1))), (.call "_law_cells" [(.var 0), (.var 5)])]))]), (.ret (.call "_law_begun" [(.var 3), (.blt .tuple [(.var 4)]), (.call "_law_draw" [(.var 0), (.cst (.int 100))]), (.idx (.var 1) (.cst (.int 2)))]))]
def t__law_midway : List T := [(.asg (.name 3) (.call "_law_fitting" [(.var 0), (.var 1)])), (.asg (.name 4) (.newl [])), (.for' [5] true 1 [(.cst (.int 4))] [(.append (.var 4) (.call "_law_pick" [(.var 0), (.lst [(.cst (.int 0)), (.cst (.int 1)), (.cst (.int 3)), (.call "_law_draw" [(.var 0), (.cst (.int 101))])])]))]), (.asg (.name 6) (.blt .len [(.idx (.var 3) (.cst (.int 4)))])), (.ret (.bin .Add (.bin .Add (.bin .Add (.tup [(.call "_law_words" [(.var 0), (.cst (.int 8)), (.var 6)]), (.call "_law_words" [(.var 0), (.cst (.int 16)), (.var 6)]), (.blt .tuple [(.var 4)]), (.var 2)]) (.sl (.var 3) true true (.cst (.int 4)) (.cst (.int 7)))) (.tup [(.cst (.int 5))])) (.sl (.var 3) true false (.cst (.int 8)) (.cst .non))))]
def t__law_handles : List T := [(.asg (.name 2) (.comp [3] [3] true 1 [(.blt .len [(.idx (.var 1) (.cst (.int 5)))])] true (.and' (.cmp .Eq (.idx (.idx (.idx (.var 1) (.cst (.int 5))) (.var 3)) (.cst (.int 0))) (.cst (.str "pairs"))) (.cmp .LtE (.var 0) (.blt .len [(.idx (.idx (.idx (.var 1) (.cst (.int 5))) (.var 3)) (.cst (.int 2)))]))) (.var 3))), (.ret (.bin .Add (.lst [(.cst .non)]) (.ife (.cmp .Gt (.var 0) (.cst (.int 0))) (.var 2) (.comp [4] [4] true 1 [(.cst (.int 6))] false (.cst .non) (.var 4)))))]
def t__law_about : List T := [(.asg (.name 3) (.blt .len [(.idx (.var 2) (.cst (.int 4)))])), (.asg (.name 4) (.bin .Sub (.var 1) (.blt .min [(.var 1), (.call "_law_pick" [(.var 0), (.lst [(.cst (.int 0)), (.cst (.int 0)), (.cst (.int 1)), (.cst (.int 5)), (.call "_law_draw" [(.var 0), (.cst (.int 70))]), (.call "_law_draw" [(.var 0), (.cst (.int 65536))])])])]))), (.asg (.name 5) (.bin .Add (.var 1) (.blt .min [(.bin .Sub (.cst (.int 65535)) (.var 1)), (.call "_law_pick" [(.var 0), (.lst [(.cst (.int 0)), (.cst (.int 0)), (.cst (.int 1)), (.cst (.int 5)), (.call "_law_draw" [(.var 0), (.cst (.int 70))]), (.call "_law_draw" [(.var 0), (.cst (.int 65536))])])])]))), (.asg (.name 6) (.call "_law_pick" [(.var 0), (.lst [(.cst (.int 0)), (.cst (.int 0)), (.cst (.int 1)), (.cst (.int 7)), (.cst (.int 65535)), (.cst (.int 65280)), (.bin .BitAnd (.call "_law_draw" [(.var 0), (.cst (.int 65536))]) (.call "_law_draw" [(.var 0), (.cst (.int 65536))]))])])), (.asg (.name 7) (.ife (.and' (.cmp .LtE (.var 1) (.var 3)) (.cmp .Eq (.call "_law_draw" [(.var 0), (.cst (.int 4))]) (.cst (.int 0)))) (.bin .Sub (.var 3) (.var 1)) (.cst .non))), (.asg (.name 8) (.ife (.and' (.cmp .LtE (.var 1) (.var 3)) (.cmp .Eq (.call "_law_draw" [(.var 0), (.cst (.int 3))]) (.cst (.int 0)))) (.call "_law_draw" [(.var 0), (.bin .Add (.bin .Sub (.var 3) (.var 1)) (.cst (.int 1)))]) (.cst .non))), (.asg (.name 9) (.tup [(.var 4), (.var 5), (.var 6), (.bin .BitAnd (.var 1) (.var 6)), (.var 7), (.var 8), (.call "_law_pick" [(.var 0), (.call "_law_handles" [(.var 1), (.var 2)])])])), (.ret (.ife (.cmp .Gt (.call "_law_draw" [(.var 0), (.cst (.int 3))]) (.cst (.int 0))) (.call "_law_tightened" [(.var 9)]) (.var 9)))]
def t__law_right : List T := [(.asg (.name 1) (.call "_law_midway" [(.var 0), (.call "_law_grant" [(.var 0)]), (.cst (.int 0))])), (.asg (.name 2) (.idx (.idx (.var 1) (.cst (.int 0))) (.cst (.int 0)))), (.asg (.name 3) (.call "_law_pick" [(.var 0), (.lst [(.cst (.int 1)), (.cst (.int 7)), (.cst (.int 65280)), (.call "_law_draw" [(.var 0), (.cst (.int 65536))]), (.bin .BitAnd (.call "_law_draw" [(.var 0), (.cst (.int 65536))]) (.call "_law_draw" [(.var 0), (.cst (.int 65536))]))])])), (.asg (.name 4) (.call "_law_put" [(.call "_law_put" [(.call "_law_about" [(.var 0), (.var 2), (.var 1)]), (.cst (.int 2)), (.var 3)]), (.cst (.int 3)), (.bin .BitAnd (.var 2) (.var 3))])), (.asg (.name 5) (.comp [6] [6] true 1 [(.idx (.var 4) (.cst (.int 0))), (.bin .Add (.idx (.var 4) (.cst (.int 1))) (.cst (.int 1)))] true (.cmp .Eq (.bin .BitAnd (.var 6) (.var 3)) (.idx (.var 4) (.cst (.int 3)))) (.var 6))), (.tup [(.name 7), (.name 8), (.name 9)] (.tup [(.idx (.var 5) (.cst (.int 0))), (.idx (.var 5) (.bin .Sub (.blt .len [(.var 5)]) (.cst (.int 1)))), (.cst (.int 0))])), (.while' (.cmp .NotEq (.bin .RShift (.var 7) (.var 9)) (.bin .RShift (.var 8) (.var 9))) [(.asg (.name 9) (.bin .Add (.var 9) (.cst (.int 1))))]), (.asg (.name 10) (.bin .Sub (.cst (.int 65536)) (.bin .LShift (.cst (.int 1)) (.var 9)))), (.asg (.name 11) (.bin .Add (.tup [(.var 7), (.var 8), (.bin .BitOr (.var 3) (.var 10)), (.bin .BitOr (.idx (.var 4) (.cst (.int 3))) (.bin .BitAnd (.var 7) (.var 10)))]) (.sl (.var 4) true false (.cst (.int 4)) (.cst .non)))), (.ife (.or' (.cmp .NotEq (.blt .repr [(.call "tight" [(.var 4)])]) (.blt .repr [(.var 11)])) (.or' (.cmp .NotEq (.blt .repr [(.callk "tight" ["known"] [0] [(.var 4)])]) (.blt .repr [(.var 11)])) (.cmp .NotEq (.blt .repr [(.call "tight" [(.var 11)])]) (.blt .repr [(.var 11)])))) [(.ret (.cst (.bl false)))] []), (.ife (.cmp .NotEq (.comp [6] [6] true 1 [(.cst (.int 65536))] true (.and' (.chain .LtE .LtE (.var 7) (.var 6) (.var 8)) (.cmp .Eq (.bin .BitAnd (.var 6) (.idx (.var 11) (.cst (.int 2)))) (.idx (.var 11) (.cst (.int 3))))) (.var 6)) (.var 5)) [(.ret (.cst (.bl false)))] []), (.asg (.name 4) (.call "_law_about" [(.var 0), (.idx (.idx (.var 1) (.cst (.int 1))) (.cst (.int 0))), (.var 1)])), (.ret (.and' (.cmp .Eq (.blt .repr [(.call "tight" [(.var 4)])]) (.blt .repr [(.call "_law_tightened" [(.var 4)])])) (.cmp .Eq (.blt .repr [(.call "tight" [(.call "_law_any" [])])]) (.blt .repr [(.call "_law_any" [])]))))]
def t_law : List T := [(.ret (.blt .all [(.comp [1] [1] true 1 [(.cst (.int 2))] false (.cst .non) (.call "_law_right" [(.call "_law_well" [(.var 0), (.var 1), (.cst (.int 92851855))])]))]))]
def lookF (x : Str) : List (Str × Df) → Option Df
  | [] => none
  | (y, d) :: r => if y = x then some d else lookF x r
def df (x : Str) : Option Df := lookF x (([("is_whole", ⟨["value"], 1, t_is_whole⟩), ("is_between", ⟨["value", "least", "most"], 3, t_is_between⟩), ("is_word", ⟨["value"], 1, t_is_word⟩), ("is_tuple", ⟨["value", "least", "most"], 3, t_is_tuple⟩), ("are_all", ⟨["value", "least", "most", "is_good"], 4, t_are_all⟩), ("first_bad", ⟨["values", "is_good"], 4, t_first_bad⟩), ("least_fitting", ⟨["start", "mask", "bits"], 7, t_least_fitting⟩), ("greatest_fitting", ⟨["end", "mask", "bits"], 4, t_greatest_fitting⟩), ("agreed_bits", ⟨["low", "high"], 3, t_agreed_bits⟩), ("tightened", ⟨["value"], 6, t_tightened⟩), ("is_none_or", ⟨["value", "most"], 2, t_is_none_or⟩), ("is_known", ⟨["value"], 8, t_is_known⟩), ("need_known", ⟨["value"], 1, t_need_known⟩), ("tight", ⟨["known"], 1, t_tight⟩), ("_law_well", ⟨["script", "turn", "start"], 6, t__law_well⟩), ("_law_draw", ⟨["well", "size"], 4, t__law_draw⟩), ("_law_pick", ⟨["well", "some"], 2, t__law_pick⟩), ("_law_any", ⟨[], 0, t__law_any⟩), ("_law_least", ⟨["low", "mask", "bits"], 6, t__law_least⟩), ("_law_greatest", ⟨["high", "mask", "bits"], 6, t__law_greatest⟩)] : List (Str × Df)) ++ ([("_law_tightened", ⟨["value"], 8, t__law_tightened⟩), ("_law_put", ⟨["row", "at", "value"], 3, t__law_put⟩), ("_law_begun", ⟨["packet", "tables", "clock", "writable"], 4, t__law_begun⟩), ("_law_words", ⟨["well", "many", "far"], 7, t__law_words⟩), ("_law_bytes", ⟨["well", "many"], 4, t__law_bytes⟩), ("_law_cells", ⟨["well", "kind"], 5, t__law_cells⟩), ("_law_kinds", ⟨["well"], 5, t__law_kinds⟩), ("_law_grant", ⟨["well"], 3, t__law_grant⟩), ("_law_fitting", ⟨["well", "grant"], 6, t__law_fitting⟩), ("_law_midway", ⟨["well", "grant", "place"], 7, t__law_midway⟩), ("_law_handles", ⟨["word", "run"], 5, t__law_handles⟩), ("_law_about", ⟨["well", "word", "run"], 10, t__law_about⟩), ("_law_right", ⟨["well"], 12, t__law_right⟩), ("law", ⟨["script"], 2, t_law⟩)] : List (Str × Df)))
theorem f_is_whole : df "is_whole" = some ⟨["value"], 1, t_is_whole⟩ := by kernel_rfl
theorem a_is_whole : df d_is_whole.name = some ⟨d_is_whole.ps, d_is_whole.N.length, cSs pg.fuel (pg.cc d_is_whole) d_is_whole.body⟩ := by kernel_rfl
theorem f_is_between : df "is_between" = some ⟨["value", "least", "most"], 3, t_is_between⟩ := by kernel_rfl
theorem a_is_between : df d_is_between.name = some ⟨d_is_between.ps, d_is_between.N.length, cSs pg.fuel (pg.cc d_is_between) d_is_between.body⟩ := by kernel_rfl
theorem f_is_word : df "is_word" = some ⟨["value"], 1, t_is_word⟩ := by kernel_rfl
theorem a_is_word : df d_is_word.name = some ⟨d_is_word.ps, d_is_word.N.length, cSs pg.fuel (pg.cc d_is_word) d_is_word.body⟩ := by kernel_rfl
theorem f_is_tuple : df "is_tuple" = some ⟨["value", "least", "most"], 3, t_is_tuple⟩ := by kernel_rfl
theorem a_is_tuple : df d_is_tuple.name = some ⟨d_is_tuple.ps, d_is_tuple.N.length, cSs pg.fuel (pg.cc d_is_tuple) d_is_tuple.body⟩ := by kernel_rfl
theorem f_are_all : df "are_all" = some ⟨["value", "least", "most", "is_good"], 4, t_are_all⟩ := by kernel_rfl
theorem a_are_all : df d_are_all.name = some ⟨d_are_all.ps, d_are_all.N.length, cSs pg.fuel (pg.cc d_are_all) d_are_all.body⟩ := by kernel_rfl
theorem f_first_bad : df "first_bad" = some ⟨["values", "is_good"], 4, t_first_bad⟩ := by kernel_rfl
theorem a_first_bad : df d_first_bad.name = some ⟨d_first_bad.ps, d_first_bad.N.length, cSs pg.fuel (pg.cc d_first_bad) d_first_bad.body⟩ := by kernel_rfl
theorem f_least_fitting : df "least_fitting" = some ⟨["start", "mask", "bits"], 7, t_least_fitting⟩ := by kernel_rfl
theorem a_least_fitting : df d_least_fitting.name = some ⟨d_least_fitting.ps, d_least_fitting.N.length, cSs pg.fuel (pg.cc d_least_fitting) d_least_fitting.body⟩ := by kernel_rfl
theorem f_greatest_fitting : df "greatest_fitting" = some ⟨["end", "mask", "bits"], 4, t_greatest_fitting⟩ := by kernel_rfl
theorem a_greatest_fitting : df d_greatest_fitting.name = some ⟨d_greatest_fitting.ps, d_greatest_fitting.N.length, cSs pg.fuel (pg.cc d_greatest_fitting) d_greatest_fitting.body⟩ := by kernel_rfl
theorem f_agreed_bits : df "agreed_bits" = some ⟨["low", "high"], 3, t_agreed_bits⟩ := by kernel_rfl
theorem a_agreed_bits : df d_agreed_bits.name = some ⟨d_agreed_bits.ps, d_agreed_bits.N.length, cSs pg.fuel (pg.cc d_agreed_bits) d_agreed_bits.body⟩ := by kernel_rfl
theorem f_tightened : df "tightened" = some ⟨["value"], 6, t_tightened⟩ := by kernel_rfl
theorem a_tightened : df d_tightened.name = some ⟨d_tightened.ps, d_tightened.N.length, cSs pg.fuel (pg.cc d_tightened) d_tightened.body⟩ := by kernel_rfl
theorem f_is_none_or : df "is_none_or" = some ⟨["value", "most"], 2, t_is_none_or⟩ := by kernel_rfl
theorem a_is_none_or : df d_is_none_or.name = some ⟨d_is_none_or.ps, d_is_none_or.N.length, cSs pg.fuel (pg.cc d_is_none_or) d_is_none_or.body⟩ := by kernel_rfl
theorem f_is_known : df "is_known" = some ⟨["value"], 8, t_is_known⟩ := by kernel_rfl
theorem a_is_known : df d_is_known.name = some ⟨d_is_known.ps, d_is_known.N.length, cSs pg.fuel (pg.cc d_is_known) d_is_known.body⟩ := by kernel_rfl
theorem f_need_known : df "need_known" = some ⟨["value"], 1, t_need_known⟩ := by kernel_rfl
theorem a_need_known : df d_need_known.name = some ⟨d_need_known.ps, d_need_known.N.length, cSs pg.fuel (pg.cc d_need_known) d_need_known.body⟩ := by kernel_rfl
theorem f_tight : df "tight" = some ⟨["known"], 1, t_tight⟩ := by kernel_rfl
theorem a_tight : df d_tight.name = some ⟨d_tight.ps, d_tight.N.length, cSs pg.fuel (pg.cc d_tight) d_tight.body⟩ := by kernel_rfl
theorem f__law_well : df "_law_well" = some ⟨["script", "turn", "start"], 6, t__law_well⟩ := by kernel_rfl
theorem a__law_well : df d__law_well.name = some ⟨d__law_well.ps, d__law_well.N.length, cSs pg.fuel (pg.cc d__law_well) d__law_well.body⟩ := by kernel_rfl
theorem f__law_draw : df "_law_draw" = some ⟨["well", "size"], 4, t__law_draw⟩ := by kernel_rfl
theorem a__law_draw : df d__law_draw.name = some ⟨d__law_draw.ps, d__law_draw.N.length, cSs pg.fuel (pg.cc d__law_draw) d__law_draw.body⟩ := by kernel_rfl
theorem f__law_pick : df "_law_pick" = some ⟨["well", "some"], 2, t__law_pick⟩ := by kernel_rfl
theorem a__law_pick : df d__law_pick.name = some ⟨d__law_pick.ps, d__law_pick.N.length, cSs pg.fuel (pg.cc d__law_pick) d__law_pick.body⟩ := by kernel_rfl
theorem f__law_any : df "_law_any" = some ⟨[], 0, t__law_any⟩ := by kernel_rfl
theorem a__law_any : df d__law_any.name = some ⟨d__law_any.ps, d__law_any.N.length, cSs pg.fuel (pg.cc d__law_any) d__law_any.body⟩ := by kernel_rfl
theorem f__law_least : df "_law_least" = some ⟨["low", "mask", "bits"], 6, t__law_least⟩ := by kernel_rfl
theorem a__law_least : df d__law_least.name = some ⟨d__law_least.ps, d__law_least.N.length, cSs pg.fuel (pg.cc d__law_least) d__law_least.body⟩ := by kernel_rfl
theorem f__law_greatest : df "_law_greatest" = some ⟨["high", "mask", "bits"], 6, t__law_greatest⟩ := by kernel_rfl
theorem a__law_greatest : df d__law_greatest.name = some ⟨d__law_greatest.ps, d__law_greatest.N.length, cSs pg.fuel (pg.cc d__law_greatest) d__law_greatest.body⟩ := by kernel_rfl
theorem f__law_tightened : df "_law_tightened" = some ⟨["value"], 8, t__law_tightened⟩ := by kernel_rfl
theorem a__law_tightened : df d__law_tightened.name = some ⟨d__law_tightened.ps, d__law_tightened.N.length, cSs pg.fuel (pg.cc d__law_tightened) d__law_tightened.body⟩ := by kernel_rfl
theorem f__law_put : df "_law_put" = some ⟨["row", "at", "value"], 3, t__law_put⟩ := by kernel_rfl
theorem a__law_put : df d__law_put.name = some ⟨d__law_put.ps, d__law_put.N.length, cSs pg.fuel (pg.cc d__law_put) d__law_put.body⟩ := by kernel_rfl
theorem f__law_begun : df "_law_begun" = some ⟨["packet", "tables", "clock", "writable"], 4, t__law_begun⟩ := by kernel_rfl
theorem a__law_begun : df d__law_begun.name = some ⟨d__law_begun.ps, d__law_begun.N.length, cSs pg.fuel (pg.cc d__law_begun) d__law_begun.body⟩ := by kernel_rfl
theorem f__law_words : df "_law_words" = some ⟨["well", "many", "far"], 7, t__law_words⟩ := by kernel_rfl
theorem a__law_words : df d__law_words.name = some ⟨d__law_words.ps, d__law_words.N.length, cSs pg.fuel (pg.cc d__law_words) d__law_words.body⟩ := by kernel_rfl
theorem f__law_bytes : df "_law_bytes" = some ⟨["well", "many"], 4, t__law_bytes⟩ := by kernel_rfl
theorem a__law_bytes : df d__law_bytes.name = some ⟨d__law_bytes.ps, d__law_bytes.N.length, cSs pg.fuel (pg.cc d__law_bytes) d__law_bytes.body⟩ := by kernel_rfl
theorem f__law_cells : df "_law_cells" = some ⟨["well", "kind"], 5, t__law_cells⟩ := by kernel_rfl
theorem a__law_cells : df d__law_cells.name = some ⟨d__law_cells.ps, d__law_cells.N.length, cSs pg.fuel (pg.cc d__law_cells) d__law_cells.body⟩ := by kernel_rfl
theorem f__law_kinds : df "_law_kinds" = some ⟨["well"], 5, t__law_kinds⟩ := by kernel_rfl
theorem a__law_kinds : df d__law_kinds.name = some ⟨d__law_kinds.ps, d__law_kinds.N.length, cSs pg.fuel (pg.cc d__law_kinds) d__law_kinds.body⟩ := by kernel_rfl
theorem f__law_grant : df "_law_grant" = some ⟨["well"], 3, t__law_grant⟩ := by kernel_rfl
theorem a__law_grant : df d__law_grant.name = some ⟨d__law_grant.ps, d__law_grant.N.length, cSs pg.fuel (pg.cc d__law_grant) d__law_grant.body⟩ := by kernel_rfl
theorem f__law_fitting : df "_law_fitting" = some ⟨["well", "grant"], 6, t__law_fitting⟩ := by kernel_rfl
theorem a__law_fitting : df d__law_fitting.name = some ⟨d__law_fitting.ps, d__law_fitting.N.length, cSs pg.fuel (pg.cc d__law_fitting) d__law_fitting.body⟩ := by kernel_rfl
theorem f__law_midway : df "_law_midway" = some ⟨["well", "grant", "place"], 7, t__law_midway⟩ := by kernel_rfl
theorem a__law_midway : df d__law_midway.name = some ⟨d__law_midway.ps, d__law_midway.N.length, cSs pg.fuel (pg.cc d__law_midway) d__law_midway.body⟩ := by kernel_rfl
theorem f__law_handles : df "_law_handles" = some ⟨["word", "run"], 5, t__law_handles⟩ := by kernel_rfl
theorem a__law_handles : df d__law_handles.name = some ⟨d__law_handles.ps, d__law_handles.N.length, cSs pg.fuel (pg.cc d__law_handles) d__law_handles.body⟩ := by kernel_rfl
theorem f__law_about : df "_law_about" = some ⟨["well", "word", "run"], 10, t__law_about⟩ := by kernel_rfl
theorem a__law_about : df d__law_about.name = some ⟨d__law_about.ps, d__law_about.N.length, cSs pg.fuel (pg.cc d__law_about) d__law_about.body⟩ := by kernel_rfl
theorem f__law_right : df "_law_right" = some ⟨["well"], 12, t__law_right⟩ := by kernel_rfl
theorem a__law_right : df d__law_right.name = some ⟨d__law_right.ps, d__law_right.N.length, cSs pg.fuel (pg.cc d__law_right) d__law_right.body⟩ := by kernel_rfl
theorem f_law : df "law" = some ⟨["script"], 2, t_law⟩ := by kernel_rfl
theorem a_law : df d_law.name = some ⟨d_law.ps, d_law.N.length, cSs pg.fuel (pg.cc d_law) d_law.body⟩ := by kernel_rfl
theorem lookF_mem {x : Str} {e : Df} : ∀ {l : List (Str × Df)}, lookF x l = some e → x ∈ l.map (·.1)
  | [], h => by cases h
  | (y, d) :: r, h => by
    simp only [lookF] at h
    split at h
    · rename_i q
      subst q
      exact List.mem_cons_self
    · exact List.mem_cons_of_mem _ (lookF_mem h)
theorem dom : ∀ g e, df g = some e → ∃ d ∈ pg.ds, d.name = g := by
  intro g e h
  have h2 : g ∈ pg.ds.map (·.name) := lookF_mem h
  obtain ⟨d, h3, h4⟩ := List.mem_map.mp h2
  exact ⟨d, h3, h4⟩
theorem ag : Ag pg df := by
  refine ⟨dom, fun d hd => ?_⟩
  simp only [pg, List.mem_cons, List.not_mem_nil, or_false] at hd
  rcases hd with rfl | rfl | rfl | rfl | rfl | rfl | rfl | rfl | rfl | rfl | rfl | rfl | rfl | rfl | rfl | rfl | rfl | rfl | rfl | rfl | rfl | rfl | rfl | rfl | rfl | rfl | rfl | rfl | rfl | rfl | rfl | rfl | rfl | rfl
  · exact a_is_whole
  · exact a_is_between
  · exact a_is_word
  · exact a_is_tuple
  · exact a_are_all
  · exact a_first_bad
  · exact a_least_fitting
  · exact a_greatest_fitting
  · exact a_agreed_bits
  · exact a_tightened
  · exact a_is_none_or
  · exact a_is_known
  · exact a_need_known
  · exact a_tight
  · exact a__law_well
  · exact a__law_draw
  · exact a__law_pick
  · exact a__law_any
  · exact a__law_least
  · exact a__law_greatest
  · exact a__law_tightened
  · exact a__law_put
  · exact a__law_begun
  · exact a__law_words
  · exact a__law_bytes
  · exact a__law_cells
  · exact a__law_kinds
  · exact a__law_grant
  · exact a__law_fitting
  · exact a__law_midway
  · exact a__law_handles
  · exact a__law_about
  · exact a__law_right
  · exact a_law
end K12

namespace K12
open PySem PySem.Spec PyProof.Rows L2 Ev
def gl (g : Str) : Option D := lookD g cs
abbrev cl (k : Nat) : CallF := callN df gl 20 k
abbrev Gk (k : Nat) : Gb := ⟨cl k, gl⟩
variable {k : Nat} {S : Sto}
/-! operations on words -/
theorem binS_of {op : Operator} {i j z : Int} (h : ibop op i j = some z) : binS S op (.int i) (.int j) = some (.int z) := by simp [binS, bop, h]
theorem b_shr (a j : Nat) : binS S .RShift (dn a) (dn j) = some (dn (a / 2 ^ j)) := binS_of (by
  simp only [ibop]
  rw [if_pos (by omega), Int.toNat_natCast]
  simp)
theorem b_shl (a j : Nat) (h : a < 65536) (hj : j ≤ 1000) : binS S .LShift (dn a) (dn j) = some (dn (a * 2 ^ j)) := binS_of (by
  simp only [ibop]
  rw [if_pos ⟨by omega, by omega, by rw [Int.natAbs_natCast]; exact Nat.lt_trans h (by decide)⟩, Int.toNat_natCast]
  simp)
theorem b_and (a b : Nat) : binS S .BitAnd (dn a) (dn b) = some (dn (a &&& b)) := binS_of (by
  simp only [ibop]
  rw [bitAnd_pp (by omega) (by omega), Int.toNat_natCast, Int.toNat_natCast])
theorem b_or (a b : Nat) : binS S .BitOr (dn a) (dn b) = some (dn (a ||| b)) := binS_of (by
  simp only [ibop]
  rw [Bits.bitOr_pp (by omega) (by omega), Int.toNat_natCast, Int.toNat_natCast])
theorem b_xor (a b : Nat) : binS S .BitXor (dn a) (dn b) = some (dn (a ^^^ b)) := binS_of (by
  simp only [ibop]
  rw [Bits.bitXor_pp (by omega) (by omega), Int.toNat_natCast, Int.toNat_natCast])
theorem b_add (a b : Nat) : binS S .Add (dn a) (dn b) = some (dn (a + b)) := binS_of (by simp [ibop])
theorem b_sub (a b : Nat) (h : b ≤ a) : binS S .Sub (dn a) (dn b) = some (dn (a - b)) := binS_of (by
  simp only [ibop]
  rw [Int.ofNat_sub h])
theorem dn0 : (.int 0 : D) = dn 0 := rfl
theorem dn1 : (.int 1 : D) = dn 1 := rfl
theorem dn65535 : (.int 65535 : D) = dn 65535 := rfl
theorem eqI (a b : Nat) : cop S .Eq (dn a) (dn b) = some (decide (a = b)) := by
  simp only [dn, cop, deq, scalEq]
  congr 1
  by_cases h : a = b
  · rw [h]
    simp
  · rw [decide_eq_false h]
    exact decide_eq_false (by omega)
theorem gtI (a b : Nat) : cop S .Gt (dn a) (dn b) = some (decide (b < a)) := by
  simp only [dn, cop, intLt]
  congr 1
  by_cases h : b < a
  · rw [decide_eq_true h]
    exact decide_eq_true (by omega)
  · rw [decide_eq_false h]
    exact decide_eq_false (by omega)
theorem range16 : rangeD 0 16 = nums 0 16 := by kernel_rfl
def optD : Option Nat → D
  | none => .non
  | some r => dn r
/-! least_fitting -/
structure WB (s m b : Nat) : Prop where
  hs : s < 65536
  hm : m < 65536
  hb : b &&& m = b

def bLf : List T := [(.asg (.name 4) (.bin .LShift (.bin .RShift (.var 0) (.bin .Add (.var 3) (.cst (.int 1)))) (.bin .Add (.var 3) (.cst (.int 1))))), (.asg (.name 5) (.bin .BitOr (.var 4) (.bin .LShift (.cst (.int 1)) (.var 3)))), (.asg (.name 6) (.bin .LShift (.bin .RShift (.var 1) (.var 3)) (.var 3))), (.ife (.and' (.cmp .Eq (.bin .BitAnd (.bin .RShift (.var 0) (.var 3)) (.cst (.int 1))) (.cst (.int 0))) (.cmp .Eq (.bin .BitAnd (.var 5) (.var 6)) (.bin .BitAnd (.var 2) (.var 6)))) [(.ret (.bin .BitOr (.var 5) (.var 2)))] [])]
theorem lf_eq : t_least_fitting = [(.ife (.cmp .Eq (.bin .BitAnd (.var 0) (.var 1)) (.var 2)) [(.ret (.var 0))] []), .for' [3] true 1 [(.cst (.int 16))] bLf, (.ret (.cst .non))] := rfl
theorem bit0 (s j : Nat) : (s / 2 ^ j &&& 1 = 0) ↔ s.testBit j = false := by
  rw [Nat.and_one_is_mod, Fit.bit_div]
  constructor
  · intro h
    exact decide_eq_false (by omega)
  · intro h
    have : s / 2 ^ j % 2 ≠ 1 := of_decide_eq_false h
    omega
theorem lf_turn {s m b j : Nat} {x3 x4 x5 x6 : Option D} (W : WB s m b) (hj : j < 16) :
    ∃ y4 y5 y6, bindT [3] true (dn j) [some (dn s), some (dn m), some (dn b), x3, x4, x5, x6] = some [some (dn s), some (dn m), some (dn b), some (dn j), x4, x5, x6] ∧
      exs (Gk k) 20 bLf [some (dn s), some (dn m), some (dn b), some (dn j), x4, x5, x6] S = some (if Fit.Q s m b j then .rt (dn (Fit.cand s b j)) else .nx, [some (dn s), some (dn m), some (dn b), some (dn j), y4, y5, y6], S) := by
  have hb := W.hb
  have e1 : ∀ S : Sto, binS S .Add (dn j) (.int 1) = some (dn (j + 1)) := fun S => b_add j 1
  have e2 : ∀ S : Sto, binS S .LShift (.int 1) (dn j) = some (dn (2 ^ j)) := fun S => by
    have := b_shl (S := S) 1 j (by decide) (by omega)
    rw [Nat.one_mul] at this
    exact this
  have e3 : ∀ S : Sto, binS S .BitAnd (dn (s / 2 ^ j)) (.int 1) = some (dn (s / 2 ^ j &&& 1)) := fun S => b_and _ 1
  have e4 : ∀ S : Sto, binS S .LShift (dn (s / 2 ^ (j + 1))) (dn (j + 1)) = some (dn (s / 2 ^ (j + 1) * 2 ^ (j + 1))) := fun S => b_shl _ _ (Nat.lt_of_le_of_lt (Nat.div_le_self _ _) W.hs) (by omega)
  have e5 : ∀ S : Sto, binS S .LShift (dn (m / 2 ^ j)) (dn j) = some (dn (m / 2 ^ j * 2 ^ j)) := fun S => b_shl _ _ (Nat.lt_of_le_of_lt (Nat.div_le_self _ _) W.hm) (by omega)
  have e6 : ∀ S : Sto, ∀ x : Nat, cop S .Eq (dn x) (.int 0) = some (decide (x = 0)) := fun S x => eqI x 0
  refine ⟨some (dn (s / 2 ^ (j + 1) * 2 ^ (j + 1))), some (dn ((s / 2 ^ (j + 1) * 2 ^ (j + 1)) ||| 2 ^ j)), some (dn (m / 2 ^ j * 2 ^ j)), by simp [bindT, setAll], ?_⟩
  have v : ∀ x4 x5 x6 : Option D, ∀ y : Option D, True := fun _ _ _ _ => trivial
  have a4 : ∀ x4 x5 x6 : Option D, ev (Gk k) (.bin .LShift (.bin .RShift (.var 0) (.bin .Add (.var 3) (.cst (.int 1)))) (.bin .Add (.var 3) (.cst (.int 1)))) [some (dn s), some (dn m), some (dn b), some (dn j), x4, x5, x6] S = some (dn (s / 2 ^ (j + 1) * 2 ^ (j + 1)), S) := fun _ _ _ =>
    eB (eB (eV rfl) (eB (eV rfl) eC (e1 S)) (b_shr _ _)) (eB (eV rfl) eC (e1 S)) (e4 S)
  have a5 : ∀ x5 x6 : Option D, ev (Gk k) (.bin .BitOr (.var 4) (.bin .LShift (.cst (.int 1)) (.var 3))) [some (dn s), some (dn m), some (dn b), some (dn j), some (dn (s / 2 ^ (j + 1) * 2 ^ (j + 1))), x5, x6] S = some (dn ((s / 2 ^ (j + 1) * 2 ^ (j + 1)) ||| 2 ^ j), S) := fun _ _ =>
    eB (eV rfl) (eB eC (eV rfl) (e2 S)) (b_or _ _)
  have a6 : ∀ x4 x5 x6 : Option D, ev (Gk k) (.bin .LShift (.bin .RShift (.var 1) (.var 3)) (.var 3)) [some (dn s), some (dn m), some (dn b), some (dn j), x4, x5, x6] S = some (dn (m / 2 ^ j * 2 ^ j), S) := fun _ _ _ =>
    eB (eB (eV rfl) (eV rfl) (b_shr _ _)) (eV rfl) (e5 S)
  have a7 : ∀ r f : Nat, ∀ x4 : Option D, ev (Gk k) (.and' (.cmp .Eq (.bin .BitAnd (.bin .RShift (.var 0) (.var 3)) (.cst (.int 1))) (.cst (.int 0))) (.cmp .Eq (.bin .BitAnd (.var 5) (.var 6)) (.bin .BitAnd (.var 2) (.var 6)))) [some (dn s), some (dn m), some (dn b), some (dn j), x4, some (dn r), some (dn f)] S = some (.bl (decide (s / 2 ^ j &&& 1 = 0) && decide (r &&& f = b &&& f)), S) := fun r f x4 =>
    eA (eQ (eB (eB (eV rfl) (eV rfl) (b_shr _ _)) eC (e3 S)) eC (e6 S _)) fun _ => eQ (eB (eV rfl) (eV rfl) (b_and _ _)) (eB (eV rfl) (eV rfl) (b_and _ _)) (eqI _ _)
  have a8 : ∀ r f : Nat, ∀ x4 : Option D, ev (Gk k) (.bin .BitOr (.var 5) (.var 2)) [some (dn s), some (dn m), some (dn b), some (dn j), x4, some (dn r), some (dn f)] S = some (dn (r ||| b), S) := fun r f x4 => eB (eV rfl) (eV rfl) (b_or _ _)
  by_cases q : Fit.Q s m b j
  · obtain ⟨q1, q2⟩ := (Fit.Q_iff hb).mp q
    have q3 := (bit0 s j).mpr q1
    rw [if_pos q, ← Fit.cand_or hb q]
    refine xAsg (a4 _ _ _) (xAsg (a5 _ _) (xAsg (a6 _ _ _) (xIfT ?_ (xRet (a8 _ _ _)))))
    have h := a7 ((s / 2 ^ (j + 1) * 2 ^ (j + 1)) ||| 2 ^ j) (m / 2 ^ j * 2 ^ j) (some (dn (s / 2 ^ (j + 1) * 2 ^ (j + 1))))
    rw [decide_eq_true q3, decide_eq_true q2] at h
    exact h
  · rw [if_neg q]
    have q0 : (decide (s / 2 ^ j &&& 1 = 0) && decide (((s / 2 ^ (j + 1) * 2 ^ (j + 1)) ||| 2 ^ j) &&& (m / 2 ^ j * 2 ^ j) = b &&& (m / 2 ^ j * 2 ^ j))) = false := by
      cases e : (decide (s / 2 ^ j &&& 1 = 0) && decide (((s / 2 ^ (j + 1) * 2 ^ (j + 1)) ||| 2 ^ j) &&& (m / 2 ^ j * 2 ^ j) = b &&& (m / 2 ^ j * 2 ^ j))) with
      | false => rfl
      | true =>
        simp only [Bool.and_eq_true, decide_eq_true_eq] at e
        exact absurd ((Fit.Q_iff hb).mpr ⟨(bit0 s j).mp e.1, e.2⟩) q
    refine xAsg (a4 _ _ _) (xAsg (a5 _ _) (xAsg (a6 _ _ _) (xIfF ?_ xNil)))
    have h := a7 ((s / 2 ^ (j + 1) * 2 ^ (j + 1)) ||| 2 ^ j) (m / 2 ^ j * 2 ^ j) (some (dn (s / 2 ^ (j + 1) * 2 ^ (j + 1))))
    rw [q0] at h
    exact h
def lfP (s m b j : Nat) : Option D := if Fit.Q s m b j then some (dn (Fit.cand s b j)) else none
theorem lf_fl {s m b : Nat} : ∀ {n j : Nat}, flF (lfP s m b) n j = flP ((Fit.firstQ s m b n j).map dn)
  | 0, j => rfl
  | n + 1, j => by
    unfold flF Fit.firstQ lfP
    by_cases q : Fit.Q s m b j
    · rw [if_pos q, if_pos q]
      rfl
    · rw [if_neg q, if_neg q]
      exact lf_fl
def lfI (s m b : Nat) (env : EnvD) : Prop := ∃ x3 x4 x5 x6, env = [some (dn s), some (dn m), some (dn b), x3, x4, x5, x6]
theorem lf_loop {s m b : Nat} (W : WB s m b) : ∃ env', forLoop (fun _ => true) (bindT [3] true) (exs (Gk k) 20 bLf) (nums 0 16) [some (dn s), some (dn m), some (dn b), none, none, none, none] S = some (flP ((Fit.firstQ s m b 16 0).map dn), env', S) := by
  have st : ∀ j, j < 16 → ∀ env, lfI s m b env → ∃ env1 env2, bindT [3] true (dn j) env = some env1 ∧ exs (Gk k) 20 bLf env1 S = some (flP (lfP s m b j), env2, S) ∧ lfI s m b env2 := by
    rintro j hj env ⟨x3, x4, x5, x6, rfl⟩
    obtain ⟨y4, y5, y6, e1, e2⟩ := lf_turn (k := k) (S := S) (x3 := x3) (x4 := x4) (x5 := x5) (x6 := x6) W hj
    refine ⟨_, _, e1, ?_, ⟨some (dn j), y4, y5, y6, rfl⟩⟩
    rw [e2]
    unfold lfP
    split <;> rfl
  obtain ⟨env', e, _⟩ := forLoop_find st 16 0 _ (by omega) ⟨none, none, none, none, rfl⟩
  rw [lf_fl] at e
  exact ⟨env', e⟩
theorem c_lf {s m b : Nat} (W : WB s m b) : cl (k + 1) "least_fitting" [dn s, dn m, dn b] S = some (optD (Fit.least s m b), S) := by
  have e0 : startD ⟨["start", "mask", "bits"], 7, t_least_fitting⟩ [dn s, dn m, dn b] = [some (dn s), some (dn m), some (dn b), none, none, none, none] := rfl
  have hr : Ev.inR 16 = true := by decide
  have q0 : ev (Gk k) (.cmp .Eq (.bin .BitAnd (.var 0) (.var 1)) (.var 2)) [some (dn s), some (dn m), some (dn b), none, none, none, none] S = some (.bl (decide (s &&& m = b)), S) := eQ (eB (eV rfl) (eV rfl) (b_and _ _)) (eV rfl) (eqI _ _)
  refine call_of f_least_fitting rfl ?_
  rw [e0, lf_eq]
  by_cases q : s &&& m = b
  · unfold Fit.least
    rw [if_pos q]
    rw [decide_eq_true q] at q0
    exact .inl ⟨_, xIfT q0 (xRet (eV rfl))⟩
  · unfold Fit.least
    rw [if_neg q]
    rw [decide_eq_false q] at q0
    obtain ⟨env', e⟩ := lf_loop (k := k) (S := S) W
    have hi : itemsOf S 1 [.int 16] = some (nums 0 16, fun _ => true) := by
      rw [← range16]
      simp only [itemsOf, hr, if_true]
    cases h : Fit.firstQ s m b 16 0 with
    | none =>
      rw [h] at e
      exact .inl ⟨_, xIfF q0 (xFor (es1 eC es0) hi e (xRet eC))⟩
    | some r =>
      rw [h] at e
      exact .inl ⟨_, xIfF q0 (xForR (es1 eC es0) hi e)⟩
end K12

namespace K12
open PySem PySem.Spec PyProof.Rows L2 Ev
variable {k : Nat} {S : Sto}
/-! greatest_fitting -/
theorem b_sub5 (h : Nat) (hh : h < 65536) : binS S .Sub (.int 65535) (dn h) = some (dn (65535 - h)) := b_sub 65535 h (by omega)
theorem b_mir {m b : Nat} (hm : m < 65536) (hb : b < 65536) : binS S .BitAnd (dn m) (.int (Builtin.bitNot (b : Int))) = some (dn (Fit.mir m b)) := binS_of (by
  simp only [ibop]
  rw [bitAnd_not, bitAnd_pp (by omega) (by omega), Int.toNat_natCast, Int.toNat_natCast]
  have := Fit.and_sub hm hb
  congr 1
  omega)
theorem eInv {G : Gb} {x : E} {env : EnvD} {n : Nat} {S1 : Sto} (h : ev G x env S = some (dn n, S1)) : ev G (.inv x) env S = some (.int (Builtin.bitNot (n : Int)), S1) := by
  unfold dn at h
  simp only [ev, h]
theorem WB.lt {s m b : Nat} (W : WB s m b) : b < 65536 := by
  have := W.hb
  rw [← this]
  exact Nat.lt_of_le_of_lt Nat.and_le_right W.hm
theorem isN (d : D) : cop S .Is d .non = some (isNon d) := rfl
theorem c_gf {h m b : Nat} (W : WB h m b) : cl (k + 2) "greatest_fitting" [dn h, dn m, dn b] S = some (optD (Fit.greatest h m b), S) := by
  have hb := W.lt
  have W2 : WB (65535 - h) m (Fit.mir m b) := ⟨by have := W.hs; omega, W.hm, by
    unfold Fit.mir
    rw [Nat.and_comm, ← Nat.and_assoc, Nat.and_self]⟩
  refine call_of f_greatest_fitting rfl (.inl ?_)
  have e1 := c_lf (k := k) (S := S) W2
  have a0 : ev (Gk (k + 1)) (.call "least_fitting" [(.bin .Sub (.cst (.int 65535)) (.var 0)), (.var 1), (.bin .BitAnd (.var 1) (.inv (.var 2)))]) [some (dn h), some (dn m), some (dn b), none] S = some (optD (Fit.least (65535 - h) m (Fit.mir m b)), S) :=
    eCall (es1 (eB eC (eV rfl) (b_sub5 h W.hs)) (es1 (eV rfl) (es1 (eB (eV rfl) (eInv (eV rfl)) (b_mir W.hm hb)) es0))) e1
  refine ⟨_, xAsg (i := 3) a0 (xRet ?_)⟩
  unfold Fit.greatest
  cases q : Fit.least (65535 - h) m (Fit.mir m b) with
  | none => exact eI (t := true) (eQ (eV rfl) eC (isN _)) (fun _ => eC) (fun z => nomatch z)
  | some r =>
    have hr := (Fit.least_some W2.hs W2.lt q).2.1
    exact eI (t := false) (eQ (eV rfl) eC (isN _)) (fun z => nomatch z) (fun _ => eB eC (eV rfl) (b_sub5 r hr))
/-! agreed_bits -/
theorem eBlen {G : Gb} {x : E} {env : EnvD} {n : Nat} {S1 : Sto} (h : ev G x env S = some (dn n, S1)) : ev G (.blen x) env S = some (dn (Fit.bl n), S1) := by
  have e : Builtin.Int.intBits (n : Int) = Fit.bl n := by
    unfold Builtin.Int.intBits Fit.bl
    by_cases z : n = 0
    · subst z
      rfl
    · rw [if_neg z, Int.natAbs_natCast]
      have z2 : ((n : Int) == 0) = false := by
        cases q : ((n : Int) == 0) with
        | false => rfl
        | true =>
          have := beq_iff_eq.mp q
          omega
      rw [z2]
      rfl
  unfold dn at h
  simp only [ev, h, e, dn]
theorem b_top {n : Nat} (hn : n ≤ 1000) : binS S .RShift (.int 65535) (dn n) = some (dn (65535 / 2 ^ n)) ∧ binS S .LShift (dn (65535 / 2 ^ n)) (dn n) = some (dn (Fit.top n)) :=
  ⟨b_shr 65535 n, b_shl _ _ (Nat.lt_of_le_of_lt (Nat.div_le_self _ _) (by decide)) hn⟩
theorem c_agreed {a b : Nat} (ha : a < 65536) (hb : b < 65536) : cl (k + 1) "agreed_bits" [dn a, dn b] S = some (dn (Fit.top (Fit.bl (a ^^^ b))), S) := by
  have hx : a ^^^ b < 65536 := Nat.xor_lt_two_pow (n := 16) ha hb
  have h16 := Fit.bl_16 hx
  obtain ⟨t1, t2⟩ := b_top (S := S) (n := Fit.bl (a ^^^ b)) (by omega)
  refine call_of f_agreed_bits rfl (.inl ⟨_, xAsg (i := 2) (eBlen (eB (eV rfl) (eV rfl) (b_xor a b))) (xRet (eB (eB eC (eV rfl) t1) (eV rfl) t2))⟩)
/-! tightened -/
def quad : Option (Nat × Nat × Nat × Nat) → List D → D
  | none, _ => .non
  | some (a, b, c, d), r => .tup ([dn a, dn b, dn c, dn d] ++ r)
theorem catT (l r : List D) (h : l.length + r.length ≤ 1000) : binS S .Add (.tup l) (.tup r) = some (.tup (l ++ r)) := by
  have h2 : l.length + r.length ≤ sizeLine := by rw [sizeLine_eq]; omega
  simp only [binS, bop, if_pos h2]
theorem c_tightened {lo hi m b : Nat} {x y z : D} (hl : lo < 65536) (hh : hi < 65536) (hm : m < 65536) (hs : b &&& m = b) :
    cl (k + 3) "tightened" [.tup [dn lo, dn hi, dn m, dn b, x, y, z]] S = some (quad (Fit.tightN lo hi m b) [x, y, z], S) := by
  have e1 := c_lf (k := k + 1) (S := S) ⟨hl, hm, hs⟩
  have W : WB hi m b := ⟨hh, hm, hs⟩
  have e2 := c_gf (k := k) (S := S) W
  have hb := W.lt
  refine call_of f_tightened rfl (.inl ?_)
  have a0 : ev (Gk (k + 2)) (.sl (.var 0) false true (.cst .non) (.cst (.int 4))) [some (.tup [dn lo, dn hi, dn m, dn b, x, y, z]), none, none, none, none, none] S = some (.tup [dn lo, dn hi, dn m, dn b], S) := by
    simp only [ev, List.getElem?_cons_zero]
    rfl
  have a1 : asgTs (Gk (k + 2)) [(.name 1), (.name 2), (.name 3), (.name 4)] [dn lo, dn hi, dn m, dn b] [some (.tup [dn lo, dn hi, dn m, dn b, x, y, z]), none, none, none, none, none] S = some ([some (.tup [dn lo, dn hi, dn m, dn b, x, y, z]), some (dn lo), some (dn hi), some (dn m), some (dn b), none], S) := rfl
  have a2 : evs (Gk (k + 2)) [(.call "least_fitting" [(.var 1), (.var 3), (.var 4)]), (.call "greatest_fitting" [(.var 2), (.var 3), (.var 4)])] [some (.tup [dn lo, dn hi, dn m, dn b, x, y, z]), some (dn lo), some (dn hi), some (dn m), some (dn b), none] S = some ([optD (Fit.least lo m b), optD (Fit.greatest hi m b)], S) :=
    es1 (eCall (es1 (eV rfl) (es1 (eV rfl) (es1 (eV rfl) es0))) e1) (es1 (eCall (es1 (eV rfl) (es1 (eV rfl) (es1 (eV rfl) es0))) e2) es0)
  unfold Fit.tightN
  cases q1 : Fit.least lo m b with
  | none =>
    rw [q1] at a2
    exact ⟨_, xTup a0 a1 (xPar a2 rfl (xIfT (eO (t := true) (u := true) (eQ (eV rfl) eC (isN _)) (fun z => nomatch z)) (xRet eC)))⟩
  | some l =>
    obtain ⟨_, l2, _, _⟩ := Fit.least_some hl hb q1
    rw [q1] at a2
    cases q2 : Fit.greatest hi m b with
    | none =>
      rw [q2] at a2
      exact ⟨_, xTup a0 a1 (xPar a2 rfl (xIfT (eO (t := false) (u := true) (eQ (eV rfl) eC (isN _)) (fun _ => eO (t := true) (u := true) (eQ (eV rfl) eC (isN _)) (fun z => nomatch z))) (xRet eC)))⟩
    | some h =>
      have h2 : h < 65536 := Nat.lt_of_le_of_lt (Fit.greatest_some hh hm hb hs q2).1 hh
      rw [q2] at a2
      by_cases c : h < l
      · have g := gtI (S := S) l h
        rw [decide_eq_true c] at g
        simp only [if_pos c, quad]
        exact ⟨_, xTup a0 a1 (xPar a2 rfl (xIfT (eO (t := false) (u := true) (eQ (eV rfl) eC (isN _)) (fun _ => eO (t := false) (u := true) (eQ (eV rfl) eC (isN _)) (fun _ => eQ (eV rfl) (eV rfl) g))) (xRet eC)))⟩
      · have g := gtI (S := S) l h
        rw [decide_eq_false c] at g
        simp only [if_neg c, quad]
        have a3 : ev (Gk (k + 2)) (.sl (.var 0) true false (.cst (.int 4)) (.cst .non)) [some (.tup [dn lo, dn hi, dn m, dn b, x, y, z]), some (dn l), some (dn h), some (dn m), some (dn b), some (dn (Fit.top (Fit.bl (l ^^^ h))))] S = some (.tup [x, y, z], S) := by
          simp only [ev, List.getElem?_cons_zero]
          rfl
        exact ⟨_, xTup a0 a1 (xPar a2 rfl (xIfF (eO (t := false) (u := false) (eQ (eV rfl) eC (isN _)) (fun _ => eO (t := false) (u := false) (eQ (eV rfl) eC (isN _)) (fun _ => eQ (eV rfl) (eV rfl) g)))
          (xAsg (i := 5) (eCall (es1 (eV rfl) (es1 (eV rfl) es0)) (c_agreed (k := k + 1) l2 h2))
          (xRet (eB (eTup (es1 (eV rfl) (es1 (eV rfl) (es1 (eB (eV rfl) (eV rfl) (b_or _ _)) (es1 (eB (eV rfl) (eB (eV rfl) (eV rfl) (b_and _ _)) (b_or _ _)) es0)))) (by simp)) a3 (catT _ _ (by simp)))))))⟩
end K12

namespace K12
open PySem PySem.Spec PyProof.Rows L2 Ev
variable {k : Nat} {S : Sto}
theorem leI (a b : Nat) : cop S .LtE (dn a) (dn b) = some (decide (a ≤ b)) := by
  simp only [dn, cop, intLt]
  congr 1
  by_cases h : a ≤ b
  · rw [decide_eq_true h]
    exact decide_eq_true (by omega)
  · rw [decide_eq_false h]
    exact decide_eq_false (by omega)
theorem ltI (a b : Nat) : cop S .Lt (dn a) (dn b) = some (decide (a < b)) := by
  simp only [dn, cop, intLt]
  congr 1
  by_cases h : a < b
  · rw [decide_eq_true h]
    exact decide_eq_true (by omega)
  · rw [decide_eq_false h]
    exact decide_eq_false (by omega)
theorem neI (a b : Nat) : cop S .NotEq (dn a) (dn b) = some (!decide (a = b)) := by
  have := eqI (S := S) a b
  simp only [cop] at this ⊢
  rw [this]
  rfl
section
variable {G : Gb} {env : EnvD} {S1 S2 S3 : Sto} {x y z : E} {a b c : D} {t u : Bool}
theorem eCh {op op' : CmpOp} (hx : ev G x env S = some (a, S1)) (hy : ev G y env S1 = some (b, S2)) (h : cop S2 op a b = some true) (hz : ev G z env S2 = some (c, S3)) (h2 : cop S3 op' b c = some t) : ev G (.chain op op' x y z) env S = some (.bl t, S3) := by simp only [ev, hx, hy, h, hz, h2]
end
theorem c_is_whole {n : Nat} : cl (k + 1) "is_whole" [dn n] S = some (.bl true, S) := by kernel_rfl
theorem c_is_between {n a b : Nat} (h1 : a ≤ n) (h2 : n ≤ b) : cl (k + 2) "is_between" [dn n, dn a, dn b] S = some (.bl true, S) := by
  refine call_of f_is_between rfl (.inl ⟨_, xRet (eA (t := true) (u := true) (eCall (es1 (eV rfl) es0) (c_is_whole (k := k) (n := n))) fun _ => eCh (eV rfl) (eV rfl) ?_ (eV rfl) ?_)⟩)
  · rw [leI, decide_eq_true h1]
  · rw [leI, decide_eq_true h2]
theorem c_is_word {n : Nat} (h : n < 65536) : cl (k + 3) "is_word" [dn n] S = some (.bl true, S) :=
  call_of f_is_word rfl (.inl ⟨_, xRet (eCall (es1 (eV rfl) (es1 eC (es1 eC es0))) (c_is_between (k := k) (n := n) (a := 0) (b := 65535) (Nat.zero_le _) (by omega)))⟩)
theorem c_is_tuple {l : List D} {a b : Nat} (h1 : a ≤ l.length) (h2 : l.length ≤ b) : cl (k + 1) "is_tuple" [.tup l, dn a, dn b] S = some (.bl true, S) := by
  have hl : ev (Gk k) (.blt .len [(.var 0)]) [some (.tup l), some (dn a), some (dn b)] S = some (dn l.length, S) := eBlt (es1 (eV rfl) es0) rfl
  have hi : ev (Gk k) (.blt .isinstance [(.var 0), (.cst (.ty "tuple"))]) [some (.tup l), some (dn a), some (dn b)] S = some (.bl true, S) := eBlt (es1 (eV rfl) (es1 eC es0)) (by kernel_rfl)
  refine call_of f_is_tuple rfl (.inl ⟨_, xRet (eA (t := true) (u := true) hi fun _ => eCh (eV rfl) hl ?_ (eV rfl) ?_)⟩)
  · rw [leI, decide_eq_true h1]
  · rw [leI, decide_eq_true h2]
theorem enumD_mem {l : List D} {n : Nat} {d : D} (h : d ∈ enumD n l) : ∃ i e, d = .tup [.int i, e] ∧ e ∈ l := by
  induction l generalizing n with
  | nil => cases h
  | cons a l ih =>
    rcases List.mem_cons.mp h with rfl | h
    · exact ⟨_, a, rfl, List.mem_cons_self⟩
    · obtain ⟨i, e, h1, h2⟩ := ih h
      exact ⟨i, e, h1, List.mem_cons_of_mem _ h2⟩
theorem eCallL {G : Gb} {env : EnvD} {i : Nat} {g : Str} {xs : List E} {ds : List D} {S1 : Sto} {r : D × Sto} (h0 : env[i]? = some (some (.fn g))) (hs : evs G xs env S = some (ds, S1)) (h : G.cl g ds S1 = some r) : ev G (.calll i xs) env S = some r := by simp only [ev, h0, hs, h]
theorem c_first_bad {l : List D} {g : Str} (h : ∀ d ∈ l, ∀ S, cl (k + 3) g [d] S = some (.bl true, S)) : cl (k + 4) "first_bad" [.tup l, .fn g] S = some (.non, S) := by
  have st : ∀ d ∈ enumD 0 l, ∀ (env : EnvD) (S2 : Sto), (∃ x2 x3, env = [some (.tup l), some (.fn g), x2, x3] ∧ S2 = S) → ∃ env1 env2 S3, bindT [2, 3] false d env = some env1 ∧
      exs (Gk (k + 3)) 20 [(.ife (.not' (.calll 1 [(.var 3)])) [(.ret (.var 2))] [])] env1 S2 = some (.nx, env2, S3) ∧ (∃ x2 x3, env2 = [some (.tup l), some (.fn g), x2, x3] ∧ S3 = S) := by
    rintro d hd env S2 ⟨x2, x3, rfl, rfl⟩
    obtain ⟨i, e, rfl, he⟩ := enumD_mem hd
    exact ⟨_, _, _, rfl, xIfF (eN (t := true) (eCallL (g := g) (ds := [e]) rfl (es1 (eV rfl) es0) (h e he _))) xNil, _, _, rfl, rfl⟩
  obtain ⟨env', S', e, x2, x3, rfl, hS⟩ := forLoop_inv st ⟨none, none, rfl, rfl⟩
  rw [hS] at e
  exact call_of f_first_bad rfl (.inl ⟨_, xFor (es1 (eV rfl) es0) rfl e (xRet eC)⟩)
theorem c_are_all {l : List D} {g : Str} {a b : Nat} (h1 : a ≤ l.length) (h2 : l.length ≤ b) (h : ∀ d ∈ l, ∀ S, cl (k + 3) g [d] S = some (.bl true, S)) : cl (k + 5) "are_all" [.tup l, dn a, dn b, .fn g] S = some (.bl true, S) :=
  call_of f_are_all rfl (.inl ⟨_, xRet (eA (t := true) (u := true) (eCall (es1 (eV rfl) (es1 (eV rfl) (es1 (eV rfl) es0))) (c_is_tuple (k := k + 3) h1 h2)) fun _ => eQ (eCall (es1 (eV rfl) (es1 (eV rfl) es0)) (c_first_bad h)) eC rfl)⟩)
def OK7 (x : D) (M : Nat) : Prop := x = .non ∨ ∃ n, x = dn n ∧ n ≤ M
theorem c_none_or {x : D} {M : Nat} (h : OK7 x M) : cl (k + 3) "is_none_or" [x, dn M] S = some (.bl true, S) := by
  rcases h with rfl | ⟨n, rfl, hn⟩
  · exact call_of f_is_none_or rfl (.inl ⟨_, xRet (eO (t := true) (u := true) (eQ (eV rfl) eC rfl) fun z => nomatch z)⟩)
  · exact call_of f_is_none_or rfl (.inl ⟨_, xRet (eO (t := false) (u := true) (eQ (eV rfl) eC rfl) fun _ => eCall (es1 (eV rfl) (es1 eC (es1 (eV rfl) es0))) (c_is_between (k := k) (n := n) (a := 0) (b := M) (Nat.zero_le _) hn))⟩)
/-- a known value -/
structure KV7 (lo hi m b : Nat) (x y z : D) : Prop where
  hl : lo < 65536
  hh : hi < 65536
  hm : m < 65536
  hs : b &&& m = b
  le : lo ≤ hi
  x7 : OK7 x 256
  y7 : OK7 y 256
  z7 : OK7 z 5
  t7 : Fit.tightN lo hi m b ≠ none
theorem KV7.hb {lo hi m b : Nat} {x y z : D} (K : KV7 lo hi m b x y z) : b < 65536 := by
  have := K.hs
  rw [← this]
  exact Nat.lt_of_le_of_lt Nat.and_le_right K.hm
def v7 (lo hi m b : Nat) (x y z : D) : D := .tup [dn lo, dn hi, dn m, dn b, x, y, z]
theorem c_is_known {lo hi m b : Nat} {x y z : D} (K : KV7 lo hi m b x y z) : cl (k + 6) "is_known" [v7 lo hi m b x y z] S = some (.bl true, S) := by
  have hw : ∀ d ∈ [dn lo, dn hi, dn m, dn b], ∀ S, cl (k + 3) "is_word" [d] S = some (.bl true, S) := by
    intro d hd S
    simp only [List.mem_cons, List.not_mem_nil, or_false] at hd
    rcases hd with rfl | rfl | rfl | rfl
    · exact c_is_word K.hl
    · exact c_is_word K.hh
    · exact c_is_word K.hm
    · exact c_is_word K.hb
  have a0 : ∀ l : List (Option D), ev (Gk (k + 5)) (.sl (.var 0) false true (.cst .non) (.cst (.int 4))) (some (v7 lo hi m b x y z) :: l) S = some (.tup [dn lo, dn hi, dn m, dn b], S) := fun l => by
    simp only [ev, List.getElem?_cons_zero]
    rfl
  have mir0 : Fit.mir b m = 0 := by
    have := Fit.and_sub K.hb K.hm
    have := K.hs
    omega
  have g1 := gtI (S := S) lo hi
  rw [decide_eq_false (by have := K.le; omega)] at g1
  have g2 : binS S .BitAnd (dn b) (.int (Builtin.bitNot (m : Int))) = some (dn 0) := by
    rw [← mir0]
    exact b_mir K.hb K.hm
  have t3 := c_tightened (k := k + 2) (S := S) (x := x) (y := y) (z := z) K.hl K.hh K.hm K.hs
  have k1 : (Gk (k + 5)).cl "is_tuple" [v7 lo hi m b x y z, .int 7, .int 7] S = some (.bl true, S) := c_is_tuple (k := k + 4) (l := [dn lo, dn hi, dn m, dn b, x, y, z]) (a := 7) (b := 7) (by simp) (by simp)
  have k2 : (Gk (k + 5)).cl "are_all" [.tup [dn lo, dn hi, dn m, dn b], .int 4, .int 4, .fn "is_word"] S = some (.bl true, S) := c_are_all (k := k) (a := 4) (b := 4) (by simp) (by simp) hw
  have k3 : (Gk (k + 5)).cl "is_none_or" [x, .int 256] S = some (.bl true, S) := c_none_or (k := k + 2) (M := 256) K.x7
  have k4 : (Gk (k + 5)).cl "is_none_or" [y, .int 256] S = some (.bl true, S) := c_none_or (k := k + 2) (M := 256) K.y7
  have k5 : (Gk (k + 5)).cl "is_none_or" [z, .int 5] S = some (.bl true, S) := c_none_or (k := k + 2) (M := 5) K.z7
  refine call_of f_is_known rfl (.inl ⟨_, xIfF (eO (t := false) (u := false) (eN (t := true) (eCall (es1 (eV rfl) (es1 eC (es1 eC es0))) k1)) fun _ => eN (t := true) (eCall (es1 (a0 _) (es1 eC (es1 eC (es1 eC es0)))) k2))
    (xTup (eV rfl) (env1 := [some (v7 lo hi m b x y z), some (dn lo), some (dn hi), some (dn m), some (dn b), some x, some y, some z]) rfl
    (xIfF (eO (t := false) (u := false) (eQ (eV rfl) (eV rfl) g1) fun _ => eQ (eB (eV rfl) (eInv (eV rfl)) g2) eC (neI 0 0))
    (xIfF (eN (t := true) (eA (t := true) (u := true) (eCall (es1 (eV rfl) (es1 eC es0)) k3) fun _ => eA (t := true) (u := true) (eCall (es1 (eV rfl) (es1 eC es0)) k4) fun _ => eCall (es1 (eV rfl) (es1 eC es0)) k5))
    (xRet (eQ (t := true) (eCall (es1 (eV rfl) es0) t3) eC ?_)))))⟩)
  cases q : Fit.tightN lo hi m b with
  | none => exact absurd q K.t7
  | some r =>
    obtain ⟨a, b', c, d⟩ := r
    rfl
theorem c_tight {lo hi m b : Nat} {x y z : D} (K : KV7 lo hi m b x y z) : cl (k + 8) "tight" [v7 lo hi m b x y z] S = some (quad (Fit.tightN lo hi m b) [x, y, z], S) := by
  have n1 : cl (k + 7) "need_known" [v7 lo hi m b x y z] S = some (.non, S) := call_of f_need_known rfl (.inr ⟨rfl, _, xIfF (eN (t := true) (eCall (es1 (eV rfl) es0) (c_is_known K))) xNil⟩)
  exact call_of f_tight rfl (.inl ⟨_, xExpr (eCall (es1 (eV rfl) es0) n1) (xRet (eCall (es1 (eV rfl) es0) (c_tightened (k := k + 4) K.hl K.hh K.hm K.hs)))⟩)
end K12

namespace K12
open PySem PySem.Spec PyProof.Rows L2 Ev
variable {k : Nat} {S : Sto}
/-! _law_least -/
def bLl : List T := [(.asg (.name 5) (.bin .Add (.bin .Add (.bin .LShift (.bin .RShift (.var 0) (.bin .Add (.var 4) (.cst (.int 1)))) (.bin .Add (.var 4) (.cst (.int 1)))) (.bin .LShift (.cst (.int 1)) (.var 4))) (.bin .BitAnd (.var 2) (.bin .Sub (.bin .LShift (.cst (.int 1)) (.var 4)) (.cst (.int 1)))))), (.ife (.and' (.cmp .Eq (.bin .BitAnd (.bin .RShift (.var 0) (.var 4)) (.cst (.int 1))) (.cst (.int 0))) (.cmp .Eq (.bin .BitAnd (.var 5) (.var 1)) (.var 2))) [(.append (.var 3) (.var 5))] [])]
theorem ll_eq : t__law_least = [(.asg (.name 3) (.ife (.cmp .Eq (.bin .BitAnd (.var 0) (.var 1)) (.var 2)) (.newl [(.var 0)]) (.newl []))), (.for' [4] true 1 [(.cst (.int 16))] bLl), (.ret (.blt .min [(.bin .Add (.var 3) (.lst [(.cst (.int 65536))]))]))] := rfl
def acc0 (s m b : Nat) : List Nat := if Fit.Fits m b s then [s] else []
def llI (s m b r : Nat) (S0 : Sto) (j : Nat) (env : EnvD) (S : Sto) : Prop := ∃ x4 x5, env = [some (dn s), some (dn m), some (dn b), some (.ref r), x4, x5] ∧ r = S0.length ∧ S = S0 ++ [.lst ((acc0 s m b ++ Fit.fs s m b j 0).map dn)]
theorem p1 (j : Nat) : ∀ S : Sto, binS S .Add (dn j) (.int 1) = some (dn (j + 1)) := fun S => b_add j 1
theorem p2 {j : Nat} (hj : j < 16) : ∀ S : Sto, binS S .LShift (.int 1) (dn j) = some (dn (2 ^ j)) := fun S => by
  have := b_shl (S := S) 1 j (by decide) (by omega)
  rw [Nat.one_mul] at this
  exact this
theorem p3 (n : Nat) : ∀ S : Sto, binS S .BitAnd (dn n) (.int 1) = some (dn (n &&& 1)) := fun S => b_and _ 1
theorem p4 {s j : Nat} (hs : s < 65536) (hj : j < 16) : ∀ S : Sto, binS S .LShift (dn (s / 2 ^ (j + 1))) (dn (j + 1)) = some (dn (s / 2 ^ (j + 1) * 2 ^ (j + 1))) := fun S => b_shl _ _ (Nat.lt_of_le_of_lt (Nat.div_le_self _ _) hs) (by omega)
theorem p5 (j : Nat) : ∀ S : Sto, binS S .Sub (dn (2 ^ j)) (.int 1) = some (dn (2 ^ j - 1)) := fun S => b_sub _ 1 (Nat.two_pow_pos j)
theorem p6 (x : Nat) : ∀ S : Sto, cop S .Eq (dn x) (.int 0) = some (decide (x = 0)) := fun S => eqI x 0
theorem p7 (x : Nat) : ∀ S : Sto, cop S .Eq (dn x) (.int 1) = some (decide (x = 1)) := fun S => eqI x 1
theorem at_new {S : Sto} {x : MO} : (S ++ [x])[S.length]? = some x := by simp
theorem set_new {S : Sto} {x y : MO} : (S ++ [x]).set S.length y = S ++ [y] := by simp
theorem ll_turn {s m b r j : Nat} {env : EnvD} {S0 S1 : Sto} (W : WB s m b) (hj : j < 16) (h : llI s m b r S0 j env S1) :
    ∃ env1 env2 S2, bindT [4] true (dn j) env = some env1 ∧ exs (Gk k) 20 bLl env1 S1 = some (.nx, env2, S2) ∧ llI s m b r S0 (j + 1) env2 S2 := by
  obtain ⟨x4, x5, rfl, hr, rfl⟩ := h
  have w1 : ev (Gk k) (.bin .Add (.bin .Add (.bin .LShift (.bin .RShift (.var 0) (.bin .Add (.var 4) (.cst (.int 1)))) (.bin .Add (.var 4) (.cst (.int 1)))) (.bin .LShift (.cst (.int 1)) (.var 4))) (.bin .BitAnd (.var 2) (.bin .Sub (.bin .LShift (.cst (.int 1)) (.var 4)) (.cst (.int 1))))) [some (dn s), some (dn m), some (dn b), some (.ref r), some (dn j), x5] (S0 ++ [.lst ((acc0 s m b ++ Fit.fs s m b j 0).map dn)]) = some (dn (Fit.cand s b j), S0 ++ [.lst ((acc0 s m b ++ Fit.fs s m b j 0).map dn)]) := by
    rw [← Fit.cand_sum]
    exact eB (eB (eB (eB (eV rfl) (eB (eV rfl) eC (p1 j _)) (b_shr _ _)) (eB (eV rfl) eC (p1 j _)) (p4 W.hs hj _)) (eB eC (eV rfl) (p2 hj _)) (b_add _ _)) (eB (eV rfl) (eB (eB eC (eV rfl) (p2 hj _)) eC (p5 j _)) (b_and _ _)) (b_add _ _)
  have w2 : ev (Gk k) (.and' (.cmp .Eq (.bin .BitAnd (.bin .RShift (.var 0) (.var 4)) (.cst (.int 1))) (.cst (.int 0))) (.cmp .Eq (.bin .BitAnd (.var 5) (.var 1)) (.var 2))) [some (dn s), some (dn m), some (dn b), some (.ref r), some (dn j), some (dn (Fit.cand s b j))] (S0 ++ [.lst ((acc0 s m b ++ Fit.fs s m b j 0).map dn)]) = some (.bl (decide (s / 2 ^ j &&& 1 = 0) && decide (Fit.cand s b j &&& m = b)), S0 ++ [.lst ((acc0 s m b ++ Fit.fs s m b j 0).map dn)]) :=
    eA (eQ (eB (eB (eV rfl) (eV rfl) (b_shr _ _)) eC (p3 _ _)) eC (p6 _ _)) fun _ => eQ (eB (eV rfl) (eV rfl) (b_and _ _)) (eV rfl) (eqI _ _)
  have hq : (decide (s / 2 ^ j &&& 1 = 0) && decide (Fit.cand s b j &&& m = b)) = decide (Fit.Q s m b j) := by
    by_cases q : Fit.Q s m b j
    · rw [decide_eq_true q, decide_eq_true ((bit0 s j).mpr q.1), decide_eq_true (show Fit.cand s b j &&& m = b from q.2)]
      rfl
    · rw [decide_eq_false q]
      cases e : (decide (s / 2 ^ j &&& 1 = 0) && decide (Fit.cand s b j &&& m = b)) with
      | false => rfl
      | true =>
        simp only [Bool.and_eq_true, decide_eq_true_eq] at e
        exact absurd ⟨(bit0 s j).mp e.1, e.2⟩ q
  rw [hq] at w2
  have hl : (acc0 s m b ++ Fit.fs s m b j 0).length ≤ 100 := by
    have := Fit.fs_len (s := s) (m := m) (b := b) (n := j) (k := 0)
    rw [List.length_append]
    unfold acc0
    split <;> simp <;> omega
  by_cases q : Fit.Q s m b j
  · rw [decide_eq_true q] at w2
    refine ⟨_, _, _, rfl, xAsg (i := 5) w1 (xIfN w2 (xApp (eV rfl) ?_ (eV rfl) (l := (acc0 s m b ++ Fit.fs s m b j 0).map dn) ?_ ?_ xNil) xNil), _, _, rfl, hr, ?_⟩
    · unfold isL
      rw [hr, at_new]
    · rw [hr, at_new]
    · rw [List.length_map]
      omega
    · rw [hr, set_new, Fit.fs_snoc, Nat.zero_add, if_pos q]
      simp
  · rw [decide_eq_false q] at w2
    refine ⟨_, _, _, rfl, xAsg (i := 5) w1 (xIfF w2 xNil), _, _, rfl, hr, ?_⟩
    rw [Fit.fs_snoc, Nat.zero_add, if_neg q, List.append_nil]
theorem hi16 (S : Sto) : itemsOf S 1 [.int 16] = some (nums 0 16, fun _ => true) := by
  rw [← range16]
  have hr : Ev.inR 16 = true := by decide
  simp only [itemsOf, hr, if_true]
theorem map_dn (l : List Nat) : l.map dn = (l.map (fun n : Nat => (n : Int))).map D.int := by
  rw [List.map_map]
  rfl
theorem c_law_least {s m b l : Nat} (W : WB s m b) (h : Fit.least s m b = some l) : ∃ M, cl (k + 1) "_law_least" [dn s, dn m, dn b] S = some (dn l, S ++ M) := by
  have l16 := (Fit.least_some W.hs W.lt h).2.1
  have a0 : ev (Gk k) (.ife (.cmp .Eq (.bin .BitAnd (.var 0) (.var 1)) (.var 2)) (.newl [(.var 0)]) (.newl [])) [some (dn s), some (dn m), some (dn b), none, none, none] S = some (.ref S.length, S ++ [.lst ((acc0 s m b).map dn)]) := by
    unfold acc0
    by_cases q : Fit.Fits m b s
    · rw [if_pos q]
      exact eI (t := decide (s &&& m = b)) (eQ (eB (eV rfl) (eV rfl) (b_and _ _)) (eV rfl) (eqI _ _)) (fun _ => eNew (es1 (eV rfl) es0) (by simp)) fun z => absurd q (of_decide_eq_false z)
    · rw [if_neg q]
      exact eI (t := decide (s &&& m = b)) (eQ (eB (eV rfl) (eV rfl) (b_and _ _)) (eV rfl) (eqI _ _)) (fun z => absurd (of_decide_eq_true z) q) fun _ => eNew es0 (by simp)
  obtain ⟨env', S', e, x4, x5, rfl, _, rfl⟩ := forLoop_fold (bd := bindT [4] true) (body := exs (Gk k) 20 bLl) (I := llI s m b S.length S) (hi := 16) (fun j hj env S1 h => ll_turn W hj h) 16 0 [some (dn s), some (dn m), some (dn b), some (.ref S.length), none, none] (S ++ [.lst ((acc0 s m b).map dn)]) (by omega) ⟨none, none, rfl, rfl, by simp [Fit.fs]⟩
  refine ⟨[.lst ((acc0 s m b ++ Fit.fs s m b 16 0).map dn)], call_of f__law_least rfl (.inl ?_)⟩
  rw [ll_eq]
  have hl : (acc0 s m b ++ Fit.fs s m b 16 0).length ≤ 100 := by
    have := Fit.fs_len (s := s) (m := m) (b := b) (n := 16) (k := 0)
    rw [List.length_append]
    unfold acc0
    split <;> simp <;> omega
  have hc : binS (S ++ [.lst ((acc0 s m b ++ Fit.fs s m b 16 0).map dn)]) .Add (.ref S.length) (.lst [.int 65536]) = some (.lst ((acc0 s m b ++ Fit.fs s m b 16 0).map dn ++ [.int 65536])) := by
    have hz : ((acc0 s m b ++ Fit.fs s m b 16 0).map dn).length + 1 ≤ sizeLine := by rw [sizeLine_eq, List.length_map]; omega
    simp only [binS, bop, catS, refL, at_new, List.length_singleton, if_pos hz]
  have hm : bfun (S ++ [.lst ((acc0 s m b ++ Fit.fs s m b 16 0).map dn)]) .min [.lst ((acc0 s m b ++ Fit.fs s m b 16 0).map dn ++ [.int 65536])] = some (dn l) := by
    have e2 : (acc0 s m b ++ Fit.fs s m b 16 0).map dn ++ [.int 65536] = ((acc0 s m b ++ Fit.fs s m b 16 0).map (fun n : Nat => (n : Int)) ++ [65536]).map D.int := by
      rw [map_dn]
      simp only [List.map_append, List.map_cons, List.map_nil]
    obtain ⟨m1, m2⟩ := Fit.all_least h
    have e3 : mnI ((acc0 s m b ++ Fit.fs s m b 16 0).map (fun n : Nat => (n : Int)) ++ [65536]) = some (l : Int) := by
      refine mn_eq (List.mem_append_left _ (List.mem_map_of_mem (f := fun n : Nat => (n : Int)) m1)) fun y hy => ?_
      rcases List.mem_append.mp hy with hy | hy
      · obtain ⟨n, hn, rfl⟩ := List.mem_map.mp hy
        have := m2 n hn
        omega
      · have : y = 65536 := by simpa using hy
        omega
    simp only [bfun, seqOf, e2, toInts_map, Option.bind_some, e3, Option.map_some]
    rfl
  exact ⟨_, xAsg (i := 3) a0 (xFor (es1 eC es0) (hi16 _) e (xRet (eBlt (es1 (eB (eV rfl) (eLst (es1 eC es0) (by simp)) hc) es0) hm)))⟩
/-! _law_greatest -/
def bLg : List T := [(.asg (.name 5) (.bin .Add (.bin .LShift (.bin .RShift (.var 0) (.bin .Add (.var 4) (.cst (.int 1)))) (.bin .Add (.var 4) (.cst (.int 1)))) (.bin .BitAnd (.bin .BitOr (.var 2) (.bin .Sub (.cst (.int 65535)) (.var 1))) (.bin .Sub (.bin .LShift (.cst (.int 1)) (.var 4)) (.cst (.int 1)))))), (.ife (.and' (.cmp .Eq (.bin .BitAnd (.bin .RShift (.var 0) (.var 4)) (.cst (.int 1))) (.cst (.int 1))) (.cmp .Eq (.bin .BitAnd (.var 5) (.var 1)) (.var 2))) [(.append (.var 3) (.var 5))] [])]
theorem lg_eq : t__law_greatest = [(.asg (.name 3) (.ife (.cmp .Eq (.bin .BitAnd (.var 0) (.var 1)) (.var 2)) (.newl [(.var 0)]) (.newl []))), (.for' [4] true 1 [(.cst (.int 16))] bLg), (.ret (.blt .max [(.bin .Add (.var 3) (.lst [(.neg (.cst (.int 1)))]))]))] := rfl
def gs (h m b j : Nat) : List Nat := acc0 h m b ++ (Fit.fs (65535 - h) m (Fit.mir m b) j 0).map fun c => 65535 - c
def lgI (s m b r : Nat) (S0 : Sto) (j : Nat) (env : EnvD) (S : Sto) : Prop := ∃ x4 x5, env = [some (dn s), some (dn m), some (dn b), some (.ref r), x4, x5] ∧ r = S0.length ∧ S = S0 ++ [.lst ((gs s m b j).map dn)]
theorem bit1 (s j : Nat) : (s / 2 ^ j &&& 1 = 1) ↔ s.testBit j = true := by
  rw [Nat.and_one_is_mod, Fit.bit_div]
  exact ⟨fun h => decide_eq_true h, fun h => of_decide_eq_true h⟩
theorem gs_len {h m b j : Nat} : (gs h m b j).length ≤ j + 1 := by
  have := Fit.fs_len (s := 65535 - h) (m := m) (b := Fit.mir m b) (n := j) (k := 0)
  unfold gs acc0
  rw [List.length_append, List.length_map]
  split <;> simp <;> omega
theorem lg_turn {s m b r j : Nat} {env : EnvD} {S0 S1 : Sto} (W : WB s m b) (hj : j < 16) (h : lgI s m b r S0 j env S1) :
    ∃ env1 env2 S2, bindT [4] true (dn j) env = some env1 ∧ exs (Gk k) 20 bLg env1 S1 = some (.nx, env2, S2) ∧ lgI s m b r S0 (j + 1) env2 S2 := by
  obtain ⟨x4, x5, rfl, hr, rfl⟩ := h
  have hb := W.lt
  have w1 : ev (Gk k) (.bin .Add (.bin .LShift (.bin .RShift (.var 0) (.bin .Add (.var 4) (.cst (.int 1)))) (.bin .Add (.var 4) (.cst (.int 1)))) (.bin .BitAnd (.bin .BitOr (.var 2) (.bin .Sub (.cst (.int 65535)) (.var 1))) (.bin .Sub (.bin .LShift (.cst (.int 1)) (.var 4)) (.cst (.int 1))))) [some (dn s), some (dn m), some (dn b), some (.ref r), some (dn j), x5] (S0 ++ [.lst ((gs s m b j).map dn)]) = some (dn (Fit.gw s m b j), S0 ++ [.lst ((gs s m b j).map dn)]) := by
    rw [← Fit.gw_sum]
    exact eB (eB (eB (eV rfl) (eB (eV rfl) eC (p1 j _)) (b_shr _ _)) (eB (eV rfl) eC (p1 j _)) (p4 W.hs hj _)) (eB (eB (eV rfl) (eB eC (eV rfl) (b_sub5 m W.hm)) (b_or _ _)) (eB (eB eC (eV rfl) (p2 hj _)) eC (p5 j _)) (b_and _ _)) (b_add _ _)
  have w2 : ev (Gk k) (.and' (.cmp .Eq (.bin .BitAnd (.bin .RShift (.var 0) (.var 4)) (.cst (.int 1))) (.cst (.int 1))) (.cmp .Eq (.bin .BitAnd (.var 5) (.var 1)) (.var 2))) [some (dn s), some (dn m), some (dn b), some (.ref r), some (dn j), some (dn (Fit.gw s m b j))] (S0 ++ [.lst ((gs s m b j).map dn)]) = some (.bl (decide (s / 2 ^ j &&& 1 = 1) && decide (Fit.gw s m b j &&& m = b)), S0 ++ [.lst ((gs s m b j).map dn)]) :=
    eA (eQ (eB (eB (eV rfl) (eV rfl) (b_shr _ _)) eC (p3 _ _)) eC (p7 _ _)) fun _ => eQ (eB (eV rfl) (eV rfl) (b_and _ _)) (eV rfl) (eqI _ _)
  have gq := Fit.gw_Q W.hs W.hm hb hj W.hb
  have hq : (decide (s / 2 ^ j &&& 1 = 1) && decide (Fit.gw s m b j &&& m = b)) = decide (Fit.Q (65535 - s) m (Fit.mir m b) j) := by
    by_cases q : Fit.Q (65535 - s) m (Fit.mir m b) j
    · obtain ⟨q1, q2⟩ := gq.mp q
      rw [decide_eq_true q, decide_eq_true ((bit1 s j).mpr q1), decide_eq_true (show Fit.gw s m b j &&& m = b from q2)]
      rfl
    · rw [decide_eq_false q]
      cases e : (decide (s / 2 ^ j &&& 1 = 1) && decide (Fit.gw s m b j &&& m = b)) with
      | false => rfl
      | true =>
        simp only [Bool.and_eq_true, decide_eq_true_eq] at e
        exact absurd (gq.mpr ⟨(bit1 s j).mp e.1, e.2⟩) q
  rw [hq] at w2
  have hl := gs_len (h := s) (m := m) (b := b) (j := j)
  by_cases q : Fit.Q (65535 - s) m (Fit.mir m b) j
  · rw [decide_eq_true q] at w2
    refine ⟨_, _, _, rfl, xAsg (i := 5) w1 (xIfN w2 (xApp (eV rfl) ?_ (eV rfl) (l := (gs s m b j).map dn) ?_ ?_ xNil) xNil), _, _, rfl, hr, ?_⟩
    · unfold isL
      rw [hr, at_new]
    · rw [hr, at_new]
    · rw [List.length_map]
      omega
    · have e2 : gs s m b (j + 1) = gs s m b j ++ [Fit.gw s m b j] := by
        unfold gs
        rw [Fit.fs_snoc, Nat.zero_add, if_pos q, List.map_append, ← List.append_assoc]
        have := Fit.gw_cand W.hs W.hm hb hj
        have := Fit.gw_lt (m := m) W.hs hb hj
        have e3 : 65535 - Fit.cand (65535 - s) (Fit.mir m b) j = Fit.gw s m b j := by omega
        rw [List.map_cons, List.map_nil, e3]
      rw [hr, set_new, e2, List.map_append]
      rfl
  · rw [decide_eq_false q] at w2
    refine ⟨_, _, _, rfl, xAsg (i := 5) w1 (xIfF w2 xNil), _, _, rfl, hr, ?_⟩
    have e2 : gs s m b (j + 1) = gs s m b j := by
      unfold gs
      rw [Fit.fs_snoc, Nat.zero_add, if_neg q, List.append_nil]
    rw [e2]
theorem all_greatest {h m b r : Nat} (W : WB h m b) (e : Fit.greatest h m b = some r) : r ∈ gs h m b 16 ∧ ∀ y ∈ gs h m b 16, y ≤ r := by
  have hb := W.lt
  unfold Fit.greatest at e
  obtain ⟨q, e1, rfl⟩ := Option.map_eq_some_iff.mp e
  have hf := Fit.fits_mir W.hm hb W.hs W.hb
  have q16 := (Fit.least_some (by have := W.hs; omega) (Fit.mir_lt W.hm) e1).2.1
  obtain ⟨h1, h2⟩ := Fit.all_least e1
  have eq0 : gs h m b 16 = ((if Fit.Fits m (Fit.mir m b) (65535 - h) then [65535 - h] else []) ++ Fit.fs (65535 - h) m (Fit.mir m b) 16 0).map fun c => 65535 - c := by
    unfold gs acc0
    rw [List.map_append]
    congr 1
    have := W.hs
    by_cases z : Fit.Fits m b h
    · rw [if_pos z, if_pos (hf.mpr z), List.map_cons, List.map_nil]
      congr 1
      omega
    · rw [if_neg z, if_neg (fun y => z (hf.mp y)), List.map_nil]
  rw [eq0]
  refine ⟨List.mem_map_of_mem (f := fun c => 65535 - c) h1, fun y hy => ?_⟩
  obtain ⟨c, hc, rfl⟩ := List.mem_map.mp hy
  have := h2 c hc
  show 65535 - c ≤ 65535 - q
  omega
theorem c_law_greatest {s m b l : Nat} (W : WB s m b) (h : Fit.greatest s m b = some l) : ∃ M, cl (k + 1) "_law_greatest" [dn s, dn m, dn b] S = some (dn l, S ++ M) := by
  have a0 : ev (Gk k) (.ife (.cmp .Eq (.bin .BitAnd (.var 0) (.var 1)) (.var 2)) (.newl [(.var 0)]) (.newl [])) [some (dn s), some (dn m), some (dn b), none, none, none] S = some (.ref S.length, S ++ [.lst ((acc0 s m b).map dn)]) := by
    unfold acc0
    by_cases q : Fit.Fits m b s
    · rw [if_pos q]
      exact eI (t := decide (s &&& m = b)) (eQ (eB (eV rfl) (eV rfl) (b_and _ _)) (eV rfl) (eqI _ _)) (fun _ => eNew (es1 (eV rfl) es0) (by simp)) fun z => absurd q (of_decide_eq_false z)
    · rw [if_neg q]
      exact eI (t := decide (s &&& m = b)) (eQ (eB (eV rfl) (eV rfl) (b_and _ _)) (eV rfl) (eqI _ _)) (fun z => absurd (of_decide_eq_true z) q) fun _ => eNew es0 (by simp)
  obtain ⟨env', S', e, x4, x5, rfl, _, rfl⟩ := forLoop_fold (bd := bindT [4] true) (body := exs (Gk k) 20 bLg) (I := lgI s m b S.length S) (hi := 16) (fun j hj env S1 h => lg_turn W hj h) 16 0 [some (dn s), some (dn m), some (dn b), some (.ref S.length), none, none] (S ++ [.lst ((acc0 s m b).map dn)]) (by omega) ⟨none, none, rfl, rfl, by simp [gs, Fit.fs]⟩
  refine ⟨[.lst ((gs s m b 16).map dn)], call_of f__law_greatest rfl (.inl ?_)⟩
  rw [lg_eq]
  have hl := gs_len (h := s) (m := m) (b := b) (j := 16)
  have hc : binS (S ++ [.lst ((gs s m b 16).map dn)]) .Add (.ref S.length) (.lst [.int (-1)]) = some (.lst ((gs s m b 16).map dn ++ [.int (-1)])) := by
    have hz : ((gs s m b 16).map dn).length + 1 ≤ sizeLine := by rw [sizeLine_eq, List.length_map]; omega
    simp only [binS, bop, catS, refL, at_new, List.length_singleton, if_pos hz]
  have hm : bfun (S ++ [.lst ((gs s m b 16).map dn)]) .max [.lst ((gs s m b 16).map dn ++ [.int (-1)])] = some (dn l) := by
    have e2 : (gs s m b 16).map dn ++ [.int (-1)] = ((gs s m b 16).map (fun n : Nat => (n : Int)) ++ [-1]).map D.int := by
      rw [map_dn]
      simp only [List.map_append, List.map_cons, List.map_nil]
    obtain ⟨m1, m2⟩ := all_greatest W h
    have e3 : mxI ((gs s m b 16).map (fun n : Nat => (n : Int)) ++ [-1]) = some (l : Int) := by
      refine mx_eq (List.mem_append_left _ (List.mem_map_of_mem (f := fun n : Nat => (n : Int)) m1)) fun y hy => ?_
      rcases List.mem_append.mp hy with hy | hy
      · obtain ⟨n, hn, rfl⟩ := List.mem_map.mp hy
        have := m2 n hn
        omega
      · have : y = -1 := by simpa using hy
        omega
    simp only [bfun, seqOf, e2, toInts_map, Option.bind_some, e3, Option.map_some]
    rfl
  have hn : ∀ (env : EnvD) (S1 : Sto), ev (Gk k) (.neg (.cst (.int 1))) env S1 = some (.int (-1), S1) := fun _ _ => by simp only [ev]
  exact ⟨_, xAsg (i := 3) a0 (xFor (es1 eC es0) (hi16 _) e (xRet (eBlt (es1 (eB (eV rfl) (eLst (es1 (hn _ _) es0) (by simp)) hc) es0) hm)))⟩
/-! _law_tightened -/
theorem wide_loop {w : D} {a1 a2 a3 a4 : Option D} (x : Nat) (n : Nat) : ∀ (i fuel : Nat), i + n = Fit.bl x → n < fuel →
    whileLoop (Ev.cond (Gk k) (.cmp .Gt (.bin .RShift (.var 6) (.var 5)) (.cst (.int 0)))) (exs (Gk k) 20 [(.asg (.name 5) (.bin .Add (.var 5) (.cst (.int 1))))]) fuel [some w, a1, a2, a3, a4, some (dn i), some (dn x), none] S = some (.nx, [some w, a1, a2, a3, a4, some (dn (Fit.bl x)), some (dn x), none], S) := by
  have cd : ∀ i, Ev.cond (Gk k) (.cmp .Gt (.bin .RShift (.var 6) (.var 5)) (.cst (.int 0))) [some w, a1, a2, a3, a4, some (dn i), some (dn x), none] S = some (decide (0 < x / 2 ^ i), S) := fun i =>
    cN (w := 0) (eQ (eB (eV rfl) (eV rfl) (b_shr _ _)) eC (gtI (x / 2 ^ i) 0))
  have bd : ∀ i, exs (Gk k) 20 [(.asg (.name 5) (.bin .Add (.var 5) (.cst (.int 1))))] [some w, a1, a2, a3, a4, some (dn i), some (dn x), none] S = some (.nx, [some w, a1, a2, a3, a4, some (dn (i + 1)), some (dn x), none], S) := fun i =>
    xAsg (i := 5) (eB (eV rfl) eC (p1 i _)) xNil
  generalize Ev.cond (Gk k) (.cmp .Gt (.bin .RShift (.var 6) (.var 5)) (.cst (.int 0))) = C at cd ⊢
  generalize exs (Gk k) 20 [(.asg (.name 5) (.bin .Add (.var 5) (.cst (.int 1))))] = B at bd ⊢
  induction n with
  | zero =>
    intro i fuel hi hf
    obtain ⟨f, rfl⟩ : ∃ f, fuel = f + 1 := ⟨fuel - 1, by omega⟩
    have e : i = Fit.bl x := by omega
    have h0 : x / 2 ^ i = 0 := Fit.bl_le.mp (by omega)
    have c0 := cd i
    rw [h0, decide_eq_false (by omega)] at c0
    unfold whileLoop
    rw [c0, e]
  | succ n ih =>
    intro i fuel hi hf
    obtain ⟨f, rfl⟩ : ∃ f, fuel = f + 1 := ⟨fuel - 1, by omega⟩
    have h0 : x / 2 ^ i ≠ 0 := fun z => by
      have := Fit.bl_le.mpr z
      omega
    have c0 := cd i
    rw [decide_eq_true (Nat.pos_of_ne_zero h0)] at c0
    unfold whileLoop
    rw [c0]
    dsimp only
    rw [bd i]
    exact ih (i + 1) f (by omega) (by omega)
theorem c_law_tightened {lo hi m b : Nat} {x y z : D} {q : Nat × Nat × Nat × Nat} (hl : lo < 65536) (hh : hi < 65536) (hm : m < 65536) (hs : b &&& m = b) (ht : Fit.tightN lo hi m b = some q) :
    ∃ M, cl (k + 2) "_law_tightened" [v7 lo hi m b x y z] S = some (quad (some q) [x, y, z], S ++ M) := by
  have W1 : WB lo m b := ⟨hl, hm, hs⟩
  have W2 : WB hi m b := ⟨hh, hm, hs⟩
  unfold Fit.tightN at ht
  cases q1 : Fit.least lo m b with
  | none => rw [q1] at ht; cases ht
  | some l =>
    rw [q1] at ht
    cases q2 : Fit.greatest hi m b with
    | none => rw [q2] at ht; cases ht
    | some h =>
      rw [q2] at ht
      dsimp only at ht
      split at ht
      · cases ht
      · rename_i hle
        cases ht
        have l16 := (Fit.least_some hl W1.lt q1).2.1
        have h16 : h < 65536 := Nat.lt_of_le_of_lt (Fit.greatest_some hh hm W1.lt hs q2).1 hh
        have a0 : ev (Gk (k + 1)) (.sl (.var 0) false true (.cst .non) (.cst (.int 4))) [some (v7 lo hi m b x y z), none, none, none, none, none, none, none] S = some (.tup [dn lo, dn hi, dn m, dn b], S) := by
          simp only [ev, List.getElem?_cons_zero]
          rfl
        have a1 : asgTs (Gk (k + 1)) [(.name 1), (.name 2), (.name 3), (.name 4)] [dn lo, dn hi, dn m, dn b] [some (v7 lo hi m b x y z), none, none, none, none, none, none, none] S = some ([some (v7 lo hi m b x y z), some (dn lo), some (dn hi), some (dn m), some (dn b), none, none, none], S) := rfl
        have g1 : ∀ S : Sto, cop S .Gt (dn lo) (.int 65535) = some false := fun S => by
          have := gtI (S := S) lo 65535
          rw [decide_eq_false (by omega)] at this
          exact this
        have g2 : ∀ S : Sto, cop S .Lt (dn hi) (.int 0) = some false := fun S => by
          have := ltI (S := S) hi 0
          rw [decide_eq_false (by omega)] at this
          exact this
        have a3 : ∃ M, ev (Gk (k + 1)) (.ife (.cmp .Eq (.bin .BitAnd (.var 1) (.var 3)) (.var 4)) (.var 1) (.call "_law_least" [(.var 1), (.var 3), (.var 4)])) [some (v7 lo hi m b x y z), some (dn lo), some (dn hi), some (dn m), some (dn b), none, none, none] S = some (dn l, S ++ M) := by
          by_cases c : lo &&& m = b
          · have e : lo = l := by
              unfold Fit.least at q1
              rw [if_pos c] at q1
              exact Option.some.inj q1
            refine ⟨[], ?_⟩
            rw [List.append_nil]
            exact eI (t := decide (lo &&& m = b)) (eQ (eB (eV rfl) (eV rfl) (b_and _ _)) (eV rfl) (eqI _ _)) (fun _ => eV (by rw [e]; rfl)) fun z => absurd c (of_decide_eq_false z)
          · obtain ⟨M, e⟩ := c_law_least (k := k) (S := S) W1 q1
            exact ⟨M, eI (t := decide (lo &&& m = b)) (eQ (eB (eV rfl) (eV rfl) (b_and _ _)) (eV rfl) (eqI _ _)) (fun z => absurd (of_decide_eq_true z) c) fun _ => eCall (es1 (eV rfl) (es1 (eV rfl) (es1 (eV rfl) es0))) e⟩
        obtain ⟨M1, a3⟩ := a3
        have a4 : ∃ M, ev (Gk (k + 1)) (.ife (.cmp .Eq (.bin .BitAnd (.var 2) (.var 3)) (.var 4)) (.var 2) (.call "_law_greatest" [(.var 2), (.var 3), (.var 4)])) [some (v7 lo hi m b x y z), some (dn l), some (dn hi), some (dn m), some (dn b), none, none, none] (S ++ M1) = some (dn h, S ++ M1 ++ M) := by
          by_cases c : hi &&& m = b
          · have g := Fit.greatest_some hh hm W1.lt hs q2
            have e : hi = h := Nat.le_antisymm (g.2.2 hi (Nat.le_refl _) c) g.1
            refine ⟨[], ?_⟩
            rw [List.append_nil]
            exact eI (t := decide (hi &&& m = b)) (eQ (eB (eV rfl) (eV rfl) (b_and _ _)) (eV rfl) (eqI _ _)) (fun _ => eV (by rw [e]; rfl)) fun z => absurd c (of_decide_eq_false z)
          · obtain ⟨M, e⟩ := c_law_greatest (k := k) (S := S ++ M1) W2 q2
            exact ⟨M, eI (t := decide (hi &&& m = b)) (eQ (eB (eV rfl) (eV rfl) (b_and _ _)) (eV rfl) (eqI _ _)) (fun z => absurd (of_decide_eq_true z) c) fun _ => eCall (es1 (eV rfl) (es1 (eV rfl) (es1 (eV rfl) es0))) e⟩
        obtain ⟨M2, a4⟩ := a4
        have g3 : ∀ S : Sto, cop S .Gt (dn l) (dn h) = some false := fun S => by
          have := gtI (S := S) l h
          rw [decide_eq_false hle] at this
          exact this
        have b16 := Fit.bl_16 (show l ^^^ h < 65536 from Nat.xor_lt_two_pow (n := 16) l16 h16)
        have a5 := wide_loop (k := k + 1) (S := S ++ M1 ++ M2) (w := v7 lo hi m b x y z) (a1 := some (dn l)) (a2 := some (dn h)) (a3 := some (dn m)) (a4 := some (dn b)) (l ^^^ h) (Fit.bl (l ^^^ h)) 0 20 (by omega) (by omega)
        obtain ⟨t1, t2⟩ := b_top (S := S ++ M1 ++ M2) (n := Fit.bl (l ^^^ h)) (by omega)
        have a6 : ev (Gk (k + 1)) (.sl (.var 0) true false (.cst (.int 4)) (.cst .non)) [some (v7 lo hi m b x y z), some (dn l), some (dn h), some (dn m), some (dn b), some (dn (Fit.bl (l ^^^ h))), some (dn (l ^^^ h)), some (dn (Fit.top (Fit.bl (l ^^^ h))))] (S ++ M1 ++ M2) = some (.tup [x, y, z], S ++ M1 ++ M2) := by
          simp only [ev, List.getElem?_cons_zero]
          rfl
        refine ⟨M1 ++ M2, ?_⟩
        rw [← List.append_assoc]
        refine call_of f__law_tightened rfl (.inl ⟨_, xTup a0 a1 (xIfF (eO (t := false) (u := false) (eQ (eV rfl) eC (g1 _)) fun _ => eQ (eV rfl) eC (g2 _)) (xAsg (i := 1) a3 (xAsg (i := 2) a4 (xIfF (eQ (eV rfl) (eV rfl) (g3 _))
          (xPar (es1 eC (es1 (eB (eV rfl) (eV rfl) (b_xor _ _)) es0)) rfl (xWhile a5 (xAsg (i := 7) (eB (eB eC (eV rfl) t1) (eV rfl) t2)
          (xRet (eB (eTup (es1 (eV rfl) (es1 (eV rfl) (es1 (eB (eV rfl) (eV rfl) (b_or _ _)) (es1 (eB (eV rfl) (eB (eV rfl) (eV rfl) (b_and _ _)) (b_or _ _)) es0)))) (by simp)) a6 (catT _ _ (by simp)))))))))))⟩)
end K12

namespace K12
open PySem PySem.Spec PyProof.Rows L2 Ev
variable {k : Nat} {S : Sto}
/-! the well -/
def JOK (S : Sto) (j : Nat) : Prop := ∃ a b c : Int, S[j]? = some (.lst [.int a, .int b, .int c])
structure Fr (j : Nat) (S S' : Sto) : Prop where
  ln : S.length ≤ S'.length
  at_ : ∀ n, n < S.length → n ≠ j → S'[n]? = S[n]?
  ok : JOK S' j
theorem Fr.trans {j : Nat} {S S1 S2 : Sto} (a : Fr j S S1) (b : Fr j S1 S2) : Fr j S S2 :=
  ⟨Nat.le_trans a.ln b.ln, fun n h h2 => (b.at_ n (Nat.lt_of_lt_of_le h a.ln) h2).trans (a.at_ n h h2), b.ok⟩
theorem Fr.refl {j : Nat} {S : Sto} (h : JOK S j) : Fr j S S := ⟨Nat.le_refl _, fun _ _ _ => rfl, h⟩
theorem JOK.lt {j : Nat} (h : JOK S j) : j < S.length := by
  obtain ⟨a, b, c, h⟩ := h
  exact (List.getElem?_eq_some_iff.mp h).1
theorem Fr.app {j : Nat} (h : JOK S j) (M : Sto) : Fr j S (S ++ M) := by
  refine ⟨by simp, fun n hn _ => List.getElem?_append_left hn, ?_⟩
  have hl := h.lt
  obtain ⟨a, b, c, h⟩ := h
  exact ⟨a, b, c, by rw [List.getElem?_append_left hl]; exact h⟩
theorem Fr.setJ {j : Nat} (hl : j < S.length) {a b c : Int} : Fr j S (S.set j (.lst [.int a, .int b, .int c])) :=
  ⟨by simp, fun n _ h2 => List.getElem?_set_ne (fun e => h2 e.symm), a, b, c, List.getElem?_set_self hl⟩
theorem c_draw {j size : Nat} (h : JOK S j) (ht : 0 < size) (ht2 : size < 1073741824) :
    ∃ (r : Nat) (S' : Sto), cl (k + 1) "_law_draw" [.ref j, dn size] S = some (dn r, S') ∧ r < size ∧ Fr j S S' := by
  have hl := h.lt
  obtain ⟨a, b, c, hj⟩ := h
  have gs : ∀ x, (S.set j x)[j]? = some x := fun x => List.getElem?_set_self hl
  have t1 : (0 : Int) < size := by omega
  have t2 : (size : Int) < 1073741824 := by omega
  have cast : ∀ i : Int, 0 ≤ i → D.int i = dn i.toNat := fun i hi => by unfold dn; rw [Int.toNat_of_nonneg hi]
  by_cases ha : 0 < a
  · have e1 := Int.emod_nonneg a (show (size : Int) ≠ 0 by omega)
    have e2 := Int.emod_lt_of_pos a t1
    refine ⟨(a % size).toNat, S.set j (.lst [.int (a / size), .int b, .int c]), ?_, by omega, Fr.setJ hl⟩
    rw [← cast _ e1, cl, call_eq f__law_draw rfl]
    simp [t__law_draw, exs, ex, ev, evs, Ev.cond, truth, startD, dn, hj, gs, ixf, seqOf, atD, atI, ixN, cop, intLt, ha, asgT, bfun, binS, bop, ibop, ht, t1, t2]
  · have hm : ∀ x : Int, -18446744073709551616 < x % 50021 + 20011 ∧ x % 50021 + 20011 < 18446744073709551616 := fun x => by omega
    have e1 := Int.emod_nonneg ((b * 16807 + 60013 * (c + 1) + 11) % 2147483629 * ((b * 16807 + 60013 * (c + 1) + 11) % 2147483629 % 50021 + 20011) / 8191) (show (size : Int) ≠ 0 by omega)
    have e2 := Int.emod_lt_of_pos ((b * 16807 + 60013 * (c + 1) + 11) % 2147483629 * ((b * 16807 + 60013 * (c + 1) + 11) % 2147483629 % 50021 + 20011) / 8191) t1
    refine ⟨(((b * 16807 + 60013 * (c + 1) + 11) % 2147483629 * ((b * 16807 + 60013 * (c + 1) + 11) % 2147483629 % 50021 + 20011) / 8191) % size).toNat, S.set j (.lst [.int a, .int ((b * 16807 + 60013 * (c + 1) + 11) % 2147483629), .int (c + 1)]), ?_, by omega, Fr.setJ hl⟩
    rw [← cast _ e1, cl, call_eq f__law_draw rfl]
    simp [t__law_draw, exs, ex, ev, evs, Ev.cond, truth, startD, dn, hj, gs, ixf, seqOf, atD, atI, ixN, cop, intLt, ha, asgT, bfun, binS, bop, ibop, hm, ht, t1]
theorem c_pick {j : Nat} {l : List D} (h : JOK S j) (h0 : l ≠ []) (hl : l.length < 1000) : ∃ (d : D) (S' : Sto), cl (k + 2) "_law_pick" [.ref j, .lst l] S = some (d, S') ∧ d ∈ l ∧ Fr j S S' := by
  have h1 : 0 < l.length := List.length_pos_iff.mpr h0
  obtain ⟨r, S', e, h2, h3⟩ := c_draw (k := k) (size := l.length) h h1 (by omega)
  have hx : ixf S' (.lst l) (dn r) = some l[r] := by
    simp [ixf, dn, seqOf, atD, atI, ixN, h2]
  exact ⟨l[r], S', call_of f__law_pick rfl (.inl ⟨_, xRet (eIx (eV rfl) (eCall (es1 (eV rfl) (es1 (eBlt (d := dn l.length) (es1 (eV rfl) es0) rfl) es0)) e) hx)⟩), List.getElem_mem _, h3⟩
/-- what a part does, whatever is drawn -/
def Ok (j : Nat) (S : Sto) (r : Option (D × Sto)) (P : D → Prop) : Prop := ∃ d S', r = some (d, S') ∧ P d ∧ Fr j S S'
def OkL (j : Nat) (S : Sto) (r : Option (List D × Sto)) (P : List D → Prop) : Prop := ∃ d S', r = some (d, S') ∧ P d ∧ Fr j S S'
section
variable {j : Nat} {G : Gb} {env : EnvD} {x y : E} {P Q : D → Prop} {L M : List D → Prop}
theorem oP {d : D} (h : ∀ S : Sto, ev G x env S = some (d, S)) (hj : JOK S j) (hp : P d) : Ok j S (ev G x env S) P := ⟨d, S, h S, hp, Fr.refl hj⟩
theorem oNil (hj : JOK S j) : OkL j S (evs G [] env S) fun l => l = [] := ⟨[], S, es0, rfl, Fr.refl hj⟩
theorem oCons {xs : List E} (h : Ok j S (ev G x env S) P) (h2 : ∀ S1, JOK S1 j → OkL j S1 (evs G xs env S1) L) : OkL j S (evs G (x :: xs) env S) fun l => ∃ d ds, l = d :: ds ∧ P d ∧ L ds := by
  obtain ⟨d, S1, e1, p1, f1⟩ := h
  obtain ⟨ds, S2, e2, p2, f2⟩ := h2 S1 f1.ok
  exact ⟨_, S2, es1 e1 e2, ⟨d, ds, rfl, p1, p2⟩, f1.trans f2⟩
theorem oCall {f : Str} {xs : List E} (h : OkL j S (evs G xs env S) L) (h2 : ∀ l S1, L l → JOK S1 j → Ok j S1 (G.cl f l S1) P) : Ok j S (ev G (.call f xs) env S) P := by
  obtain ⟨l, S1, e1, p1, f1⟩ := h
  obtain ⟨d, S2, e2, p2, f2⟩ := h2 l S1 p1 f1.ok
  exact ⟨d, S2, eCall e1 e2, p2, f1.trans f2⟩
theorem oBin {op : Operator} {R : D → Prop} (h : Ok j S (ev G x env S) P) (h2 : ∀ S1, JOK S1 j → Ok j S1 (ev G y env S1) Q) (h3 : ∀ a b, P a → Q b → ∃ d, (∀ S2 : Sto, binS S2 op a b = some d) ∧ R d) : Ok j S (ev G (.bin op x y) env S) R := by
  obtain ⟨a, S1, e1, p1, f1⟩ := h
  obtain ⟨b, S2, e2, p2, f2⟩ := h2 S1 f1.ok
  obtain ⟨d, e3, p3⟩ := h3 a b p1 p2
  exact ⟨d, S2, eB e1 e2 (e3 S2), p3, f1.trans f2⟩
theorem oBlt {f : Bf} {xs : List E} (h : OkL j S (evs G xs env S) L) (h2 : ∀ l, L l → ∃ d, (∀ S2 : Sto, bfun S2 f l = some d) ∧ P d) : Ok j S (ev G (.blt f xs) env S) P := by
  obtain ⟨l, S1, e1, p1, f1⟩ := h
  obtain ⟨d, e3, p3⟩ := h2 l p1
  exact ⟨d, S1, eBlt e1 (e3 S1), p3, f1⟩
theorem oLst {xs : List E} (h : OkL j S (evs G xs env S) L) (h2 : ∀ l, L l → l.length ≤ 1000) : Ok j S (ev G (.lst xs) env S) fun d => ∃ l, d = .lst l ∧ L l := by
  obtain ⟨l, S1, e1, p1, f1⟩ := h
  exact ⟨_, S1, eLst e1 (h2 l p1), ⟨l, rfl, p1⟩, f1⟩
theorem oTup {xs : List E} (h : OkL j S (evs G xs env S) L) (h2 : ∀ l, L l → l.length ≤ 1000) : Ok j S (ev G (.tup xs) env S) fun d => ∃ l, d = .tup l ∧ L l := by
  obtain ⟨l, S1, e1, p1, f1⟩ := h
  exact ⟨_, S1, eTup e1 (h2 l p1), ⟨l, rfl, p1⟩, f1⟩
theorem Ok.imp {r : Option (D × Sto)} (h : Ok j S r P) (h2 : ∀ d, P d → Q d) : Ok j S r Q := by
  obtain ⟨d, S1, e1, p1, f1⟩ := h
  exact ⟨d, S1, e1, h2 d p1, f1⟩
theorem OkL.imp {r : Option (List D × Sto)} (h : OkL j S r L) (h2 : ∀ d, L d → M d) : OkL j S r M := by
  obtain ⟨d, S1, e1, p1, f1⟩ := h
  exact ⟨d, S1, e1, h2 d p1, f1⟩
end
/-- a draw, a pick as parts; the well lies in slot 0 -/
def below (n : Nat) (d : D) : Prop := ∃ r, d = dn r ∧ r < n
theorem oDraw {j size : Nat} {env : EnvD} (h0 : env[0]? = some (some (.ref j))) {x : E} (hx : ∀ S : Sto, ev (Gk (k + 1)) x env S = some (dn size, S)) (h1 : 0 < size) (h2 : size < 1073741824) (hj : JOK S j) : Ok j S (ev (Gk (k + 1)) (.call "_law_draw" [.var 0, x]) env S) (below size) := by
  obtain ⟨r, S', e, hr, f⟩ := c_draw (k := k) hj h1 h2
  exact ⟨dn r, S', eCall (es1 (eV h0) (es1 (hx S) es0)) e, ⟨r, rfl, hr⟩, f⟩
theorem oPick {j : Nat} {env : EnvD} (h0 : env[0]? = some (some (.ref j))) {x : E} {P : D → Prop} (hx : ∀ S, JOK S j → Ok j S (ev (Gk (k + 2)) x env S) fun d => ∃ l, d = .lst l ∧ l ≠ [] ∧ l.length < 1000 ∧ ∀ e ∈ l, P e) (hj : JOK S j) : Ok j S (ev (Gk (k + 2)) (.call "_law_pick" [.var 0, x]) env S) P := by
  obtain ⟨d, S1, e1, ⟨l, rfl, hl, hl2, hp⟩, f1⟩ := hx S hj
  obtain ⟨d, S2, e2, hd, f2⟩ := c_pick (k := k) f1.ok hl hl2
  exact ⟨d, S2, eCall (es1 (eV h0) (es1 e1 es0)) e2, hp d hd, f1.trans f2⟩
end K12

namespace K12
open PySem PySem.Spec PyProof.Rows L2 Ev
variable {k : Nat} {S : Sto}
/-- a loop that appends one thing a turn -/
theorem collect {j r : Nat} {bd : D → EnvD → Option EnvD} {body : EnvD → Sto → Option (Fl × EnvD × Sto)} {I : EnvD → Prop} {P : D → Prop} (hrj : r ≠ j) : ∀ {ds : List D},
    (∀ d0 ∈ ds, ∀ env S acc, I env → JOK S j → S[r]? = some (.lst acc) → acc.length ≤ 300 → ∃ env1 env2 S1 d, bd d0 env = some env1 ∧ body env1 S = some (.nx, env2, S1.set r (.lst (acc ++ [d]))) ∧ Fr j S S1 ∧ P d ∧ I env2) →
    ∀ {env : EnvD} {S : Sto} {acc0 : List D}, I env → JOK S j → S[r]? = some (.lst acc0) → acc0.length + ds.length ≤ 300 → (∀ d ∈ acc0, P d) →
    ∃ env' S' acc, forLoop (fun _ => true) bd body ds env S = some (.nx, env', S') ∧ I env' ∧ S'[r]? = some (.lst acc) ∧ acc.length = acc0.length + ds.length ∧ (∀ d ∈ acc, P d) ∧ S.length ≤ S'.length ∧ (∀ n, n < S.length → n ≠ j → n ≠ r → S'[n]? = S[n]?) ∧ JOK S' j
  | [], _, env, S, acc0, hI, hj, hr, hl, hp => ⟨env, S, acc0, by simp only [forLoop, if_true], hI, hr, rfl, hp, Nat.le_refl _, fun _ _ _ _ => rfl, hj⟩
  | d0 :: ds, st, env, S, acc0, hI, hj, hr, hl, hp => by
    rw [List.length_cons] at hl
    obtain ⟨env1, env2, S1, d, e1, e2, f1, p1, I2⟩ := st d0 List.mem_cons_self env S acc0 hI hj hr (by omega)
    have hrl : r < S.length := (List.getElem?_eq_some_iff.mp hr).1
    have hrl1 : r < S1.length := Nat.lt_of_lt_of_le hrl f1.ln
    have hj2 : JOK (S1.set r (.lst (acc0 ++ [d]))) j := by
      obtain ⟨a, b, c, h⟩ := f1.ok
      exact ⟨a, b, c, by rw [List.getElem?_set_ne hrj]; exact h⟩
    obtain ⟨env', S', acc, e3, I3, r3, l3, p3, n3, k3, j3⟩ := collect hrj (ds := ds) (fun d0 h => st d0 (List.mem_cons_of_mem _ h)) (env := env2) (S := S1.set r (.lst (acc0 ++ [d]))) (acc0 := acc0 ++ [d]) I2 hj2 (List.getElem?_set_self hrl1) (by rw [List.length_append, List.length_singleton]; omega) (fun x hx => by
      rcases List.mem_append.mp hx with hx | hx
      · exact hp x hx
      · rw [show x = d by simpa using hx]
        exact p1)
    rw [List.length_set] at n3 k3
    refine ⟨env', S', acc, by simp only [forLoop, if_true, e1, e2]; exact e3, I3, r3, by rw [l3, List.length_append, List.length_singleton, List.length_cons]; omega, p3, Nat.le_trans f1.ln n3, fun n h1 h2 h3 => ?_, j3⟩
    rw [k3 n (Nat.lt_of_lt_of_le h1 f1.ln) h2 h3, List.getElem?_set_ne (fun z => h3 z.symm)]
    exact f1.at_ n h1 h2
theorem hiN (S : Sto) (n : Nat) (h : n < 1000000) : itemsOf S 1 [dn n] = some (nums 0 n, fun _ => true) := by
  have hr : Ev.inR (n : Int) = true := by
    unfold Ev.inR
    exact decide_eq_true (by omega)
  unfold dn
  simp only [itemsOf, hr, if_true, rangeD_nums]
theorem nums_len : ∀ (n j : Nat), (nums j n).length = n
  | 0, _ => rfl
  | n + 1, j => by simp [nums, nums_len n]
/-- found = [], then a loop, then tuple(found) -/
theorem below_mono {a b : Nat} {d : D} (h : below a d) (hab : a ≤ b) : below b d := by
  obtain ⟨r, e, h⟩ := h
  exact ⟨r, e, by omega⟩
theorem fr_end {j r : Nat} {S S1 S' : Sto} (h0 : r = S.length) (h1 : S.length ≤ S'.length) (h2 : ∀ n, n < S.length → n ≠ j → n ≠ r → S'[n]? = S[n]?) (h3 : JOK S' j) : Fr j S S' :=
  ⟨h1, fun n a b => h2 n a b (by omega), h3⟩
theorem eLt {G : Gb} {env : EnvD} {S1 : Sto} {x lo hi : E} {d e : D} {b : Int} (hx : ev G x env S = some (d, S1)) (hh : ev G hi env S1 = some (.int b, S1)) (h : slf S1 d none (some b) = some e) : ev G (.sl x false true lo hi) env S = some (e, S1) := by simp only [ev, hx, hh, h]
theorem eLf {G : Gb} {env : EnvD} {S1 : Sto} {x lo hi : E} {d e : D} {b : Int} (hx : ev G x env S = some (d, S1)) (hh : ev G lo env S1 = some (.int b, S1)) (h : slf S1 d (some b) none = some e) : ev G (.sl x true false lo hi) env S = some (e, S1) := by simp only [ev, hx, hh, h]
theorem eLtf {G : Gb} {env : EnvD} {S1 : Sto} {x lo hi : E} {d e : D} {a b : Int} (hx : ev G x env S = some (d, S1)) (hl : ev G lo env S1 = some (.int a, S1)) (hh : ev G hi env S1 = some (.int b, S1)) (h : slf S1 d (some a) (some b) = some e) : ev G (.sl x true true lo hi) env S = some (e, S1) := by simp only [ev, hx, hl, hh, h]
/-! _law_words -/
def bW : List T := [(.asg (.name 5) (.blt .max [(.cst (.int 0)), (.bin .Add (.bin .Sub (.var 2) (.cst (.int 2))) (.call "_law_draw" [(.var 0), (.cst (.int 4))]))])), (.asg (.name 6) (.newl [(.call "_law_draw" [(.var 0), (.cst (.int 7))]), (.var 5), (.call "_law_draw" [(.var 0), (.cst (.int 300))]), (.call "_law_draw" [(.var 0), (.cst (.int 65536))]), (.bin .Sub (.cst (.int 65535)) (.call "_law_draw" [(.var 0), (.cst (.int 3))]))])), (.append (.var 3) (.call "_law_pick" [(.var 0), (.bin .Add (.sl (.var 6) false true (.cst .non) (.cst (.int 3))) (.var 6))]))]
theorem words_eq : t__law_words = [(.asg (.name 3) (.newl [])), (.for' [4] true 1 [(.var 1)] bW), (.ret (.blt .tuple [(.var 3)]))] := rfl
theorem words_turn {j r many far : Nat} {x4 x5 x6 : Option D} {acc : List D} {d0 : D} (hfar : far ≤ 1000) (hrj : r ≠ j) (hj : JOK S j) (hr : S[r]? = some (.lst acc)) (hl : acc.length ≤ 300) :
    ∃ env2 S1 d, exs (Gk (k + 2)) 20 bW [some (.ref j), some (dn many), some (dn far), some (.ref r), some d0, x5, x6] S = some (.nx, env2, S1.set r (.lst (acc ++ [d]))) ∧ Fr j S S1 ∧ below 65536 d ∧ ∃ y5 y6, env2 = [some (.ref j), some (dn many), some (dn far), some (.ref r), some d0, y5, y6] := by
  have hrl : r < S.length := (List.getElem?_eq_some_iff.mp hr).1
  have dr : ∀ (n : Nat) (env : EnvD) (S : Sto), env[0]? = some (some (.ref j)) → 0 < n → n < 1073741824 → JOK S j → Ok j S (ev (Gk (k + 2)) (.call "_law_draw" [.var 0, .cst (dn n)]) env S) (below n) := fun n env S h0 h1 h2 hj => oDraw (k := k + 1) h0 (fun _ => eC) h1 h2 hj
  -- near
  obtain ⟨d1, S1, e1, ⟨r1, rfl, h1⟩, f1⟩ := dr 4 [some (.ref j), some (dn many), some (dn far), some (.ref r), some d0, x5, x6] S rfl (by decide) (by decide) hj
  have n0 : ∃ near : Nat, near ≤ far + 2 ∧ ev (Gk (k + 2)) (.blt .max [(.cst (.int 0)), (.bin .Add (.bin .Sub (.var 2) (.cst (.int 2))) (.call "_law_draw" [(.var 0), (.cst (.int 4))]))]) [some (.ref j), some (dn many), some (dn far), some (.ref r), some d0, x5, x6] S = some (dn near, S1) := by
    refine ⟨((far : Int) - 2 + r1).toNat, by omega, ?_⟩
    have ee : ev (Gk (k + 2)) (.bin .Add (.bin .Sub (.var 2) (.cst (.int 2))) (.call "_law_draw" [(.var 0), (.cst (.int 4))])) [some (.ref j), some (dn many), some (dn far), some (.ref r), some d0, x5, x6] S = some (.int ((far : Int) - 2 + r1), S1) :=
      eB (eB (eV rfl) eC (binS_of (i := (far : Int)) (j := 2) rfl)) e1 (binS_of rfl)
    refine eBlt (es1 eC (es1 ee es0)) ?_
    show some (D.int (if (far : Int) - 2 + r1 > 0 then (far : Int) - 2 + r1 else 0)) = _
    unfold dn
    congr 2
    split <;> omega
  obtain ⟨near, hn, e2⟩ := n0
  -- some
  have envA : ∀ x : Option D, ([some (.ref j), some (dn many), some (dn far), some (.ref r), some d0, some (dn near), x] : EnvD)[0]? = some (some (.ref j)) := fun _ => rfl
  obtain ⟨d2, S2, e3, ⟨r2, rfl, h2⟩, f2⟩ := dr 7 [some (.ref j), some (dn many), some (dn far), some (.ref r), some d0, some (dn near), x6] S1 rfl (by decide) (by decide) f1.ok
  obtain ⟨d3, S3, e4, ⟨r3, rfl, h3⟩, f3⟩ := dr 300 [some (.ref j), some (dn many), some (dn far), some (.ref r), some d0, some (dn near), x6] S2 rfl (by decide) (by decide) f2.ok
  obtain ⟨d4, S4, e5, ⟨r4, rfl, h4⟩, f4⟩ := dr 65536 [some (.ref j), some (dn many), some (dn far), some (.ref r), some d0, some (dn near), x6] S3 rfl (by decide) (by decide) f3.ok
  obtain ⟨d5, S5, e6, ⟨r5, rfl, h5⟩, f5⟩ := dr 3 [some (.ref j), some (dn many), some (dn far), some (.ref r), some d0, some (dn near), x6] S4 rfl (by decide) (by decide) f4.ok
  have e7 : ev (Gk (k + 2)) (.newl [(.call "_law_draw" [(.var 0), (.cst (.int 7))]), (.var 5), (.call "_law_draw" [(.var 0), (.cst (.int 300))]), (.call "_law_draw" [(.var 0), (.cst (.int 65536))]), (.bin .Sub (.cst (.int 65535)) (.call "_law_draw" [(.var 0), (.cst (.int 3))]))]) [some (.ref j), some (dn many), some (dn far), some (.ref r), some d0, some (dn near), x6] S1 = some (.ref S5.length, S5 ++ [.lst [dn r2, dn near, dn r3, dn r4, dn (65535 - r5)]]) :=
    eNew (es1 e3 (es1 (eV rfl) (es1 e4 (es1 e5 (es1 (eB eC e6 (b_sub5 r5 (by omega))) es0))))) (by simp)
  have f6 := Fr.app f5.ok [.lst [dn r2, dn near, dn r3, dn r4, dn (65535 - r5)]]
  have fA := f1.trans (f2.trans (f3.trans (f4.trans (f5.trans f6))))
  -- pick
  have e8 : ev (Gk (k + 2)) (.bin .Add (.sl (.var 6) false true (.cst .non) (.cst (.int 3))) (.var 6)) [some (.ref j), some (dn many), some (dn far), some (.ref r), some d0, some (dn near), some (.ref S5.length)] (S5 ++ [.lst [dn r2, dn near, dn r3, dn r4, dn (65535 - r5)]]) = some (.lst ([dn r2, dn near, dn r3] ++ [dn r2, dn near, dn r3, dn r4, dn (65535 - r5)]), S5 ++ [.lst [dn r2, dn near, dn r3, dn r4, dn (65535 - r5)]]) := by
    have s1 : slf (S5 ++ [.lst [dn r2, dn near, dn r3, dn r4, dn (65535 - r5)]]) (.ref S5.length) none (some 3) = some (.lst [dn r2, dn near, dn r3]) := by
      simp only [slf, seqOf, at_new]
      rfl
    refine eB (eLt (eV rfl) eC s1) (eV rfl) ?_
    simp only [binS, bop, catS, refL, at_new]
    rw [if_pos (by rw [sizeLine_eq]; simp)]
  obtain ⟨d, S7, e9, hd, f7⟩ := c_pick (k := k) (S := S5 ++ [.lst [dn r2, dn near, dn r3, dn r4, dn (65535 - r5)]]) (l := [dn r2, dn near, dn r3] ++ [dn r2, dn near, dn r3, dn r4, dn (65535 - r5)]) f6.ok (by simp) (by simp)
  have hd2 : below 65536 d := by
    simp only [List.cons_append, List.nil_append, List.mem_cons, List.not_mem_nil, or_false] at hd
    rcases hd with rfl | rfl | rfl | rfl | rfl | rfl | rfl | rfl <;> exact ⟨_, rfl, by omega⟩
  have fB := fA.trans f7
  have hr6 : (S5 ++ [.lst [dn r2, dn near, dn r3, dn r4, dn (65535 - r5)]])[r]? = some (.lst acc) := by rw [fA.at_ r hrl hrj]; exact hr
  have hr7 : S7[r]? = some (.lst acc) := by rw [fB.at_ r hrl hrj]; exact hr
  refine ⟨_, S7, d, xAsg (i := 5) e2 (xAsg (i := 6) e7 (xApp (eV rfl) ?_ (eCall (es1 (eV rfl) (es1 e8 es0)) e9) hr7 (by omega) xNil)), fB, hd2, _, _, rfl⟩
  unfold isL
  rw [hr6]
theorem c_words {j many far : Nat} (hj : JOK S j) (hm : many ≤ 200) (hfar : far ≤ 1000) : ∃ ws S', cl (k + 3) "_law_words" [.ref j, dn many, dn far] S = some (.tup ws, S') ∧ ws.length = many ∧ (∀ d ∈ ws, below 65536 d) ∧ Fr j S S' := by
  have hrj : S.length ≠ j := Nat.ne_of_gt hj.lt
  obtain ⟨env', S', acc, e, ⟨x4, x5, x6, rfl⟩, r3, l3, p3, n3, k3, j3⟩ := collect (j := j) (r := S.length) (bd := bindT [4] true) (body := exs (Gk (k + 2)) 20 bW) (I := fun env => ∃ x4 x5 x6, env = [some (.ref j), some (dn many), some (dn far), some (.ref S.length), x4, x5, x6]) (P := below 65536) hrj (ds := nums 0 many)
    (by
      rintro d0 _ env S1 acc ⟨x4, x5, x6, rfl⟩ h1 h2 h3
      obtain ⟨env2, S2, d, e1, f, p, y5, y6, rfl⟩ := words_turn (k := k) (S := S1) (x4 := x4) (x5 := x5) (x6 := x6) (d0 := d0) (many := many) hfar hrj h1 h2 h3
      exact ⟨_, _, S2, d, rfl, e1, f, p, _, _, _, rfl⟩)
    (env := [some (.ref j), some (dn many), some (dn far), some (.ref S.length), none, none, none]) (S := S ++ [.lst []]) (acc0 := []) ⟨_, _, _, rfl⟩ (Fr.app hj _).ok at_new (by rw [nums_len, List.length_nil]; omega) (fun d hd => by cases hd)
  rw [nums_len, List.length_nil, Nat.zero_add] at l3
  rw [List.length_append, List.length_singleton] at n3 k3
  have hf : Fr j S S' := ⟨by omega, fun n a b => by
    rw [k3 n (by omega) b (by omega)]
    exact List.getElem?_append_left a, j3⟩
  refine ⟨acc, S', call_of f__law_words rfl (.inl ?_), l3, p3, hf⟩
  rw [words_eq]
  have e0 : ev (Gk (k + 2)) (.newl []) [some (.ref j), some (dn many), some (dn far), none, none, none, none] S = some (.ref S.length, S ++ [.lst []]) := eNew es0 (by simp)
  refine ⟨_, xAsg (i := 3) e0 (xFor (es1 (eV rfl) es0) (hiN _ _ (by omega)) e (xRet (eBlt (es1 (eV rfl) es0) ?_)))⟩
  simp only [bfun, seqOf, r3, Option.map_some]
end K12

namespace K12
open PySem PySem.Spec PyProof.Rows L2 Ev
variable {k : Nat} {S : Sto}
/-! one thing appended a turn, whatever it is -/
theorem app_turn {j r : Nat} {G : Gb} {env : EnvD} {x : E} {fi : Nat} {acc : List D} {P : D → Prop} (h0 : env[fi]? = some (some (.ref r))) (hrj : r ≠ j) (hr : S[r]? = some (.lst acc)) (hl : acc.length ≤ 300) (h : Ok j S (ev G x env S) P) :
    ∃ S1 d, exs G 20 [.append (.var fi) x] env S = some (.nx, env, S1.set r (.lst (acc ++ [d]))) ∧ Fr j S S1 ∧ P d := by
  obtain ⟨d, S1, e, p, f⟩ := h
  have hrl : r < S.length := (List.getElem?_eq_some_iff.mp hr).1
  refine ⟨S1, d, xApp (eV h0) ?_ e (by rw [f.at_ r hrl hrj]; exact hr) (by omega) xNil, f, p⟩
  unfold isL
  rw [hr]
/-- found = [] held; a loop; tuple(found): the loop's own part -/
theorem tuple_loop {j : Nat} {G : Gb} {tg : List Nat} {one : Bool} {kd : Nat} {its : List E} {body : List T} {ds : List D} {env0 env1 : EnvD} {fi n : Nat} {I : EnvD → Prop} {P : D → Prop} {as : List D} {rest : List T} {R : Option (Fl × EnvD × Sto)}
    (hj : JOK S j) (hits : evs G its env1 (S ++ [.lst []]) = some (as, S ++ [.lst []])) (hit2 : itemsOf (S ++ [.lst []]) kd as = some (ds, fun _ => true)) (hn : ds.length ≤ 300) (hI : I env1)
    (hfi : ∀ env, I env → env[fi]? = some (some (.ref S.length)))
    (step : ∀ d0 ∈ ds, ∀ env S1 acc, I env → JOK S1 j → S1[S.length]? = some (.lst acc) → acc.length ≤ 300 → ∃ env1 env2 S2 d, bindT tg one d0 env = some env1 ∧ exs G 20 body env1 S1 = some (.nx, env2, S2.set S.length (.lst (acc ++ [d]))) ∧ Fr j S1 S2 ∧ P d ∧ I env2) :
    ∃ env' S' acc, exs G 20 (.for' tg one kd its body :: [.ret (.blt .tuple [(.var fi)])]) env1 (S ++ [.lst []]) = some (.rt (.tup acc), env', S') ∧ acc.length = ds.length ∧ (∀ d ∈ acc, P d) ∧ Fr j S S' := by
  have hrj : S.length ≠ j := Nat.ne_of_gt hj.lt
  obtain ⟨env', S', acc, e, hI', r3, l3, p3, n3, k3, j3⟩ := collect (j := j) (r := S.length) (bd := bindT tg one) (body := exs G 20 body) (I := I) (P := P) hrj (ds := ds) step (env := env1) (S := S ++ [.lst []]) (acc0 := []) hI (Fr.app hj _).ok at_new (by rw [List.length_nil]; omega) (fun d hd => by cases hd)
  rw [List.length_nil, Nat.zero_add] at l3
  rw [List.length_append, List.length_singleton] at n3 k3
  have hf : Fr j S S' := ⟨by omega, fun n a b => by
    rw [k3 n (by omega) b (by omega)]
    exact List.getElem?_append_left a, j3⟩
  refine ⟨env', S', acc, xFor hits hit2 e (xRet (eBlt (es1 (eV (hfi _ hI')) es0) ?_)), l3, p3, hf⟩
  simp only [bfun, seqOf, r3, Option.map_some]
/-! _law_bytes -/
def bBy : List T := [(.append (.var 2) (.call "_law_pick" [(.var 0), (.lst [(.cst (.int 0)), (.cst (.int 1)), (.cst (.int 8)), (.cst (.int 255)), (.call "_law_draw" [(.var 0), (.cst (.int 256))])])]))]
theorem by_eq : t__law_bytes = [(.asg (.name 2) (.newl [])), (.for' [3] true 1 [(.var 1)] bBy), (.ret (.blt .tuple [(.var 2)]))] := rfl
theorem lst_ok {j : Nat} {G : Gb} {env : EnvD} {xs : List E} {L : List D → Prop} {P : D → Prop} (h : OkL j S (evs G xs env S) L) (h2 : ∀ l, L l → l ≠ [] ∧ l.length < 1000 ∧ ∀ e ∈ l, P e) : Ok j S (ev G (.lst xs) env S) fun d => ∃ l, d = .lst l ∧ l ≠ [] ∧ l.length < 1000 ∧ ∀ e ∈ l, P e :=
  (oLst h fun l hl => by have := (h2 l hl).2.1; omega).imp fun d ⟨l, e, hl⟩ => ⟨l, e, h2 l hl⟩
theorem oC {j : Nat} {G : Gb} {env : EnvD} {d : D} {P : D → Prop} (hj : JOK S j) (hp : P d) : Ok j S (ev G (.cst d) env S) P := oP (fun _ => eC) hj hp
theorem oV {j i : Nat} {G : Gb} {env : EnvD} {d : D} {P : D → Prop} (h : env[i]? = some (some d)) (hj : JOK S j) (hp : P d) : Ok j S (ev G (.var i) env S) P := oP (fun _ => eV h) hj hp
/-- all of a written list, each within P -/
theorem oAll {j : Nat} {G : Gb} {env : EnvD} {P : D → Prop} : ∀ {xs : List E} {S : Sto}, (∀ x ∈ xs, ∀ S, JOK S j → Ok j S (ev G x env S) P) → JOK S j → OkL j S (evs G xs env S) fun l => l.length = xs.length ∧ ∀ e ∈ l, P e
  | [], _, _, hj => (oNil hj).imp fun l h => by subst h; exact ⟨rfl, fun e he => by cases he⟩
  | x :: xs, S, h, hj => (oCons (h x List.mem_cons_self S hj) fun S1 h1 => oAll (fun y hy => h y (List.mem_cons_of_mem _ hy)) h1).imp fun l ⟨d, ds, e, p, hl, hp⟩ => by
      subst e
      refine ⟨by rw [List.length_cons, List.length_cons, hl], fun e he => ?_⟩
      rcases List.mem_cons.mp he with rfl | he
      · exact p
      · exact hp e he
theorem oPickL {j : Nat} {env : EnvD} (h0 : env[0]? = some (some (.ref j))) {xs : List E} {P : D → Prop} (hx : ∀ x ∈ xs, ∀ S, JOK S j → Ok j S (ev (Gk (k + 2)) x env S) P) (h1 : xs ≠ []) (h2 : xs.length < 1000) (hj : JOK S j) : Ok j S (ev (Gk (k + 2)) (.call "_law_pick" [.var 0, .lst xs]) env S) P :=
  oPick h0 (fun S hj => lst_ok (oAll hx hj) fun l ⟨hl, hp⟩ => ⟨fun z => h1 (List.eq_nil_of_length_eq_zero (by rw [← hl, z]; rfl)), by omega, hp⟩) hj
theorem c_bytes {j many : Nat} (hj : JOK S j) (hm : many ≤ 256) : ∃ ws S', cl (k + 3) "_law_bytes" [.ref j, dn many] S = some (.tup ws, S') ∧ ws.length = many ∧ (∀ d ∈ ws, below 256 d) ∧ Fr j S S' := by
  have hrj : S.length ≠ j := Nat.ne_of_gt hj.lt
  obtain ⟨env', S', acc, e, l3, p3, hf⟩ := tuple_loop (S := S) (j := j) (G := Gk (k + 2)) (tg := [3]) (one := true) (kd := 1) (its := [(.var 1)]) (body := bBy) (ds := nums 0 many) (env0 := []) (env1 := [some (.ref j), some (dn many), some (.ref S.length), none]) (fi := 2) (n := 0) (rest := []) (R := none)
    (I := fun env => ∃ x3, env = [some (.ref j), some (dn many), some (.ref S.length), x3]) (P := below 256) hj (es1 (eV rfl) es0) (hiN _ _ (by omega)) (by rw [nums_len]; omega) ⟨_, rfl⟩ (by rintro env ⟨x3, rfl⟩; rfl) (by
      rintro d0 _ env S1 acc ⟨x3, rfl⟩ h1 h2 h3
      have hp : Ok j S1 (ev (Gk (k + 2)) (.call "_law_pick" [(.var 0), (.lst [(.cst (.int 0)), (.cst (.int 1)), (.cst (.int 8)), (.cst (.int 255)), (.call "_law_draw" [(.var 0), (.cst (.int 256))])])]) [some (.ref j), some (dn many), some (.ref S.length), some d0] S1) (below 256) := by
        refine oPickL rfl (fun x hx S hj => ?_) (by simp) (by simp) h1
        simp only [List.mem_cons, List.not_mem_nil, or_false] at hx
        rcases hx with rfl | rfl | rfl | rfl | rfl
        · exact oC hj ⟨0, rfl, by decide⟩
        · exact oC hj ⟨1, rfl, by decide⟩
        · exact oC hj ⟨8, rfl, by decide⟩
        · exact oC hj ⟨255, rfl, by decide⟩
        · exact oDraw (k := k + 1) (size := 256) rfl (fun _ => eC) (by decide) (by decide) hj
      obtain ⟨S2, d, e1, f1, p1⟩ := app_turn (fi := 2) rfl hrj h2 h3 hp
      exact ⟨_, _, S2, d, rfl, e1, f1, p1, _, rfl⟩)
  rw [nums_len] at l3
  refine ⟨acc, S', call_of f__law_bytes rfl (.inl ?_), l3, p3, hf⟩
  rw [by_eq]
  have e0 : ev (Gk (k + 2)) (.newl []) [some (.ref j), some (dn many), none, none] S = some (.ref S.length, S ++ [.lst []]) := eNew es0 (by simp)
  exact ⟨_, xAsg (i := 2) e0 e⟩
/-! _law_kinds -/
def KindP (d : D) : Prop := ∃ (s : Str) (a m : Nat), d = .tup [.str s, dn a, dn m] ∧ (s = "array" ∨ s = "pairs") ∧ m ≤ 16
def bK : List T := [(.asg (.name 3) (.call "_law_pick" [(.var 0), (.lst [(.cst (.str "array")), (.cst (.str "pairs"))])])), (.asg (.name 4) (.call "_law_pick" [(.var 0), (.lst [(.cst (.int 4)), (.cst (.int 8)), (.cst (.int 5)), (.cst (.int 1)), (.cst (.int 16)), (.cst (.int 3))])])), (.append (.var 1) (.tup [(.var 3), (.call "_law_pick" [(.var 0), (.lst [(.cst (.int 1)), (.cst (.int 1)), (.cst (.int 0))])]), (.var 4)]))]
theorem kinds_eq : t__law_kinds = [(.asg (.name 1) (.newl [])), (.for' [2] true 1 [(.call "_law_pick" [(.var 0), (.lst [(.cst (.int 2)), (.cst (.int 1)), (.cst (.int 3)), (.cst (.int 2)), (.cst (.int 0))])])] bK), (.ret (.blt .tuple [(.var 1)]))] := rfl
theorem c_kinds {j : Nat} (hj : JOK S j) : ∃ ks S', cl (k + 3) "_law_kinds" [.ref j] S = some (.tup ks, S') ∧ ks.length ≤ 3 ∧ (∀ d ∈ ks, KindP d) ∧ Fr j S S' := by
  have hrj : S.length ≠ j := Nat.ne_of_gt hj.lt
  have fA := Fr.app hj [.lst []]
  obtain ⟨d0, S1, e1, ⟨n, rfl, hn⟩, f1⟩ := oPickL (k := k) (j := j) (S := S ++ [.lst []]) (env := [some (.ref j), some (.ref S.length), none, none, none]) (xs := [(.cst (.int 2)), (.cst (.int 1)), (.cst (.int 3)), (.cst (.int 2)), (.cst (.int 0))]) (P := below 4) rfl (fun x hx S hj => by
    simp only [List.mem_cons, List.not_mem_nil, or_false] at hx
    rcases hx with rfl | rfl | rfl | rfl | rfl
    · exact oC hj ⟨2, rfl, by decide⟩
    · exact oC hj ⟨1, rfl, by decide⟩
    · exact oC hj ⟨3, rfl, by decide⟩
    · exact oC hj ⟨2, rfl, by decide⟩
    · exact oC hj ⟨0, rfl, by decide⟩) (by simp) (by simp) fA.ok
  have hr1 : S1[S.length]? = some (.lst []) := by
    rw [f1.at_ S.length (by simp) hrj]
    exact at_new
  obtain ⟨env', S', acc, e, ⟨x2, x3, x4, rfl⟩, r3, l3, p3, n3, k3, j3⟩ := collect (j := j) (r := S.length) (bd := bindT [2] true) (body := exs (Gk (k + 2)) 20 bK) (I := fun env => ∃ x2 x3 x4, env = [some (.ref j), some (.ref S.length), x2, x3, x4]) (P := KindP) hrj (ds := nums 0 n)
    (by
      rintro d0 _ env S1 acc ⟨x2, x3, x4, rfl⟩ h1 h2 h3
      obtain ⟨d1, S2, a1, ⟨s, rfl, hs⟩, f1⟩ := oPickL (k := k) (j := j) (S := S1) (env := [some (.ref j), some (.ref S.length), some d0, x3, x4]) (xs := [(.cst (.str "array")), (.cst (.str "pairs"))]) (P := fun d => ∃ s : Str, d = .str s ∧ (s = "array" ∨ s = "pairs")) rfl (fun x hx S hj => by
        simp only [List.mem_cons, List.not_mem_nil, or_false] at hx
        rcases hx with rfl | rfl
        · exact oC hj ⟨_, rfl, .inl rfl⟩
        · exact oC hj ⟨_, rfl, .inr rfl⟩) (by simp) (by simp) h1
      obtain ⟨d2, S3, a2, ⟨m, rfl, hm⟩, f2⟩ := oPickL (k := k) (j := j) (S := S2) (env := [some (.ref j), some (.ref S.length), some d0, some (.str s), x4]) (xs := [(.cst (.int 4)), (.cst (.int 8)), (.cst (.int 5)), (.cst (.int 1)), (.cst (.int 16)), (.cst (.int 3))]) (P := below 17) rfl (fun x hx S hj => by
        simp only [List.mem_cons, List.not_mem_nil, or_false] at hx
        rcases hx with rfl | rfl | rfl | rfl | rfl | rfl
        · exact oC hj ⟨4, rfl, by decide⟩
        · exact oC hj ⟨8, rfl, by decide⟩
        · exact oC hj ⟨5, rfl, by decide⟩
        · exact oC hj ⟨1, rfl, by decide⟩
        · exact oC hj ⟨16, rfl, by decide⟩
        · exact oC hj ⟨3, rfl, by decide⟩) (by simp) (by simp) f1.ok
      obtain ⟨d3, S4, a3, ⟨a, rfl, ha⟩, f3⟩ := oPickL (k := k) (j := j) (S := S3) (env := [some (.ref j), some (.ref S.length), some d0, some (.str s), some (dn m)]) (xs := [(.cst (.int 1)), (.cst (.int 1)), (.cst (.int 0))]) (P := below 2) rfl (fun x hx S hj => by
        simp only [List.mem_cons, List.not_mem_nil, or_false] at hx
        rcases hx with rfl | rfl | rfl
        · exact oC hj ⟨1, rfl, by decide⟩
        · exact oC hj ⟨1, rfl, by decide⟩
        · exact oC hj ⟨0, rfl, by decide⟩) (by simp) (by simp) f2.ok
      have fX := f1.trans f2
      have hrl : S.length < S1.length := (List.getElem?_eq_some_iff.mp h2).1
      obtain ⟨S5, d, e1, f5, p5⟩ := app_turn (S := S3) (j := j) (r := S.length) (G := Gk (k + 2)) (env := [some (.ref j), some (.ref S.length), some d0, some (.str s), some (dn m)]) (x := (.tup [(.var 3), (.call "_law_pick" [(.var 0), (.lst [(.cst (.int 1)), (.cst (.int 1)), (.cst (.int 0))])]), (.var 4)])) (fi := 1) (acc := acc) (P := KindP) rfl hrj (by rw [fX.at_ _ hrl hrj]; exact h2) h3
        ⟨_, S4, eTup (es1 (eV rfl) (es1 a3 (es1 (eV rfl) es0))) (by simp), ⟨s, a, m, rfl, hs, by omega⟩, f3⟩
      exact ⟨_, _, S5, d, rfl, xAsg (i := 3) a1 (xAsg (i := 4) a2 e1), fX.trans f5, p5, _, _, _, rfl⟩)
    (env := [some (.ref j), some (.ref S.length), none, none, none]) (S := S1) (acc0 := []) ⟨_, _, _, rfl⟩ f1.ok hr1 (by rw [nums_len, List.length_nil]; omega) (fun d hd => by cases hd)
  rw [nums_len, List.length_nil, Nat.zero_add] at l3
  have fB := fA.trans f1
  have hf : Fr j S S' := ⟨Nat.le_trans fB.ln n3, fun n a b => by
    rw [k3 n (Nat.lt_of_lt_of_le a fB.ln) b (by omega)]
    exact fB.at_ n a b, j3⟩
  refine ⟨acc, S', call_of f__law_kinds rfl (.inl ?_), by omega, p3, hf⟩
  rw [kinds_eq]
  have e0 : ev (Gk (k + 2)) (.newl []) [some (.ref j), none, none, none, none] S = some (.ref S.length, S ++ [.lst []]) := eNew es0 (by simp)
  refine ⟨_, xAsg (i := 1) e0 (xFor (es1 e1 es0) (hiN _ _ (by omega)) e (xRet (eBlt (es1 (eV rfl) es0) ?_)))⟩
  simp only [bfun, seqOf, r3, Option.map_some]
/-! _law_cells -/
theorem ix_at {S : Sto} {l : List D} {n : Nat} {d : D} (h : l[n]? = some d) : ixf S (.tup l) (dn n) = some d := by
  have hl : n < l.length := (List.getElem?_eq_some_iff.mp h).1
  simp [ixf, dn, seqOf, atD, atI, ixN, hl]
  exact (List.getElem?_eq_some_iff.mp h).2
def bCe : List T := [(.asg (.name 3) (.bin .Add (.bin .Add (.var 3) (.cst (.int 1))) (.call "_law_draw" [(.var 0), (.cst (.int 4))]))), (.append (.var 2) (.tup [(.var 3), (.call "_law_draw" [(.var 0), (.cst (.int 70))])]))]
theorem cells_eq : t__law_cells = [(.par [2, 3] [(.newl []), (.neg (.cst (.int 1)))]), (.ife (.cmp .Eq (.idx (.var 1) (.cst (.int 0))) (.cst (.str "array"))) [(.ret (.call "_law_words" [(.var 0), (.idx (.var 1) (.cst (.int 2))), (.cst (.int 9))]))] []), (.for' [4] true 1 [(.call "_law_draw" [(.var 0), (.bin .Add (.idx (.var 1) (.cst (.int 2))) (.cst (.int 1)))])] bCe), (.ret (.blt .tuple [(.var 2)]))] := rfl
theorem eCallc {G : Gb} {S1 : Sto} {env : EnvD} {f : Str} {xs : List E} {ds : List D} {r : D × Sto} (hG : G = Gk k) (hs : evs G xs env S = some (ds, S1)) (h : cl k f ds S1 = some r) : ev G (.call f xs) env S = some r := by
  subst hG
  exact eCall hs h
theorem ne_ap : decide (("pairs" : Str) = "array") = false := by decide +kernel
theorem c_cells {j : Nat} {d : D} (hj : JOK S j) (hd : KindP d) : ∃ ks S', cl (k + 4) "_law_cells" [.ref j, d] S = some (.tup ks, S') ∧ ks.length ≤ 16 ∧ Fr j S S' := by
  obtain ⟨s, a, m, rfl, hs, hm⟩ := hd
  have fA := Fr.app hj [.lst []]
  have hneg : ∀ (env : EnvD) (S1 : Sto), ev (Gk (k + 3)) (.neg (.cst (.int 1))) env S1 = some (.int (-1), S1) := fun _ _ => by simp only [ev]
  have e0 : evs (Gk (k + 3)) [(.newl []), (.neg (.cst (.int 1)))] [some (.ref j), some (.tup [.str s, dn a, dn m]), none, none, none] S = some ([.ref S.length, .int (-1)], S ++ [.lst []]) := es1 (eNew es0 (by simp)) (es1 (hneg _ _) es0)
  have i0 : ixf (S ++ [.lst []]) (.tup [.str s, dn a, dn m]) (.int 0) = some (.str s) := ix_at (n := 0) rfl
  have i2 : ∀ S : Sto, ixf S (.tup [.str s, dn a, dn m]) (.int 2) = some (dn m) := fun S => ix_at (n := 2) rfl
  have q0 : ev (Gk (k + 3)) (.cmp .Eq (.idx (.var 1) (.cst (.int 0))) (.cst (.str "array"))) [some (.ref j), some (.tup [.str s, dn a, dn m]), some (.ref S.length), some (.int (-1)), none] (S ++ [.lst []]) = some (.bl (decide (s = "array")), S ++ [.lst []]) := eQ (eIx (eV rfl) eC i0) eC rfl
  rcases hs with rfl | rfl
  · rw [decide_eq_true rfl] at q0
    obtain ⟨ws, S', e, hl, hp, f⟩ := c_words (k := k) (S := S ++ [.lst []]) (j := j) (many := m) (far := 9) fA.ok (by omega) (by omega)
    refine ⟨ws, S', call_of f__law_cells rfl (.inl ?_), by omega, fA.trans f⟩
    rw [cells_eq]
    have e9 : evs (Gk (k + 3)) [(.var 0), (.idx (.var 1) (.cst (.int 2))), (.cst (.int 9))] [some (.ref j), some (.tup [.str "array", dn a, dn m]), some (.ref S.length), some (.int (-1)), none] (S ++ [.lst []]) = some ([.ref j, dn m, dn 9], S ++ [.lst []]) := es1 (eV rfl) (es1 (eIx (eV rfl) eC (i2 _)) (es1 eC es0))
    have e10 : ev (Gk (k + 3)) (.call "_law_words" [(.var 0), (.idx (.var 1) (.cst (.int 2))), (.cst (.int 9))]) [some (.ref j), some (.tup [.str "array", dn a, dn m]), some (.ref S.length), some (.int (-1)), none] (S ++ [.lst []]) = some (.tup ws, S') := eCallc (k := k + 3) rfl e9 e
    have e11 : setAll [2, 3] [.ref S.length, .int (-1)] (startD ⟨["well", "kind"], 5, t__law_cells⟩ [.ref j, .tup [.str "array", dn a, dn m]]) = some [some (.ref j), some (.tup [.str "array", dn a, dn m]), some (.ref S.length), some (.int (-1)), none] := rfl
    exact ⟨_, xPar e0 e11 (xIfT q0 (xRet e10))⟩
  · rw [ne_ap] at q0
    have hrj : S.length ≠ j := Nat.ne_of_gt hj.lt
    obtain ⟨d0, S1, e1, ⟨n, rfl, hn⟩, f1⟩ := oDraw (k := k + 2) (j := j) (size := m + 1) (S := S ++ [.lst []]) (env := [some (.ref j), some (.tup [.str "pairs", dn a, dn m]), some (.ref S.length), some (.int (-1)), none]) (x := (.bin .Add (.idx (.var 1) (.cst (.int 2))) (.cst (.int 1)))) rfl (fun S => eB (eIx (eV rfl) eC (i2 S)) eC (p1 m S)) (by omega) (by omega) fA.ok
    have hr1 : S1[S.length]? = some (.lst []) := by
      rw [f1.at_ S.length (by simp) hrj]
      exact at_new
    obtain ⟨env', S', acc, e, ⟨x3, x4, rfl⟩, r3, l3, p3, n3, k3, j3⟩ := collect (j := j) (r := S.length) (bd := bindT [4] true) (body := exs (Gk (k + 3)) 20 bCe) (I := fun env => ∃ (x3 : Int) (x4 : Option D), env = [some (.ref j), some (.tup [.str "pairs", dn a, dn m]), some (.ref S.length), some (.int x3), x4]) (P := fun _ => True) hrj (ds := nums 0 n)
      (by
        rintro d0 _ env S1 acc ⟨x3, x4, rfl⟩ h1 h2 h3
        have hrl : S.length < S1.length := (List.getElem?_eq_some_iff.mp h2).1
        obtain ⟨d1, S2, a1, ⟨r1, rfl, _⟩, f1⟩ := oDraw (k := k + 2) (j := j) (size := 4) (S := S1) (env := [some (.ref j), some (.tup [.str "pairs", dn a, dn m]), some (.ref S.length), some (.int x3), some d0]) (x := .cst (.int 4)) rfl (fun S => eC) (by omega) (by omega) h1
        obtain ⟨d2, S3, a2, ⟨r2, rfl, _⟩, f2⟩ := oDraw (k := k + 2) (j := j) (size := 70) (S := S2) (env := [some (.ref j), some (.tup [.str "pairs", dn a, dn m]), some (.ref S.length), some (.int (x3 + 1 + r1)), some d0]) (x := .cst (.int 70)) rfl (fun S => eC) (by omega) (by omega) f1.ok
        obtain ⟨S5, d, b1, f5, p5⟩ := app_turn (S := S2) (j := j) (r := S.length) (G := Gk (k + 3)) (env := [some (.ref j), some (.tup [.str "pairs", dn a, dn m]), some (.ref S.length), some (.int (x3 + 1 + r1)), some d0]) (x := (.tup [(.var 3), (.call "_law_draw" [(.var 0), (.cst (.int 70))])])) (fi := 2) (acc := acc) (P := fun _ => True) rfl hrj (by rw [f1.at_ _ hrl hrj]; exact h2) h3
          ⟨_, S3, eTup (es1 (eV rfl) (es1 a2 es0)) (by simp), trivial, f2⟩
        exact ⟨_, _, S5, d, rfl, xAsg (i := 3) (eB (eB (eV rfl) eC (binS_of rfl)) a1 (binS_of rfl)) b1, f1.trans f5, p5, _, _, rfl⟩)
      (env := [some (.ref j), some (.tup [.str "pairs", dn a, dn m]), some (.ref S.length), some (.int (-1)), none]) (S := S1) (acc0 := []) ⟨_, _, rfl⟩ f1.ok hr1 (by rw [nums_len, List.length_nil]; omega) (fun d hd => by cases hd)
    rw [nums_len, List.length_nil, Nat.zero_add] at l3
    have fB := fA.trans f1
    have hf : Fr j S S' := ⟨Nat.le_trans fB.ln n3, fun n a b => by
      rw [k3 n (Nat.lt_of_lt_of_le a fB.ln) b (by omega)]
      exact fB.at_ n a b, j3⟩
    refine ⟨acc, S', call_of f__law_cells rfl (.inl ?_), by omega, hf⟩
    rw [cells_eq]
    refine ⟨_, xPar e0 rfl (xIfF q0 (xFor (es1 e1 es0) (hiN _ _ (by omega)) e (xRet (eBlt (es1 (eV rfl) es0) ?_))))⟩
    simp only [bfun, seqOf, r3, Option.map_some]
end K12

namespace K12
open PySem PySem.Spec PyProof.Rows L2 Ev
variable {k : Nat} {S : Sto}
theorem oI {j : Nat} {G : Gb} {env : EnvD} {n b : Nat} (hj : JOK S j) (h : n < b) : Ok j S (ev G (.cst (dn n)) env S) (below b) := oC hj ⟨n, rfl, h⟩
theorem Fr.j {j : Nat} {S S1 : Sto} (f : Fr j S S1) : JOK S1 j := f.ok
theorem oBelow {j a b : Nat} {r : Option (D × Sto)} (h : Ok j S r (below a)) (hab : a ≤ b) : Ok j S r (below b) := h.imp fun _ p => below_mono p hab
theorem oVn {j i n b : Nat} {G : Gb} {env : EnvD} (h : env[i]? = some (some (dn n))) (hj : JOK S j) (hp : n < b) : Ok j S (ev G (.var i) env S) (below b) := oV h hj ⟨n, rfl, hp⟩
structure GrantP (d : D) (l m a : Nat) (ks : List D) : Prop where
  e : d = .tup [dn l, dn m, dn a, .tup ks]
  l60 : l ≤ 60
  lm : l ≤ m
  m100 : m ≤ 100
  k3 : ks.length ≤ 3
  kp : ∀ d ∈ ks, KindP d
theorem c_grant {j : Nat} (hj : JOK S j) : ∃ d l m a ks S', cl (k + 4) "_law_grant" [.ref j] S = some (d, S') ∧ GrantP d l m a ks ∧ Fr j S S' := by
  have p1 : Ok j S (ev (Gk (k + 3)) (.call "_law_pick" [(.var 0), (.lst [(.cst (.int 0)), (.cst (.int 4)), (.cst (.int 14)), (.cst (.int 20)), (.cst (.int 1)), (.call "_law_draw" [(.var 0), (.cst (.int 60))])])]) [some (.ref j), none, none] S) (below 61) := by
    refine oPickL rfl (fun x hx S hj => ?_) (by simp) (by simp) (by assumption)
    simp only [List.mem_cons, List.not_mem_nil, or_false] at hx
    repeat' (rcases hx with hx | hx)
    all_goals first
      | exact oVn rfl hj (by omega)
      | exact oI (n := 0) hj (by decide)
      | exact oI (n := 1) hj (by decide)
      | exact oI (n := 3) hj (by decide)
      | exact oI (n := 4) hj (by decide)
      | exact oI (n := 5) hj (by decide)
      | exact oI (n := 7) hj (by decide)
      | exact oI (n := 14) hj (by decide)
      | exact oI (n := 20) hj (by decide)
      | exact oI (n := 40) hj (by decide)
      | exact oI (n := 65280) hj (by decide)
      | exact oI (n := 65535) hj (by decide)
      | exact oBelow (oDraw (size := 60) rfl (fun _ => eC) (by decide) (by decide) hj) (by decide)
      | exact oBelow (oDraw (size := 70) rfl (fun _ => eC) (by decide) (by decide) hj) (by decide)
      | exact oBelow (oDraw (size := 101) rfl (fun _ => eC) (by decide) (by decide) hj) (by decide)
      | exact oBelow (oDraw (size := 65536) rfl (fun _ => eC) (by decide) (by decide) hj) (by decide)
      | skip
  obtain ⟨_, S1, e1, ⟨l, rfl, hl⟩, f1⟩ := p1
  have h1 := f1.ok
  have p2 : Ok j S1 (ev (Gk (k + 3)) (.call "_law_pick" [(.var 0), (.lst [(.cst (.int 0)), (.cst (.int 3)), (.cst (.int 40)), (.cst (.int 20))])]) [some (.ref j), some (dn l), none] S1) (below 41) := by
    refine oPickL rfl (fun x hx S hj => ?_) (by simp) (by simp) (by assumption)
    simp only [List.mem_cons, List.not_mem_nil, or_false] at hx
    repeat' (rcases hx with hx | hx)
    all_goals first
      | exact oVn rfl hj (by omega)
      | exact oI (n := 0) hj (by decide)
      | exact oI (n := 1) hj (by decide)
      | exact oI (n := 3) hj (by decide)
      | exact oI (n := 4) hj (by decide)
      | exact oI (n := 5) hj (by decide)
      | exact oI (n := 7) hj (by decide)
      | exact oI (n := 14) hj (by decide)
      | exact oI (n := 20) hj (by decide)
      | exact oI (n := 40) hj (by decide)
      | exact oI (n := 65280) hj (by decide)
      | exact oI (n := 65535) hj (by decide)
      | exact oBelow (oDraw (size := 60) rfl (fun _ => eC) (by decide) (by decide) hj) (by decide)
      | exact oBelow (oDraw (size := 70) rfl (fun _ => eC) (by decide) (by decide) hj) (by decide)
      | exact oBelow (oDraw (size := 101) rfl (fun _ => eC) (by decide) (by decide) hj) (by decide)
      | exact oBelow (oDraw (size := 65536) rfl (fun _ => eC) (by decide) (by decide) hj) (by decide)
      | skip
  obtain ⟨_, S2, e2, ⟨m, rfl, hm⟩, f2⟩ := p2
  have h2 := f2.ok
  have p3 : Ok j S2 (ev (Gk (k + 3)) (.call "_law_pick" [(.var 0), (.lst [(.cst (.int 1)), (.cst (.int 1)), (.cst (.int 0))])]) [some (.ref j), some (dn l), some (dn (l + m))] S2) (below 2) := by
    refine oPickL rfl (fun x hx S hj => ?_) (by simp) (by simp) (by assumption)
    simp only [List.mem_cons, List.not_mem_nil, or_false] at hx
    repeat' (rcases hx with hx | hx)
    all_goals first
      | exact oVn rfl hj (by omega)
      | exact oI (n := 0) hj (by decide)
      | exact oI (n := 1) hj (by decide)
      | exact oI (n := 3) hj (by decide)
      | exact oI (n := 4) hj (by decide)
      | exact oI (n := 5) hj (by decide)
      | exact oI (n := 7) hj (by decide)
      | exact oI (n := 14) hj (by decide)
      | exact oI (n := 20) hj (by decide)
      | exact oI (n := 40) hj (by decide)
      | exact oI (n := 65280) hj (by decide)
      | exact oI (n := 65535) hj (by decide)
      | exact oBelow (oDraw (size := 60) rfl (fun _ => eC) (by decide) (by decide) hj) (by decide)
      | exact oBelow (oDraw (size := 70) rfl (fun _ => eC) (by decide) (by decide) hj) (by decide)
      | exact oBelow (oDraw (size := 101) rfl (fun _ => eC) (by decide) (by decide) hj) (by decide)
      | exact oBelow (oDraw (size := 65536) rfl (fun _ => eC) (by decide) (by decide) hj) (by decide)
      | skip
  obtain ⟨_, S3, e3, ⟨a, rfl, ha⟩, f3⟩ := p3
  obtain ⟨ks, S4, e4, hk, kp, f4⟩ := c_kinds (k := k) f3.ok
  refine ⟨_, l, l + m, a, ks, S4, call_of f__law_grant rfl (.inl ⟨_, xAsg (i := 1) e1 (xAsg (i := 2) (eB (eV rfl) e2 (b_add l m)) (xRet (eTup (es1 (eV rfl) (es1 (eV rfl) (es1 e3 (es1 (eCallc (k := k + 3) rfl (es1 (eV rfl) es0) e4) es0)))) (by simp))))⟩), ⟨rfl, by omega, by omega, by omega, hk, kp⟩, f1.trans (f2.trans (f3.trans f4))⟩
def zs (n : Nat) : List D := List.replicate n (.int 0)
theorem c_begun {p t c w : D} : cl (k + 1) "_law_begun" [p, t, c, w] S = some (.tup [.tup (zs 8), .tup (zs 16), .tup (zs 4), .int 0, p, t, c, .int 0, .non, w], S) := by
  have tm : ∀ n : Nat, 2 ≤ n ∧ n ≤ 16 → binS S .Mult (.tup [.int 0]) (dn n) = some (.tup (zs n)) := fun n hn => by
    have z : (List.replicate n [D.int 0]).flatten = zs n := by
      simp [zs]
    simp only [binS, bop, dn]
    rw [if_pos ⟨by simp, by omega, by omega, by simp⟩, Int.toNat_natCast, z]
  have tt : ∀ (n : Nat), 2 ≤ n ∧ n ≤ 16 → ev (Gk k) (.bin .Mult (.tup [.cst (.int 0)]) (.cst (dn n))) [some p, some t, some c, some w] S = some (.tup (zs n), S) := fun n hn =>
    eB (eTup (es1 eC es0) (by simp)) eC (tm n hn)
  exact call_of f__law_begun rfl (.inl ⟨_, xRet (eTup (es1 (tt 8 (by decide)) (es1 (tt 16 (by decide)) (es1 (tt 4 (by decide)) (es1 eC (es1 (eV rfl) (es1 (eV rfl) (es1 (eV rfl) (es1 eC (es1 eC (es1 (eV rfl) es0)))))))))) (by simp))⟩)
/-- a list held from here on that grows by a loop -/
theorem grow {j : Nat} {G : Gb} {tg : List Nat} {one : Bool} {kd : Nat} {its : List E} {body : List T} {ds : List D} {env : EnvD} {I : EnvD → Prop} {P : D → Prop} {as : List D}
    (hj : JOK S j) (hits : evs G its env (S ++ [.lst []]) = some (as, S ++ [.lst []])) (hit2 : itemsOf (S ++ [.lst []]) kd as = some (ds, fun _ => true)) (hn : ds.length ≤ 300) (hI : I env)
    (step : ∀ d0 ∈ ds, ∀ env S1 acc, I env → JOK S1 j → S1[S.length]? = some (.lst acc) → acc.length ≤ 300 → ∃ env1 env2 S2 d, bindT tg one d0 env = some env1 ∧ exs G 20 body env1 S1 = some (.nx, env2, S2.set S.length (.lst (acc ++ [d]))) ∧ Fr j S1 S2 ∧ P d ∧ I env2) :
    ∃ env' S' acc, I env' ∧ S'[S.length]? = some (.lst acc) ∧ acc.length = ds.length ∧ (∀ d ∈ acc, P d) ∧ Fr j S S' ∧ ∀ rest r, exs G 20 rest env' S' = r → exs G 20 (.for' tg one kd its body :: rest) env (S ++ [.lst []]) = r := by
  have hrj : S.length ≠ j := Nat.ne_of_gt hj.lt
  obtain ⟨env', S', acc, e, hI', r3, l3, p3, n3, k3, j3⟩ := collect (j := j) (r := S.length) (bd := bindT tg one) (body := exs G 20 body) (I := I) (P := P) hrj (ds := ds) step (env := env) (S := S ++ [.lst []]) (acc0 := []) hI (Fr.app hj _).ok at_new (by rw [List.length_nil]; omega) (fun d hd => by cases hd)
  rw [List.length_nil, Nat.zero_add] at l3
  rw [List.length_append, List.length_singleton] at n3 k3
  have hf : Fr j S S' := ⟨by omega, fun n a b => by
    rw [k3 n (by omega) b (by omega)]
    exact List.getElem?_append_left a, j3⟩
  exact ⟨env', S', acc, hI', r3, l3, p3, hf, fun rest r h => xFor hits hit2 e h⟩
theorem tupR {n : Nat} {G : Gb} {env : EnvD} {i : Nat} {acc : List D} (h : env[i]? = some (some (.ref n))) (h2 : S[n]? = some (.lst acc)) : ev G (.blt .tuple [.var i]) env S = some (.tup acc, S) :=
  eBlt (es1 (eV h) es0) (by simp only [bfun, seqOf, h2, Option.map_some])
/-- a table's row as it lies in a run -/
def TabP (d : D) : Prop := ∃ (s : Str) (a : Nat) (c : List D), d = .tup [.str s, dn a, .tup c] ∧ c.length ≤ 16
def bF : List T := [(.append (.var 4) (.tup [(.idx (.var 5) (.cst (.int 0))), (.idx (.var 5) (.cst (.int 1))), (.call "_law_cells" [(.var 0), (.var 5)])]))]
theorem fitting_eq : t__law_fitting = [(.asg (.name 2) (.bin .Sub (.idx (.var 1) (.cst (.int 1))) (.idx (.var 1) (.cst (.int 0))))), (.asg (.name 3) (.call "_law_bytes" [(.var 0), (.bin .Add (.idx (.var 1) (.cst (.int 0))) (.call "_law_pick" [(.var 0), (.lst [(.cst (.int 0)), (.var 2), (.call "_law_draw" [(.var 0), (.bin .Add (.var 2) (.cst (.int 1)))])])]))])), (.asg (.name 4) (.newl [])), (.for' [5] true 0 [(.idx (.var 1) (.cst (.int 3)))] bF), (.ret (.call "_law_begun" [(.var 3), (.blt .tuple [(.var 4)]), (.call "_law_draw" [(.var 0), (.cst (.int 100))]), (.idx (.var 1) (.cst (.int 2)))]))] := rfl
structure FitP (d : D) (p ts : List D) (c w : Nat) : Prop where
  e : d = .tup [.tup (zs 8), .tup (zs 16), .tup (zs 4), .int 0, .tup p, .tup ts, dn c, .int 0, .non, dn w]
  pl : p.length ≤ 100
  tl : ts.length ≤ 3
  tp : ∀ d ∈ ts, TabP d
theorem c_fitting {j l m a : Nat} {ks : List D} {g : D} (hj : JOK S j) (hg : GrantP g l m a ks) : ∃ d p ts c w S', cl (k + 5) "_law_fitting" [.ref j, g] S = some (d, S') ∧ FitP d p ts c w ∧ Fr j S S' := by
  obtain ⟨rfl, l60, lm, m100, k3, kp⟩ := hg
  have i0 : ∀ S : Sto, ixf S (.tup [dn l, dn m, dn a, .tup ks]) (.int 0) = some (dn l) := fun S => ix_at (n := 0) rfl
  have i1 : ∀ S : Sto, ixf S (.tup [dn l, dn m, dn a, .tup ks]) (.int 1) = some (dn m) := fun S => ix_at (n := 1) rfl
  have i2 : ∀ S : Sto, ixf S (.tup [dn l, dn m, dn a, .tup ks]) (.int 2) = some (dn a) := fun S => ix_at (n := 2) rfl
  have i3 : ∀ S : Sto, ixf S (.tup [dn l, dn m, dn a, .tup ks]) (.int 3) = some (.tup ks) := fun S => ix_at (n := 3) rfl
  generalize hq : D.tup [dn l, dn m, dn a, .tup ks] = g at i0 i1 i2 i3 ⊢
  have hm : m - l < 101 := by omega
  have p1 : Ok j S (ev (Gk (k + 4)) (.call "_law_pick" [(.var 0), (.lst [(.cst (.int 0)), (.var 2), (.call "_law_draw" [(.var 0), (.bin .Add (.var 2) (.cst (.int 1)))])])]) [some (.ref j), some g, some (dn (m - l)), none, none, none] S) (below (m - l + 1)) := by
    refine oPickL rfl (fun x hx S hj => ?_) (by simp) (by simp) hj
    simp only [List.mem_cons, List.not_mem_nil, or_false] at hx
    rcases hx with rfl | rfl | rfl
    · exact oI (n := 0) hj (by omega)
    · exact oVn rfl hj (by omega)
    · exact oDraw (size := m - l + 1) rfl (fun S => eB (eV rfl) eC (K12.p1 (m - l) S)) (by omega) (by omega) hj
  obtain ⟨_, S1, e1, ⟨r, rfl, hr⟩, f1⟩ := p1
  obtain ⟨p, S2, e2, hp, _, f2⟩ := c_bytes (k := k + 1) (many := l + r) f1.ok (by omega)
  have f12 := f1.trans f2
  have hrj : S2.length ≠ j := Nat.ne_of_gt f2.ok.lt
  obtain ⟨env', S3, ts, ⟨x5, rfl⟩, r3, l3, p3, f3, go⟩ := grow (S := S2) (j := j) (G := Gk (k + 4)) (tg := [5]) (one := true) (kd := 0) (its := [(.idx (.var 1) (.cst (.int 3)))]) (body := bF) (ds := ks) (env := [some (.ref j), some g, some (dn (m - l)), some (.tup p), some (.ref S2.length), none])
    (I := fun env => ∃ x5, env = [some (.ref j), some g, some (dn (m - l)), some (.tup p), some (.ref S2.length), x5]) (P := TabP) f2.ok (es1 (eIx (eV rfl) eC (i3 _)) es0) rfl (by omega) ⟨_, rfl⟩ (by
      rintro d0 hd env S1 acc ⟨x5, rfl⟩ h1 h2 h3
      have hkd := kp d0 hd
      obtain ⟨cs, S', e, hc, f⟩ := c_cells (k := k) (d := d0) h1 hkd
      obtain ⟨s, a, m', rfl, hs, hm'⟩ := hkd
      have q0 : ∀ S : Sto, ixf S (.tup [.str s, dn a, dn m']) (.int 0) = some (.str s) := fun S => ix_at (n := 0) rfl
      have q1 : ∀ S : Sto, ixf S (.tup [.str s, dn a, dn m']) (.int 1) = some (dn a) := fun S => ix_at (n := 1) rfl
      obtain ⟨S5, d, b1, f5, p5⟩ := app_turn (S := S1) (j := j) (r := S2.length) (G := Gk (k + 4)) (env := [some (.ref j), some g, some (dn (m - l)), some (.tup p), some (.ref S2.length), some (.tup [.str s, dn a, dn m'])]) (x := (.tup [(.idx (.var 5) (.cst (.int 0))), (.idx (.var 5) (.cst (.int 1))), (.call "_law_cells" [(.var 0), (.var 5)])])) (fi := 4) (acc := acc) (P := TabP) rfl hrj h2 h3
        ⟨_, S', eTup (es1 (eIx (eV rfl) eC (q0 _)) (es1 (eIx (eV rfl) eC (q1 _)) (es1 (eCallc (k := k + 4) rfl (es1 (eV rfl) (es1 (eV rfl) es0)) e) es0))) (by simp), ⟨s, a, cs, rfl, hc⟩, f⟩
      exact ⟨_, _, S5, d, rfl, b1, f5, p5, _, rfl⟩)
  obtain ⟨c, S4, e4, hc, f4⟩ := c_draw (k := k + 3) (size := 100) f3.ok (by decide) (by decide)
  refine ⟨_, p, ts, c, a, S4, call_of f__law_fitting rfl (.inl ?_), ⟨rfl, by omega, by omega, p3⟩, f12.trans (f3.trans f4)⟩
  rw [fitting_eq]
  have s1 : ∀ S : Sto, binS S .Sub (dn m) (dn l) = some (dn (m - l)) := fun S => b_sub m l lm
  refine ⟨_, xAsg (i := 2) (eB (eIx (eV rfl) eC (i1 _)) (eIx (eV rfl) eC (i0 _)) (s1 _)) (xAsg (i := 3) (eCallc (k := k + 4) rfl (es1 (eV rfl) (es1 (eB (eIx (eV rfl) eC (i0 _)) e1 (b_add l r)) es0)) e2) (xAsg (i := 4) (eNew es0 (by simp)) (go _ _ (xRet (eCallc (k := k + 4) rfl (es1 (eV rfl) (es1 (tupR rfl r3) (es1 (eCallc (k := k + 4) rfl (es1 (eV rfl) (es1 eC es0)) e4) (es1 (eIx (eV rfl) eC (i2 _)) es0)))) (c_begun (k := k + 3)))))))⟩
end K12

namespace K12
open PySem PySem.Spec PyProof.Rows L2 Ev
variable {k : Nat} {S : Sto}
def flt (C : Nat → Bool) (F : Nat → D) : Nat → Nat → List D
  | 0, _ => []
  | n + 1, j => if C j then F j :: flt C F n (j + 1) else flt C F n (j + 1)
theorem flt_mem {C : Nat → Bool} {F : Nat → D} {d : D} : ∀ {n j : Nat}, d ∈ flt C F n j ↔ ∃ i, j ≤ i ∧ i < j + n ∧ C i = true ∧ d = F i
  | 0, j => by simp [flt]; intro i h1 h2; omega
  | n + 1, j => by
    unfold flt
    have ih := flt_mem (C := C) (F := F) (d := d) (n := n) (j := j + 1)
    constructor
    · intro h
      split at h
      · rename_i q
        rcases List.mem_cons.mp h with rfl | h
        · exact ⟨j, by omega, by omega, q, rfl⟩
        · obtain ⟨i, a, b, c⟩ := ih.mp h
          exact ⟨i, by omega, by omega, c⟩
      · obtain ⟨i, a, b, c⟩ := ih.mp h
        exact ⟨i, by omega, by omega, c⟩
    · rintro ⟨i, a, b, c, e⟩
      by_cases z : i = j
      · subst z
        rw [if_pos c, e]
        exact List.mem_cons_self
      · have := ih.mpr ⟨i, by omega, by omega, c, e⟩
        split
        · exact List.mem_cons_of_mem _ this
        · exact this
theorem flt_len {C : Nat → Bool} {F : Nat → D} : ∀ {n j : Nat}, (flt C F n j).length ≤ n
  | 0, j => Nat.le_refl _
  | n + 1, j => by
    unfold flt
    have := flt_len (C := C) (F := F) (n := n) (j := j + 1)
    split
    · rw [List.length_cons]; omega
    · omega
theorem comp_flt {bd : D → EnvD → Option EnvD} {cd : EnvD → Sto → Option (Bool × Sto)} {el : EnvD → Sto → Option (D × Sto)} {env : EnvD} {C : Nat → Bool} {F : Nat → D} {lo hi : Nat}
    (st : ∀ j, lo ≤ j → j < hi → ∃ env1, bd (dn j) env = some env1 ∧ cd env1 S = some (C j, S) ∧ (C j = true → el env1 S = some (F j, S))) :
    ∀ (n j : Nat) (acc : List D), lo ≤ j → j + n ≤ hi → acc.length + n ≤ 100000 → compLoop (fun _ => true) bd cd el env (nums j n) S acc = some (acc ++ flt C F n j, S)
  | 0, j, acc, _, _, _ => by simp [nums, compLoop, flt]
  | n + 1, j, acc, h0, h1, h2 => by
    obtain ⟨env1, e1, e2, e3⟩ := st j h0 (by omega)
    unfold nums compLoop flt
    cases q : C j with
    | false =>
      rw [q] at e2
      rw [if_pos rfl, e1]
      dsimp only
      rw [e2]
      dsimp only
      rw [comp_flt st n (j + 1) acc (by omega) (by omega) (by omega)]
      rfl
    | true =>
      rw [q] at e2
      have hz : acc.length < sizeLine := by rw [sizeLine_eq]; omega
      rw [if_pos rfl, e1]
      dsimp only
      rw [e2]
      dsimp only
      rw [e3 q]
      dsimp only
      rw [if_pos hz, comp_flt st n (j + 1) (acc ++ [F j]) (by omega) (by omega) (by rw [List.length_append, List.length_singleton]; omega), List.append_assoc]
      rfl
theorem eCompF {G : Gb} {env : EnvD} {vs tg : List Nat} {one : Bool} {kd : Nat} {its : List E} {cd elt : E} {as : List D} {C : Nat → Bool} {F : Nat → D} {lo n : Nat}
    (hs : evs G its env S = some (as, S)) (h2 : itemsOf S kd as = some (nums lo n, fun _ => true)) (hn : n ≤ 100000)
    (st : ∀ j, lo ≤ j → j < lo + n → ∃ env1, bindT tg one (dn j) (wipeD env vs) = some env1 ∧ ev G cd env1 S = some (.bl (C j), S) ∧ (C j = true → ev G elt env1 S = some (F j, S))) :
    ev G (.comp vs tg one kd its true cd elt) env S = some (.lst (flt C F n lo), S) := by
  simp only [ev, hs, h2]
  rw [comp_flt (C := C) (F := F) (lo := lo) (hi := lo + n) (fun j h0 h1 => by
    obtain ⟨env1, e1, e2, e3⟩ := st j h0 h1
    exact ⟨env1, e1, by simp only [e2, truth], e3⟩) n lo [] (Nat.le_refl _) (Nat.le_refl _) (by simpa using hn)]
  rfl
theorem eCompA {G : Gb} {env : EnvD} {vs tg : List Nat} {one : Bool} {kd : Nat} {its : List E} {cd elt : E} {as : List D} {F : Nat → D} {lo n : Nat}
    (hs : evs G its env S = some (as, S)) (h2 : itemsOf S kd as = some (nums lo n, fun _ => true)) (hn : n ≤ 100000)
    (st : ∀ j, lo ≤ j → j < lo + n → ∃ env1, bindT tg one (dn j) (wipeD env vs) = some env1 ∧ ev G elt env1 S = some (F j, S)) :
    ev G (.comp vs tg one kd its false cd elt) env S = some (.lst (flt (fun _ => true) F n lo), S) := by
  simp only [ev, hs, h2]
  rw [comp_flt (C := fun _ => true) (F := F) (lo := lo) (hi := lo + n) (fun j h0 h1 => by
    obtain ⟨env1, e1, e3⟩ := st j h0 h1
    exact ⟨env1, e1, rfl, fun _ => e3⟩) n lo [] (Nat.le_refl _) (Nat.le_refl _) (by simpa using hn)]
  rfl
/-! _law_midway -/
def bM : List T := [(.append (.var 4) (.call "_law_pick" [(.var 0), (.lst [(.cst (.int 0)), (.cst (.int 1)), (.cst (.int 3)), (.call "_law_draw" [(.var 0), (.cst (.int 101))])])]))]
theorem midway_eq : t__law_midway = [(.asg (.name 3) (.call "_law_fitting" [(.var 0), (.var 1)])), (.asg (.name 4) (.newl [])), (.for' [5] true 1 [(.cst (.int 4))] bM), (.asg (.name 6) (.blt .len [(.idx (.var 3) (.cst (.int 4)))])), (.ret (.bin .Add (.bin .Add (.bin .Add (.tup [(.call "_law_words" [(.var 0), (.cst (.int 8)), (.var 6)]), (.call "_law_words" [(.var 0), (.cst (.int 16)), (.var 6)]), (.blt .tuple [(.var 4)]), (.var 2)]) (.sl (.var 3) true true (.cst (.int 4)) (.cst (.int 7)))) (.tup [(.cst (.int 5))])) (.sl (.var 3) true false (.cst (.int 8)) (.cst .non))))] := rfl
structure RunP (d : D) (ws us cs p ts : List D) (c w : D) : Prop where
  e : d = .tup [.tup ws, .tup us, .tup cs, .int 0, .tup p, .tup ts, c, .int 5, .non, w]
  wl : ws.length = 8
  wp : ∀ d ∈ ws, below 65536 d
  ul : us.length = 16
  up : ∀ d ∈ us, below 65536 d
  pl : p.length ≤ 100
  tl : ts.length ≤ 3
  tp : ∀ d ∈ ts, TabP d
theorem c_midway {j l m a : Nat} {ks : List D} {g : D} (hj : JOK S j) (hg : GrantP g l m a ks) : ∃ d ws us cs p ts c w S', cl (k + 6) "_law_midway" [.ref j, g, .int 0] S = some (d, S') ∧ RunP d ws us cs p ts c w ∧ Fr j S S' := by
  obtain ⟨r, p, ts, c, w, S1, e1, hf, f1⟩ := c_fitting (k := k) hj hg
  obtain ⟨he, pl, tl, tp⟩ := hf
  have i4 : ∀ S : Sto, ixf S r (.int 4) = some (.tup p) := fun S => by rw [he]; exact ix_at (n := 4) rfl
  have s1 : ∀ S : Sto, slf S r (some 4) (some 7) = some (.tup [.tup p, .tup ts, dn c]) := fun S => by rw [he]; rfl
  have s2 : ∀ S : Sto, slf S r (some 8) none = some (.tup [.non, dn w]) := fun S => by rw [he]; rfl
  have hrj : S1.length ≠ j := Nat.ne_of_gt f1.ok.lt
  obtain ⟨env', S3, cs, ⟨x5, rfl⟩, r3, l3, p3, f3, go⟩ := grow (S := S1) (j := j) (G := Gk (k + 5)) (tg := [5]) (one := true) (kd := 1) (its := [(.cst (.int 4))]) (body := bM) (ds := nums 0 4) (env := [some (.ref j), some g, some (.int 0), some r, some (.ref S1.length), none, none])
    (I := fun env => ∃ x5, env = [some (.ref j), some g, some (.int 0), some r, some (.ref S1.length), x5, none]) (P := below 101) f1.ok (es1 eC es0) (hiN _ 4 (by decide)) (by decide) ⟨_, rfl⟩ (by
      rintro d0 hd env S2 acc ⟨x5, rfl⟩ h1 h2 h3
      have hp : Ok j S2 (ev (Gk (k + 5)) (.call "_law_pick" [(.var 0), (.lst [(.cst (.int 0)), (.cst (.int 1)), (.cst (.int 3)), (.call "_law_draw" [(.var 0), (.cst (.int 101))])])]) [some (.ref j), some g, some (.int 0), some r, some (.ref S1.length), some d0, none] S2) (below 101) := by
        refine oPickL rfl (fun x hx S hj => ?_) (by simp) (by simp) (by assumption)
        simp only [List.mem_cons, List.not_mem_nil, or_false] at hx
        repeat' (rcases hx with hx | hx)
        all_goals first
          | exact oVn rfl hj (by omega)
          | exact oI (n := 0) hj (by decide)
          | exact oI (n := 1) hj (by decide)
          | exact oI (n := 3) hj (by decide)
          | exact oI (n := 4) hj (by decide)
          | exact oI (n := 5) hj (by decide)
          | exact oI (n := 7) hj (by decide)
          | exact oI (n := 14) hj (by decide)
          | exact oI (n := 20) hj (by decide)
          | exact oI (n := 40) hj (by decide)
          | exact oI (n := 65280) hj (by decide)
          | exact oI (n := 65535) hj (by decide)
          | exact oBelow (oDraw (size := 60) rfl (fun _ => eC) (by decide) (by decide) hj) (by decide)
          | exact oBelow (oDraw (size := 70) rfl (fun _ => eC) (by decide) (by decide) hj) (by decide)
          | exact oBelow (oDraw (size := 101) rfl (fun _ => eC) (by decide) (by decide) hj) (by decide)
          | exact oBelow (oDraw (size := 65536) rfl (fun _ => eC) (by decide) (by decide) hj) (by decide)
          | skip
      obtain ⟨S5, d, b1, f5, p5⟩ := app_turn (fi := 4) rfl hrj h2 h3 hp
      exact ⟨_, _, S5, d, rfl, b1, f5, p5, _, rfl⟩)
  obtain ⟨ws, S4, e4, hw, wp, f4⟩ := c_words (k := k + 2) (many := 8) (far := p.length) f3.ok (by decide) (by omega)
  obtain ⟨us, S5, e5, hu, up, f5⟩ := c_words (k := k + 2) (many := 16) (far := p.length) f4.ok (by decide) (by omega)
  have r5 : S5[S1.length]? = some (.lst cs) := by
    have hl : S1.length < S3.length := (List.getElem?_eq_some_iff.mp r3).1
    rw [(f4.trans f5).at_ _ hl hrj]
    exact r3
  refine ⟨_, ws, us, cs, p, ts, dn c, dn w, S5, call_of f__law_midway rfl (.inl ?_), ⟨rfl, hw, wp, hu, up, pl, tl, tp⟩, f1.trans (f3.trans (f4.trans f5))⟩
  rw [midway_eq]
  have e0 : ev (Gk (k + 5)) (.newl []) [some (.ref j), some g, some (.int 0), some r, none, none, none] S1 = some (.ref S1.length, S1 ++ [.lst []]) := eNew es0 (by simp)
  have hlen : ev (Gk (k + 5)) (.blt .len [(.idx (.var 3) (.cst (.int 4)))]) [some (.ref j), some g, some (.int 0), some r, some (.ref S1.length), x5, none] S3 = some (dn p.length, S3) := eBlt (es1 (eIx (eV rfl) eC (i4 _)) es0) rfl
  refine ⟨_, xAsg (i := 3) (eCallc (k := k + 5) rfl (es1 (eV rfl) (es1 (eV rfl) es0)) e1) (xAsg (i := 4) e0 (go _ _ (xAsg (i := 6) hlen (xRet ?_))))⟩
  have t4 : ev (Gk (k + 5)) (.tup [(.call "_law_words" [(.var 0), (.cst (.int 8)), (.var 6)]), (.call "_law_words" [(.var 0), (.cst (.int 16)), (.var 6)]), (.blt .tuple [(.var 4)]), (.var 2)]) [some (.ref j), some g, some (.int 0), some r, some (.ref S1.length), x5, some (dn p.length)] S3 = some (.tup [.tup ws, .tup us, .tup cs, .int 0], S5) :=
    eTup (es1 (eCallc (k := k + 5) rfl (es1 (eV rfl) (es1 eC (es1 (eV rfl) es0))) e4) (es1 (eCallc (k := k + 5) rfl (es1 (eV rfl) (es1 eC (es1 (eV rfl) es0))) e5) (es1 (tupR rfl r5) (es1 (eV rfl) es0)))) (by simp)
  exact eB (eB (eB t4 (eLtf (eV rfl) eC eC (s1 _)) (catT _ _ (by simp))) (eTup (es1 eC es0) (by simp)) (catT _ _ (by simp))) (eLf (eV rfl) eC (s2 _)) (catT _ _ (by simp))
end K12

namespace Fit
structure TF (lo hi m b f g : Nat) : Prop where
  e : tightN lo hi m b = some (f, g, m ||| top (bl (f ^^^ g)), b ||| (f &&& top (bl (f ^^^ g))))
  lf : lo ≤ f
  fg : f ≤ g
  gh : g ≤ hi
  ff : f &&& m = b
  fg2 : g &&& m = b
  all : ∀ x, lo ≤ x → x ≤ hi → x &&& m = b → f ≤ x ∧ x ≤ g
theorem tight_of {lo hi m b w : Nat} (h1 : lo ≤ w) (h2 : w ≤ hi) (hh : hi < 65536) (hm : m < 65536) (hf : w &&& m = b) : ∃ f g, TF lo hi m b f g := by
  have hs : b &&& m = b := sub_of_fits hf
  have hb : b < 65536 := by
    rw [← hs]
    exact Nat.lt_of_le_of_lt Nat.and_le_right hm
  have hl : lo < 65536 := by omega
  have wl : w < 65536 := by omega
  cases q1 : least lo m b with
  | none => exact absurd hf (least_none q1 w h1 wl)
  | some f =>
    cases q2 : greatest hi m b with
    | none =>
      unfold greatest at q2
      have q3 := Option.map_eq_none_iff.mp q2
      exact absurd ((fits_mir hm hb wl hs).mpr hf) (least_none q3 (65535 - w) (by omega) (by omega))
    | some g =>
      obtain ⟨a1, a2, a3, a4⟩ := least_some hl hb q1
      obtain ⟨b1, b2, b3⟩ := greatest_some hh hm hb hs q2
      have c1 := a4 w h1 wl hf
      have c2 := b3 w h2 hf
      refine ⟨f, g, ?_, a1, by omega, b1, a3, b2, fun x x1 x2 x3 => ⟨a4 x x1 (by omega) x3, b3 x x2 x3⟩⟩
      unfold tightN
      rw [q1, q2]
      dsimp only
      rw [if_neg (by omega)]
/-- all words between fit the tight value just where they fit the value -/
theorem TF.more {lo hi m b f g : Nat} (T : TF lo hi m b f g) {x : Nat} (h1 : f ≤ x) (h2 : x ≤ g) : x &&& (m ||| top (bl (f ^^^ g))) = b ||| (f &&& top (bl (f ^^^ g))) ↔ x &&& m = b := by
  have hs : b &&& m = b := sub_of_fits T.ff
  have e : f / 2 ^ bl (f ^^^ g) = g / 2 ^ bl (f ^^^ g) := (xor_div _ _ _).mp (bl_le.mp (Nat.le_refl _))
  exact more_fits hs (between e h1 h2) T.ff
end Fit
namespace K12
open PySem PySem.Spec PyProof.Rows L2 Ev
variable {k : Nat} {S : Sto}
structure AbP (w : Nat) (d : D) (lo hi m b : Nat) (x y z : D) : Prop where
  e : d = v7 lo hi m b x y z
  lw : lo ≤ w
  wh : w ≤ hi
  hh : hi < 65536
  hm : m < 65536
  f : w &&& m = b
  x7 : OK7 x 256
  y7 : OK7 y 256
  z7 : OK7 z 5
theorem AbP.kv {w : Nat} {d : D} {lo hi m b : Nat} {x y z : D} (A : AbP w d lo hi m b x y z) : KV7 lo hi m b x y z := by
  obtain ⟨rfl, lw, wh, hh, hm, f, x7, y7, z7⟩ := A
  obtain ⟨f', g, T⟩ := Fit.tight_of lw wh hh hm f
  exact ⟨by omega, hh, hm, Fit.sub_of_fits f, by omega, x7, y7, z7, by rw [T.e]; exact fun z => nomatch z⟩
theorem AbP.tight {w : Nat} {d : D} {lo hi m b : Nat} {x y z : D} (A : AbP w d lo hi m b x y z) : ∃ f g, Fit.TF lo hi m b f g ∧ AbP w (v7 f g (m ||| Fit.top (Fit.bl (f ^^^ g))) (b ||| (f &&& Fit.top (Fit.bl (f ^^^ g)))) x y z) f g (m ||| Fit.top (Fit.bl (f ^^^ g))) (b ||| (f &&& Fit.top (Fit.bl (f ^^^ g)))) x y z := by
  obtain ⟨rfl, lw, wh, hh, hm, f, x7, y7, z7⟩ := A
  obtain ⟨f', g, T⟩ := Fit.tight_of lw wh hh hm f
  have c := T.all w lw wh f
  refine ⟨f', g, T, rfl, c.1, c.2, Nat.lt_of_le_of_lt T.gh hh, ?_, (T.more c.1 c.2).mpr f, x7, y7, z7⟩
  exact Nat.or_lt_two_pow (n := 16) hm (Fit.top_lt _)
/-! _law_handles -/
def hC (w : Nat) (ts : List D) (j : Nat) : Bool := match ts[j]? with
  | some (.tup [.str s, _, .tup c]) => decide (s = "pairs") && decide (w ≤ c.length)
  | _ => false
theorem c_handles {w : Nat} {r : D} {ws us cs p ts : List D} {c w' : D} (hr : RunP r ws us cs p ts c w') : ∃ l, cl (k + 1) "_law_handles" [dn w, r] S = some (.lst l, S) ∧ l ≠ [] ∧ l.length < 1000 ∧ ∀ d ∈ l, OK7 d 5 := by
  obtain ⟨rfl, _, _, _, _, _, tl, tp⟩ := hr
  have i5 : ∀ S : Sto, ixf S (.tup [.tup ws, .tup us, .tup cs, .int 0, .tup p, .tup ts, c, .int 5, .non, w']) (.int 5) = some (.tup ts) := fun S => ix_at (n := 5) rfl
  generalize D.tup [.tup ws, .tup us, .tup cs, .int 0, .tup p, .tup ts, c, .int 5, .non, w'] = r at i5 ⊢
  have e1 : ev (Gk k) (.comp [3] [3] true 1 [(.blt .len [(.idx (.var 1) (.cst (.int 5)))])] true (.and' (.cmp .Eq (.idx (.idx (.idx (.var 1) (.cst (.int 5))) (.var 3)) (.cst (.int 0))) (.cst (.str "pairs"))) (.cmp .LtE (.var 0) (.blt .len [(.idx (.idx (.idx (.var 1) (.cst (.int 5))) (.var 3)) (.cst (.int 2)))]))) (.var 3)) [some (dn w), some r, none, none, none] S = some (.lst (flt (hC w ts) dn ts.length 0), S) := by
    refine eCompF (as := [dn ts.length]) (es1 (eBlt (es1 (eIx (eV rfl) eC (i5 _)) es0) rfl) es0) (hiN _ _ (by omega)) (by omega) fun j _ hj => ?_
    have hj2 : j < ts.length := by omega
    obtain ⟨s, a, cc, e, hc⟩ := tp ts[j] (List.getElem_mem _)
    have ea : ts[j]? = some (.tup [.str s, dn a, .tup cc]) := by rw [List.getElem?_eq_getElem hj2, e]
    have j1 : ∀ S : Sto, ixf S (.tup ts) (dn j) = some (.tup [.str s, dn a, .tup cc]) := fun S => ix_at ea
    have j2 : ∀ S : Sto, ixf S (.tup [.str s, dn a, .tup cc]) (.int 0) = some (.str s) := fun S => ix_at (n := 0) rfl
    have j3 : ∀ S : Sto, ixf S (.tup [.str s, dn a, .tup cc]) (.int 2) = some (.tup cc) := fun S => ix_at (n := 2) rfl
    have hC1 : hC w ts j = (decide (s = "pairs") && decide (w ≤ cc.length)) := by
      unfold hC
      rw [ea]
    rw [hC1]
    exact ⟨_, rfl, eA (eQ (eIx (eIx (eIx (eV rfl) eC (i5 _)) (eV rfl) (j1 _)) eC (j2 _)) eC rfl) fun _ => eQ (eV rfl) (eBlt (es1 (eIx (eIx (eIx (eV rfl) eC (i5 _)) (eV rfl) (j1 _)) eC (j3 _)) es0) rfl) (leI w cc.length), fun _ => eV rfl⟩
  have e2 : ∀ x, ev (Gk k) (.comp [4] [4] true 1 [(.cst (.int 6))] false (.cst .non) (.var 4)) [some (dn w), some r, x, none, none] S = some (.lst (flt (fun _ => true) dn 6 0), S) := fun x =>
    eCompA (as := [dn 6]) (es1 eC es0) (hiN _ 6 (by decide)) (by decide) fun j _ hj => ⟨_, rfl, eV rfl⟩
  have cat : ∀ l : List D, l.length ≤ 10 → binS S .Add (.lst [.non]) (.lst l) = some (.lst (.non :: l)) := fun l hl => by
    simp only [binS, bop, catS, refL]
    first
      | rfl
      | (rw [if_pos (by rw [sizeLine_eq]; simp; omega)]; rfl)
  have q : ∀ x, ev (Gk k) (.cmp .Gt (.var 0) (.cst (.int 0))) [some (dn w), some r, x, none, none] S = some (.bl (decide (w > 0)), S) := fun x => eQ (eV rfl) eC (gtI w 0)
  have l1 := flt_len (C := hC w ts) (F := dn) (n := ts.length) (j := 0)
  have l2 := flt_len (C := fun _ => true) (F := dn) (n := 6) (j := 0)
  have m1 : ∀ {C n}, n ≤ 6 → ∀ d ∈ D.non :: flt C dn n 0, OK7 d 5 := by
    intro C n hn d hd
    rcases List.mem_cons.mp hd with rfl | hd
    · exact .inl rfl
    · obtain ⟨i, _, h, _, rfl⟩ := flt_mem.mp hd
      exact .inr ⟨i, rfl, by omega⟩
  by_cases h : w > 0
  · refine ⟨.non :: flt (hC w ts) dn ts.length 0, call_of f__law_handles rfl (.inl ⟨_, xAsg (i := 2) e1 (xRet (eB (eLst (es1 eC es0) (by simp)) (eI (q _) (fun _ => eV rfl) fun z => absurd h (of_decide_eq_false z)) (cat _ (by omega))))⟩), by simp, by simp; omega, m1 (by omega)⟩
  · refine ⟨.non :: flt (fun _ => true) dn 6 0, call_of f__law_handles rfl (.inl ⟨_, xAsg (i := 2) e1 (xRet (eB (eLst (es1 eC es0) (by simp)) (eI (q _) (fun z => absurd (of_decide_eq_true z) h) fun _ => e2 _) (cat _ (by omega))))⟩), by simp, by simp; omega, m1 (by omega)⟩
end K12

namespace K12
open PySem PySem.Spec PyProof.Rows L2 Ev
variable {k : Nat} {S : Sto}
/-! what two parts tell -/
section
variable {j : Nat} {G : Gb} {env : EnvD} {x y z : E} {P R : D → Prop} {Q : Bool → Prop}
def isB (Q : Bool → Prop) (d : D) : Prop := ∃ t, d = .bl t ∧ Q t
theorem oCmp {op : CmpOp} {A B : D → Prop} (h : Ok j S (ev G x env S) A) (h2 : ∀ S1, JOK S1 j → Ok j S1 (ev G y env S1) B) (h3 : ∀ a b, A a → B b → ∃ t, (∀ S2 : Sto, cop S2 op a b = some t) ∧ Q t) : Ok j S (ev G (.cmp op x y) env S) (isB Q) := by
  obtain ⟨a, S1, e1, p1, f1⟩ := h
  obtain ⟨b, S2, e2, p2, f2⟩ := h2 S1 f1.ok
  obtain ⟨t, e3, q⟩ := h3 a b p1 p2
  exact ⟨_, S2, eQ e1 e2 (e3 S2), ⟨t, rfl, q⟩, f1.trans f2⟩
theorem oAnd {X : Prop} (h : Ok j S (ev G x env S) (isB fun t => t = true → X)) (h2 : ∀ S1, JOK S1 j → Ok j S1 (ev G y env S1) (isB fun _ => True)) : Ok j S (ev G (.and' x y) env S) (isB fun t => t = true → X) := by
  obtain ⟨_, S1, e1, ⟨t, rfl, q⟩, f1⟩ := h
  cases t with
  | false => exact ⟨_, S1, by simp only [ev, e1, truth], ⟨false, rfl, fun z => nomatch z⟩, f1⟩
  | true =>
    obtain ⟨_, S2, e2, ⟨u, rfl, _⟩, f2⟩ := h2 S1 f1.ok
    exact ⟨_, S2, by simp only [ev, e1, truth, e2], ⟨u, rfl, fun _ => q rfl⟩, f1.trans f2⟩
theorem oIfe (h : Ok j S (ev G x env S) (isB Q)) (h1 : ∀ S1, JOK S1 j → Q true → Ok j S1 (ev G y env S1) P) (h2 : ∀ S1, JOK S1 j → Q false → Ok j S1 (ev G z env S1) P) : Ok j S (ev G (.ife x y z) env S) P := by
  obtain ⟨_, S1, e1, ⟨t, rfl, q⟩, f1⟩ := h
  cases t with
  | false =>
    obtain ⟨d, S2, e2, p, f2⟩ := h2 S1 f1.ok q
    exact ⟨d, S2, eI (t := false) e1 (fun z => nomatch z) (fun _ => e2), p, f1.trans f2⟩
  | true =>
    obtain ⟨d, S2, e2, p, f2⟩ := h1 S1 f1.ok q
    exact ⟨d, S2, eI (t := true) e1 (fun _ => e2) (fun z => nomatch z), p, f1.trans f2⟩
end
theorem minI (a b : Nat) : bfun S .min [dn a, dn b] = some (dn (min a b)) := by
  unfold dn
  show some (D.int (if (b : Int) < (a : Int) then (b : Int) else (a : Int))) = _
  congr 2
  split <;> omega
theorem c_about {j w : Nat} {r : D} {ws us cs p ts : List D} {c w' : D} (hj : JOK S j) (hr : RunP r ws us cs p ts c w') (hw : w < 65536) : ∃ d lo hi m b x y z S', cl (k + 3) "_law_about" [.ref j, dn w, r] S = some (d, S') ∧ AbP w d lo hi m b x y z ∧ Fr j S S' := by
  have hr0 := hr
  obtain ⟨he, _, _, _, _, pl, tl, tp⟩ := hr
  have i4 : ∀ S : Sto, ixf S r (.int 4) = some (.tup p) := fun S => by rw [he]; exact ix_at (n := 4) rfl
  clear he
  have a3 : ev (Gk (k + 2)) (.blt .len [(.idx (.var 2) (.cst (.int 4)))]) [some (.ref j), some (dn w), some r, none, none, none, none, none, none, none] S = some (dn p.length, S) := eBlt (es1 (eIx (eV rfl) eC (i4 _)) es0) rfl
  have p4 : Ok j S (ev (Gk (k + 2)) (.call "_law_pick" [(.var 0), (.lst [(.cst (.int 0)), (.cst (.int 0)), (.cst (.int 1)), (.cst (.int 5)), (.call "_law_draw" [(.var 0), (.cst (.int 70))]), (.call "_law_draw" [(.var 0), (.cst (.int 65536))])])]) [some (.ref j), some (dn w), some r, some (dn p.length), none, none, none, none, none, none] S) (below 65536) := by
    refine oPickL rfl (fun x hx S hj => ?_) (by simp) (by simp) (by assumption)
    simp only [List.mem_cons, List.not_mem_nil, or_false] at hx
    repeat' (rcases hx with hx | hx)
    all_goals first
      | exact oVn rfl hj (by omega)
      | exact oI (n := 0) hj (by decide)
      | exact oI (n := 1) hj (by decide)
      | exact oI (n := 3) hj (by decide)
      | exact oI (n := 4) hj (by decide)
      | exact oI (n := 5) hj (by decide)
      | exact oI (n := 7) hj (by decide)
      | exact oI (n := 14) hj (by decide)
      | exact oI (n := 20) hj (by decide)
      | exact oI (n := 40) hj (by decide)
      | exact oI (n := 65280) hj (by decide)
      | exact oI (n := 65535) hj (by decide)
      | exact oBelow (oDraw (size := 60) rfl (fun _ => eC) (by decide) (by decide) hj) (by decide)
      | exact oBelow (oDraw (size := 70) rfl (fun _ => eC) (by decide) (by decide) hj) (by decide)
      | exact oBelow (oDraw (size := 101) rfl (fun _ => eC) (by decide) (by decide) hj) (by decide)
      | exact oBelow (oDraw (size := 65536) rfl (fun _ => eC) (by decide) (by decide) hj) (by decide)
      | skip
  obtain ⟨_, S1, e4, ⟨r4, rfl, h4⟩, f1⟩ := p4
  have j1 := f1.ok
  have p5 : Ok j S1 (ev (Gk (k + 2)) (.call "_law_pick" [(.var 0), (.lst [(.cst (.int 0)), (.cst (.int 0)), (.cst (.int 1)), (.cst (.int 5)), (.call "_law_draw" [(.var 0), (.cst (.int 70))]), (.call "_law_draw" [(.var 0), (.cst (.int 65536))])])]) [some (.ref j), some (dn w), some r, some (dn p.length), some (dn (w - min w r4)), none, none, none, none, none] S1) (below 65536) := by
    refine oPickL rfl (fun x hx S hj => ?_) (by simp) (by simp) (by assumption)
    simp only [List.mem_cons, List.not_mem_nil, or_false] at hx
    repeat' (rcases hx with hx | hx)
    all_goals first
      | exact oVn rfl hj (by omega)
      | exact oI (n := 0) hj (by decide)
      | exact oI (n := 1) hj (by decide)
      | exact oI (n := 3) hj (by decide)
      | exact oI (n := 4) hj (by decide)
      | exact oI (n := 5) hj (by decide)
      | exact oI (n := 7) hj (by decide)
      | exact oI (n := 14) hj (by decide)
      | exact oI (n := 20) hj (by decide)
      | exact oI (n := 40) hj (by decide)
      | exact oI (n := 65280) hj (by decide)
      | exact oI (n := 65535) hj (by decide)
      | exact oBelow (oDraw (size := 60) rfl (fun _ => eC) (by decide) (by decide) hj) (by decide)
      | exact oBelow (oDraw (size := 70) rfl (fun _ => eC) (by decide) (by decide) hj) (by decide)
      | exact oBelow (oDraw (size := 101) rfl (fun _ => eC) (by decide) (by decide) hj) (by decide)
      | exact oBelow (oDraw (size := 65536) rfl (fun _ => eC) (by decide) (by decide) hj) (by decide)
      | skip
  obtain ⟨_, S2, e5, ⟨r5, rfl, h5⟩, f2⟩ := p5
  have j2 := f2.ok
  generalize hlo : w - min w r4 = lo at *
  have s65 : ∀ S : Sto, binS S .Sub (.int 65535) (dn w) = some (dn (65535 - w)) := fun S => b_sub5 w hw
  have a5 : ev (Gk (k + 2)) (.bin .Add (.var 1) (.blt .min [(.bin .Sub (.cst (.int 65535)) (.var 1)), (.call "_law_pick" [(.var 0), (.lst [(.cst (.int 0)), (.cst (.int 0)), (.cst (.int 1)), (.cst (.int 5)), (.call "_law_draw" [(.var 0), (.cst (.int 70))]), (.call "_law_draw" [(.var 0), (.cst (.int 65536))])])])])) [some (.ref j), some (dn w), some r, some (dn p.length), some (dn lo), none, none, none, none, none] S1 = some (dn (w + min (65535 - w) r5), S2) :=
    eB (eV rfl) (eBlt (es1 (eB eC (eV rfl) (s65 _)) (es1 e5 es0)) (minI _ _)) (b_add _ _)
  generalize hhi : w + min (65535 - w) r5 = hi at *
  have p6 : Ok j S2 (ev (Gk (k + 2)) (.call "_law_pick" [(.var 0), (.lst [(.cst (.int 0)), (.cst (.int 0)), (.cst (.int 1)), (.cst (.int 7)), (.cst (.int 65535)), (.cst (.int 65280)), (.bin .BitAnd (.call "_law_draw" [(.var 0), (.cst (.int 65536))]) (.call "_law_draw" [(.var 0), (.cst (.int 65536))]))])]) [some (.ref j), some (dn w), some r, some (dn p.length), some (dn lo), some (dn hi), none, none, none, none] S2) (below 65536) := by
    refine oPickL rfl (fun x hx S hj => ?_) (by simp) (by simp) (by assumption)
    simp only [List.mem_cons, List.not_mem_nil, or_false] at hx
    repeat' (rcases hx with hx | hx)
    all_goals first
      | exact oVn rfl hj (by omega)
      | exact oI (n := 0) hj (by decide)
      | exact oI (n := 1) hj (by decide)
      | exact oI (n := 3) hj (by decide)
      | exact oI (n := 4) hj (by decide)
      | exact oI (n := 5) hj (by decide)
      | exact oI (n := 7) hj (by decide)
      | exact oI (n := 14) hj (by decide)
      | exact oI (n := 20) hj (by decide)
      | exact oI (n := 40) hj (by decide)
      | exact oI (n := 65280) hj (by decide)
      | exact oI (n := 65535) hj (by decide)
      | exact oBelow (oDraw (size := 60) rfl (fun _ => eC) (by decide) (by decide) hj) (by decide)
      | exact oBelow (oDraw (size := 70) rfl (fun _ => eC) (by decide) (by decide) hj) (by decide)
      | exact oBelow (oDraw (size := 101) rfl (fun _ => eC) (by decide) (by decide) hj) (by decide)
      | exact oBelow (oDraw (size := 65536) rfl (fun _ => eC) (by decide) (by decide) hj) (by decide)
      | skip
    refine oBin (P := below 65536) (Q := below 65536) (oDraw (size := 65536) rfl (fun _ => eC) (by decide) (by decide) hj) (fun S1 h1 => oDraw (size := 65536) rfl (fun _ => eC) (by decide) (by decide) h1) ?_
    rintro _ _ ⟨a, rfl, ha⟩ ⟨b, rfl, hb⟩
    exact ⟨_, fun S2 => b_and a b, _, rfl, Nat.lt_of_le_of_lt Nat.and_le_left ha⟩
  obtain ⟨_, S3, e6, ⟨m, rfl, hm⟩, f3⟩ := p6
  have le0 : ∀ (env : EnvD) (S : Sto), env[1]? = some (some (dn w)) → env[3]? = some (some (dn p.length)) → JOK S j → Ok j S (ev (Gk (k + 2)) (.cmp .LtE (.var 1) (.var 3)) env S) (isB fun t => t = true → w ≤ p.length) := fun env S h1 h3 hj =>
    ⟨_, S, eQ (eV h1) (eV h3) (leI w p.length), ⟨_, rfl, of_decide_eq_true⟩, Fr.refl hj⟩
  have dr0 : ∀ (n : Nat) (env : EnvD) (S : Sto), env[0]? = some (some (.ref j)) → 0 < n → n < 1000 → JOK S j → Ok j S (ev (Gk (k + 2)) (.cmp .Eq (.call "_law_draw" [(.var 0), (.cst (dn n))]) (.cst (dn 0))) env S) (isB fun _ => True) := fun n env S h0 h1 h2 hj =>
    oCmp (A := below n) (B := below 1) (oDraw h0 (fun _ => eC) h1 (by omega) hj) (fun S1 h1 => oI (n := 0) h1 (by decide)) (by
      rintro _ _ ⟨a, rfl, _⟩ ⟨b, rfl, _⟩
      exact ⟨_, fun S2 => eqI a b, trivial⟩)
  have p7 : Ok j S3 (ev (Gk (k + 2)) (.ife (.and' (.cmp .LtE (.var 1) (.var 3)) (.cmp .Eq (.call "_law_draw" [(.var 0), (.cst (.int 4))]) (.cst (.int 0)))) (.bin .Sub (.var 3) (.var 1)) (.cst .non)) [some (.ref j), some (dn w), some r, some (dn p.length), some (dn lo), some (dn hi), some (dn m), none, none, none] S3) (OK7 · 256) :=
    oIfe (oAnd (le0 _ _ rfl rfl f3.ok) fun S1 h1 => dr0 4 _ _ rfl (by decide) (by decide) h1) (fun S1 h1 q => ⟨_, S1, eB (eV rfl) (eV rfl) (b_sub p.length w (q rfl)), .inr ⟨_, rfl, by omega⟩, Fr.refl h1⟩) (fun S1 h1 _ => oC h1 (.inl rfl))
  obtain ⟨x, S4, e7, hx7, f4⟩ := p7
  have p8 : Ok j S4 (ev (Gk (k + 2)) (.ife (.and' (.cmp .LtE (.var 1) (.var 3)) (.cmp .Eq (.call "_law_draw" [(.var 0), (.cst (.int 3))]) (.cst (.int 0)))) (.call "_law_draw" [(.var 0), (.bin .Add (.bin .Sub (.var 3) (.var 1)) (.cst (.int 1)))]) (.cst .non)) [some (.ref j), some (dn w), some r, some (dn p.length), some (dn lo), some (dn hi), some (dn m), some x, none, none] S4) (OK7 · 256) :=
    oIfe (oAnd (le0 _ _ rfl rfl f4.ok) fun S1 h1 => dr0 3 _ _ rfl (by decide) (by decide) h1) (fun S1 h1 q => (oDraw (size := p.length - w + 1) rfl (fun S => eB (eB (eV rfl) (eV rfl) (b_sub p.length w (q rfl))) eC (K12.p1 _ _)) (by omega) (by omega) h1).imp fun d ⟨a, e, ha⟩ => .inr ⟨a, e, by omega⟩) (fun S1 h1 _ => oC h1 (.inl rfl))
  obtain ⟨y, S5, e8, hy7, f5⟩ := p8
  have p9 : Ok j S5 (ev (Gk (k + 2)) (.call "_law_pick" [(.var 0), (.call "_law_handles" [(.var 1), (.var 2)])]) [some (.ref j), some (dn w), some r, some (dn p.length), some (dn lo), some (dn hi), some (dn m), some x, some y, none] S5) (OK7 · 5) :=
    oPick rfl (fun S hj => by
      obtain ⟨l, e, l0, l1, l2⟩ := c_handles (k := k + 1) (S := S) (w := w) hr0
      exact ⟨_, S, eCallc (k := k + 2) rfl (es1 (eV rfl) (es1 (eV rfl) es0)) e, ⟨l, rfl, l0, l1, l2⟩, Fr.refl hj⟩) f5.ok
  obtain ⟨z, S6, e9, hz7, f6⟩ := p9
  have A : AbP w (v7 lo hi m (w &&& m) x y z) lo hi m (w &&& m) x y z := ⟨rfl, by omega, by omega, by omega, hm, rfl, hx7, hy7, hz7⟩
  have a9 : ev (Gk (k + 2)) (.tup [(.var 4), (.var 5), (.var 6), (.bin .BitAnd (.var 1) (.var 6)), (.var 7), (.var 8), (.call "_law_pick" [(.var 0), (.call "_law_handles" [(.var 1), (.var 2)])])]) [some (.ref j), some (dn w), some r, some (dn p.length), some (dn lo), some (dn hi), some (dn m), some x, some y, none] S5 = some (v7 lo hi m (w &&& m) x y z, S6) :=
    eTup (es1 (eV rfl) (es1 (eV rfl) (es1 (eV rfl) (es1 (eB (eV rfl) (eV rfl) (b_and w m)) (es1 (eV rfl) (es1 (eV rfl) (es1 e9 es0))))))) (by simp)
  have p10 : Ok j S6 (ev (Gk (k + 2)) (.ife (.cmp .Gt (.call "_law_draw" [(.var 0), (.cst (.int 3))]) (.cst (.int 0))) (.call "_law_tightened" [(.var 9)]) (.var 9)) [some (.ref j), some (dn w), some r, some (dn p.length), some (dn lo), some (dn hi), some (dn m), some x, some y, some (v7 lo hi m (w &&& m) x y z)] S6) (fun d => ∃ lo hi m b, AbP w d lo hi m b x y z) := by
    refine oIfe (Q := fun _ => True) (oCmp (A := below 3) (B := below 1) (oDraw (size := 3) rfl (fun _ => eC) (by decide) (by decide) f6.ok) (fun S1 h1 => oI (n := 0) h1 (by decide)) (by
      rintro _ _ ⟨a, rfl, _⟩ ⟨b, rfl, _⟩
      exact ⟨_, fun S2 => gtI a b, trivial⟩)) (fun S1 h1 _ => ?_) (fun S1 h1 _ => oV rfl h1 ⟨_, _, _, _, A⟩)
    obtain ⟨f, g, T, B⟩ := A.tight
    obtain ⟨M, e⟩ := c_law_tightened (k := k) (S := S1) (x := x) (y := y) (z := z) (by omega) (by omega) hm (Fit.sub_of_fits T.ff) T.e
    exact ⟨_, S1 ++ M, eCallc (k := k + 2) rfl (es1 (eV rfl) es0) e, ⟨_, _, _, _, B⟩, Fr.app h1 M⟩
  obtain ⟨d, S7, e10, ⟨lo', hi', m', b', B⟩, f7⟩ := p10
  refine ⟨d, lo', hi', m', b', x, y, z, S7, call_of f__law_about rfl (.inl ⟨_, xAsg (i := 3) a3 (xAsg (i := 4) (eB (eV rfl) (eBlt (es1 (eV rfl) (es1 e4 es0)) (minI _ _)) (b_sub w (min w r4) (Nat.min_le_left _ _))) (by rw [hlo]; exact (xAsg (i := 5) a5 (xAsg (i := 6) e6 (xAsg (i := 7) e7 (xAsg (i := 8) e8 (xAsg (i := 9) a9 (xRet e10)))))))) ⟩), B, f1.trans (f2.trans (f3.trans (f4.trans (f5.trans (f6.trans f7)))))⟩
end K12

namespace K12
open PySem PySem.Spec PyProof.Rows L2 Ev
variable {k : Nat} {S : Sto}
/-! repr -/
structure Lf (x : D) (p : PyData) : Prop where
  e : py x = some p
  s : p.showable = true
  l : p.leavesShort 13 = true
  w : p.weight ≤ 64
  d : p.depth = 0
theorem lf_n {n : Nat} (h : n < 65536) : Lf (dn n) (.int n) := by
  have h1 := PyData.shown_int_le2 (i := (n : Int)) (by omega) (by omega)
  have h2 := int_log (i := (n : Int)) (by omega) (by omega)
  refine ⟨rfl, ?_, ?_, ?_, ?_⟩
  · simp only [PyData.showable, int_showable (i := (n : Int)) (by omega) (by omega)]
  · simp [PyData.leavesShort, h1]
  · simp only [PyData.weight]
    split <;> omega
  · simp [PyData.depth]
theorem lf_7 {x : D} {M : Nat} (h : OK7 x M) (hM : M ≤ 256) : ∃ p, Lf x p := by
  rcases h with rfl | ⟨n, rfl, hn⟩
  · exact ⟨.none, rfl, rfl, rfl, by simp [PyData.weight], by simp [PyData.depth]⟩
  · exact ⟨_, lf_n (by omega)⟩
theorem repr7 {w : Nat} {d : D} {lo hi m b : Nat} {x y z : D} (A : AbP w d lo hi m b x y z) : ∃ s, ∀ S : Sto, bfun S .repr [v7 lo hi m b x y z] = some (.str s) := by
  have K := A.kv
  obtain ⟨px, hx⟩ := lf_7 A.x7 (by decide)
  obtain ⟨qy, hy⟩ := lf_7 A.y7 (by decide)
  obtain ⟨pz, hz⟩ := lf_7 A.z7 (by decide)
  have h1 := lf_n K.hl
  have h2 := lf_n K.hh
  have h3 := lf_n K.hm
  have h4 := lf_n K.hb
  refine ⟨(PyData.tuple [.int lo, .int hi, .int m, .int b, px, qy, pz]).shown, fun S => ?_⟩
  show shw (py (v7 lo hi m b x y z)) = _
  refine shw_ok (p := .tuple [.int lo, .int hi, .int m, .int b, px, qy, pz]) ?_ ?_ ?_ ?_ ?_
  · simp [v7, py, pys, h1.e, h2.e, h3.e, h4.e, hx.e, hy.e, hz.e]
  · have a1 := h1.s; have a2 := h2.s; have a3 := h3.s; have a4 := h4.s; have a5 := hx.s; have a6 := hy.s; have a7 := hz.s
    rw [PyData.showable]
    simp only [PyData.showableAll, a1, a2, a3, a4, a5, a6, a7, Bool.and_true]
  · have a1 := h1.l; have a2 := h2.l; have a3 := h3.l; have a4 := h4.l; have a5 := hx.l; have a6 := hy.l; have a7 := hz.l
    rw [PyData.leavesShort]
    simp only [PyData.leavesShortAll, a1, a2, a3, a4, a5, a6, a7, Bool.and_true]
  · have a1 := h1.w; have a2 := h2.w; have a3 := h3.w; have a4 := h4.w; have a5 := hx.w; have a6 := hy.w; have a7 := hz.w
    rw [PyData.weight]
    simp only [PyData.weightAll]
    omega
  · have a1 := h1.d; have a2 := h2.d; have a3 := h3.d; have a4 := h4.d; have a5 := hx.d; have a6 := hy.d; have a7 := hz.d
    rw [PyData.depth]
    simp only [PyData.depthAll, a1, a2, a3, a4, a5, a6, a7]
    decide
theorem neStr (s : Str) : cop S .NotEq (.str s) (.str s) = some false := by simp [cop, deq, scalEq]
theorem eqStr (s : Str) : cop S .Eq (.str s) (.str s) = some true := by simp [cop, deq, scalEq]
/-! lists of numbers, alike -/
theorem pys_flt {C : Nat → Bool} : ∀ (n j : Nat), ∃ l, pys (flt C dn n j) = some l ∧ PyData.canLayAll0 l = true ∧ PyData.depthAll l = 0
  | 0, j => ⟨[], rfl, rfl, rfl⟩
  | n + 1, j => by
    obtain ⟨l, e, h1, h2⟩ := pys_flt (C := C) n (j + 1)
    unfold flt
    split
    · refine ⟨.int j :: l, ?_, ?_, ?_⟩
      · simp [pys, py, dn, e]
      · simp [PyData.canLayAll0, PyData.canLay0, h1]
      · simp [PyData.depthAll, PyData.depth, h2]
    · exact ⟨l, e, h1, h2⟩
theorem neFlt {C : Nat → Bool} (n j : Nat) : cop S .NotEq (.lst (flt C dn n j)) (.lst (flt C dn n j)) = some false := by
  obtain ⟨l, e, h1, h2⟩ := pys_flt (C := C) n j
  have hp : py (.lst (flt C dn n j)) = some (.list l) := by simp [py, e]
  have h3 : PyData.canLay0 (.list l) = true := by simpa [PyData.canLay0] using h1
  have h4 : SeqAt.shaped (.list l) = true := by simp [SeqAt.shaped, h3, PyData.depth, h2]
  simp only [cop, deq, scalEq, der, hp, dataEq, h4, and_self, if_true, SeqAt.eqv_refl _ h3, Option.map_some, Bool.not_true]
/-! what a filter's list is -/
theorem flt_congr {C C' : Nat → Bool} {F : Nat → D} : ∀ {n j : Nat}, (∀ i, j ≤ i → i < j + n → C i = C' i) → flt C F n j = flt C' F n j
  | 0, _, _ => rfl
  | n + 1, j, h => by
    unfold flt
    rw [h j (Nat.le_refl _) (by omega), flt_congr (n := n) (j := j + 1) fun i a b => h i (by omega) (by omega)]
theorem flt_app {C : Nat → Bool} {F : Nat → D} : ∀ (a b j : Nat), flt C F (a + b) j = flt C F a j ++ flt C F b (j + a)
  | 0, b, j => by simp [flt]
  | a + 1, b, j => by
    rw [show a + 1 + b = (a + b) + 1 by omega]
    simp only [flt]
    rw [flt_app a b (j + 1), show j + 1 + a = j + (a + 1) by omega]
    split <;> simp
theorem flt_none {C : Nat → Bool} {F : Nat → D} : ∀ {n j : Nat}, (∀ i, j ≤ i → i < j + n → C i = false) → flt C F n j = []
  | 0, _, _ => rfl
  | n + 1, j, h => by
    unfold flt
    rw [h j (Nat.le_refl _) (by omega), flt_none (n := n) (j := j + 1) fun i a b => h i (by omega) (by omega)]
    rfl
theorem flt_first {C : Nat → Bool} {F : Nat → D} {r : Nat} : ∀ {n j : Nat}, j ≤ r → r < j + n → C r = true → (∀ i, j ≤ i → C i = true → i < j + n → r ≤ i) → (flt C F n j)[0]? = some (F r)
  | 0, j, h1, h2, _, _ => by omega
  | n + 1, j, h1, h2, h3, h4 => by
    unfold flt
    by_cases q : C j = true
    · have e : r = j := Nat.le_antisymm (h4 j (Nat.le_refl _) q (by omega)) h1
      rw [if_pos q, e]
      rfl
    · rw [if_neg q]
      have hj : j ≠ r := fun e => q (by rw [e]; exact h3)
      exact flt_first (n := n) (j := j + 1) (by omega) (by omega) h3 fun i a b c => h4 i (by omega) b (by omega)
theorem flt_last {C : Nat → Bool} {F : Nat → D} {r : Nat} : ∀ {n j : Nat}, j ≤ r → r < j + n → C r = true → (∀ i, j ≤ i → C i = true → i < j + n → i ≤ r) → (flt C F n j)[(flt C F n j).length - 1]? = some (F r)
  | 0, j, h1, h2, _, _ => by omega
  | n + 1, j, h1, h2, h3, h4 => by
    unfold flt
    by_cases z : j = r
    · subst z
      have e : flt C F n (j + 1) = [] := flt_none fun i a b => by
        cases q : C i with
        | false => rfl
        | true =>
          have := h4 i (by omega) q (by omega)
          omega
      rw [if_pos h3, e]
      rfl
    · have ih := flt_last (F := F) (n := n) (j := j + 1) (by omega) (by omega) h3 fun i a b c => h4 i (by omega) b (by omega)
      split
      · have h5 : (flt C F n (j + 1)).length - 1 < (flt C F n (j + 1)).length := (List.getElem?_eq_some_iff.mp ih).1
        rw [List.length_cons, show (flt C F n (j + 1)).length + 1 - 1 = ((flt C F n (j + 1)).length - 1) + 1 by omega, List.getElem?_cons_succ]
        exact ih
      · exact ih
theorem ixl_at {l : List D} {n : Nat} {d : D} (h : l[n]? = some d) : ixf S (.lst l) (dn n) = some d := by
  have hl : n < l.length := (List.getElem?_eq_some_iff.mp h).1
  simp [ixf, dn, seqOf, atD, atI, ixN, hl]
  exact (List.getElem?_eq_some_iff.mp h).2
theorem eCallk {G : Gb} {S1 : Sto} {env : EnvD} {f : Str} {ks : List Str} {ix : List Nat} {xs : List E} {ds as : List D} {r : D × Sto} (hs : evs G xs env S = some (ds, S1)) (hp : pick ix ds = some as) (h : G.cl f as S1 = some r) : ev G (.callk f ks ix xs) env S = some r := by simp only [ev, hs, hp, h]
theorem eCh2 {G : Gb} {env : EnvD} {S1 S2 : Sto} {x y z : E} {a b c : D} {t u : Bool} {op op' : CmpOp} (hx : ev G x env S = some (a, S1)) (hy : ev G y env S1 = some (b, S2)) (h : cop S2 op a b = some t) (hz : ev G z env S2 = some (c, S2)) (h2 : cop S2 op' b c = some u) : ev G (.chain op op' x y z) env S = some (.bl (t && u), S2) := by
  cases t with
  | false => simp only [ev, hx, hy, h, Bool.false_and]
  | true => simp only [ev, hx, hy, h, hz, h2, Bool.true_and]
theorem hiR (S : Sto) (lo n : Nat) (h : lo + n < 1000000) : itemsOf S 1 [dn lo, dn (lo + n)] = some (nums lo n, fun _ => true) := by
  have hr : ∀ i : Nat, i < 1000000 → Ev.inR (i : Int) = true := fun i hi => by
    unfold Ev.inR
    exact decide_eq_true (by omega)
  have e : rangeD (lo : Int) ((lo + n : Nat) : Int) = nums lo n := by
    have key : ∀ n j : Nat, (List.range' j n).map (fun i : Nat => D.int (i : Int)) = nums j n := by
      intro n
      induction n with
      | zero => intro j; rfl
      | succ n ih =>
        intro j
        rw [List.range'_succ, List.map_cons, ih]
        rfl
    unfold rangeD
    rw [show (((lo + n : Nat) : Int) - (lo : Int)).toNat = n by omega, ← key n lo, List.range_eq_range', ← Nat.add_zero lo, ← List.map_add_range', List.map_map, Nat.add_zero]
    congr 1
  unfold dn
  simp only [itemsOf, hr lo (by omega), hr (lo + n) h, and_self, if_true, e]
theorem c_put2 {lo hi m b m' : Nat} {x y z : D} : cl (k + 1) "_law_put" [v7 lo hi m b x y z, .int 2, dn m'] S = some (v7 lo hi m' b x y z, S) := by
  have s1 : ∀ S : Sto, slf S (v7 lo hi m b x y z) none (some 2) = some (.tup [dn lo, dn hi]) := fun S => rfl
  have s2 : ∀ S : Sto, slf S (v7 lo hi m b x y z) (some 3) none = some (.tup [dn b, x, y, z]) := fun S => rfl
  exact call_of f__law_put rfl (.inl ⟨_, xRet (eB (eB (eLt (eV rfl) (eV rfl) (s1 _)) (eTup (es1 (eV rfl) es0) (by simp)) (catT _ _ (by simp))) (eLf (eV rfl) (eB (eV rfl) eC (binS_of rfl)) (s2 _)) (catT _ _ (by simp)))⟩)
theorem c_put3 {lo hi m b b' : Nat} {x y z : D} : cl (k + 1) "_law_put" [v7 lo hi m b x y z, .int 3, dn b'] S = some (v7 lo hi m b' x y z, S) := by
  have s1 : ∀ S : Sto, slf S (v7 lo hi m b x y z) none (some 3) = some (.tup [dn lo, dn hi, dn m]) := fun S => rfl
  have s2 : ∀ S : Sto, slf S (v7 lo hi m b x y z) (some 4) none = some (.tup [x, y, z]) := fun S => rfl
  exact call_of f__law_put rfl (.inl ⟨_, xRet (eB (eB (eLt (eV rfl) (eV rfl) (s1 _)) (eTup (es1 (eV rfl) es0) (by simp)) (catT _ _ (by simp))) (eLf (eV rfl) (eB (eV rfl) eC (binS_of rfl)) (s2 _)) (catT _ _ (by simp)))⟩)
theorem c_any : cl (k + 1) "_law_any" [] S = some (v7 0 65535 0 0 .non .non .non, S) :=
  call_of f__law_any rfl (.inl ⟨_, xRet (eTup (es1 eC (es1 eC (es1 eC (es1 eC (es1 eC (es1 eC (es1 eC es0))))))) (by simp))⟩)
theorem ab_any : AbP 0 (v7 0 65535 0 0 .non .non .non) 0 65535 0 0 .non .non .non := ⟨rfl, by decide, by decide, by decide, by decide, by decide, .inl rfl, .inl rfl, .inl rfl⟩
theorem tight_any : Fit.tightN 0 65535 0 0 = some (0, 65535, 0, 0) := by
  obtain ⟨f, g, T, _⟩ := ab_any.tight
  have a := T.all 0 (by decide) (by decide) (by decide)
  have b := T.all 65535 (by decide) (by decide) (by decide)
  have hf : f = 0 := by omega
  have hg : g = 65535 := by
    have := T.gh
    omega
  have e := T.e
  rw [hf, hg] at e
  rw [e]
  decide +kernel
theorem c_tight_ab {w : Nat} {d : D} {lo hi m b f g : Nat} {x y z : D} (A : AbP w d lo hi m b x y z) (T : Fit.TF lo hi m b f g) : cl (k + 8) "tight" [d] S = some (v7 f g (m ||| Fit.top (Fit.bl (f ^^^ g))) (b ||| (f &&& Fit.top (Fit.bl (f ^^^ g)))) x y z, S) := by
  have := c_tight (k := k) (S := S) A.kv
  rw [T.e] at this
  rw [A.e]
  exact this
end K12

namespace K12
open PySem PySem.Spec PyProof.Rows L2 Ev
variable {k : Nat} {S : Sto}
theorem while_up {cd : EnvD → Sto → Option (Bool × Sto)} {body : EnvD → Sto → Option (Fl × EnvD × Sto)} {En : Nat → EnvD} {n : Nat} (c : ∀ i, cd (En i) S = some (decide (i < n), S)) (b : ∀ i, body (En i) S = some (.nx, En (i + 1), S)) : ∀ m i fuel, i + m = n → m < fuel → whileLoop cd body fuel (En i) S = some (.nx, En n, S)
  | 0, i, fuel, hi, hf => by
    obtain ⟨f, rfl⟩ : ∃ f, fuel = f + 1 := ⟨fuel - 1, by omega⟩
    have c0 := c i
    rw [decide_eq_false (by omega)] at c0
    unfold whileLoop
    rw [c0, show n = i by omega]
  | m + 1, i, fuel, hi, hf => by
    obtain ⟨f, rfl⟩ : ∃ f, fuel = f + 1 := ⟨fuel - 1, by omega⟩
    have c0 := c i
    rw [decide_eq_true (by omega)] at c0
    unfold whileLoop
    rw [c0]
    dsimp only
    rw [b i]
    exact while_up c b m (i + 1) f (by omega) (by omega)
def inC (m b : Nat) (j : Nat) : Bool := decide (j &&& m = b)
/-- all words that fit, of all words -/
theorem all_words {lo hi m b f g : Nat} (T : Fit.TF lo hi m b f g) (hh : hi < 65536) :
    flt (fun j => (decide (f ≤ j) && decide (j ≤ g)) && inC (m ||| Fit.top (Fit.bl (f ^^^ g))) (b ||| (f &&& Fit.top (Fit.bl (f ^^^ g)))) j) dn 65536 0 = flt (inC m b) dn (hi + 1 - lo) lo := by
  have h1 := T.lf
  have h2 := T.fg
  have h3 := T.gh
  rw [show (65536 : Nat) = lo + ((hi + 1 - lo) + (65535 - hi)) by omega, flt_app lo, flt_app (hi + 1 - lo), Nat.zero_add]
  rw [flt_none (n := lo) (j := 0) fun i a b => by
    rw [decide_eq_false (p := f ≤ i) (by omega), Bool.false_and, Bool.false_and]]
  rw [flt_none (n := 65535 - hi) (j := lo + (hi + 1 - lo)) fun i a b => by
    rw [decide_eq_false (p := i ≤ g) (by omega), Bool.and_false, Bool.false_and]]
  rw [List.nil_append, List.append_nil]
  refine flt_congr fun i a1 a2 => ?_
  unfold inC
  by_cases q : f ≤ i ∧ i ≤ g
  · rw [decide_eq_true q.1, decide_eq_true q.2, Bool.true_and, Bool.true_and]
    exact decide_eq_decide.mpr (T.more q.1 q.2)
  · have e1 : (decide (f ≤ i) && decide (i ≤ g)) = false := by
      rw [← Bool.decide_and]
      exact decide_eq_false q
    have e2 : ¬ (i &&& m = b) := fun z => q (T.all i a1 (by omega) z)
    rw [e1, Bool.false_and, decide_eq_false e2]
def wC : E := .cmp .NotEq (.bin .RShift (.var 7) (.var 9)) (.bin .RShift (.var 8) (.var 9))
def wB : List T := [(.asg (.name 9) (.bin .Add (.var 9) (.cst (.int 1))))]
theorem wide2 {a0 a1 a2 a3 a4 a5 a6 a10 a11 : Option D} {f g : Nat} (hf : f < 65536) (hg : g < 65536) :
    whileLoop (Ev.cond (Gk k) wC) (exs (Gk k) 20 wB) 20 [a0, a1, a2, a3, a4, a5, a6, some (dn f), some (dn g), some (dn 0), a10, a11] S = some (.nx, [a0, a1, a2, a3, a4, a5, a6, some (dn f), some (dn g), some (dn (Fit.bl (f ^^^ g))), a10, a11], S) := by
  have b16 := Fit.bl_16 (show f ^^^ g < 65536 from Nat.xor_lt_two_pow (n := 16) hf hg)
  refine while_up (En := fun i => [a0, a1, a2, a3, a4, a5, a6, some (dn f), some (dn g), some (dn i), a10, a11]) (n := Fit.bl (f ^^^ g)) (fun i => ?_) (fun i => ?_) (Fit.bl (f ^^^ g)) 0 20 (by omega) (by omega)
  · have e : (!decide (f / 2 ^ i = g / 2 ^ i)) = decide (i < Fit.bl (f ^^^ g)) := by
      by_cases q : i < Fit.bl (f ^^^ g)
      · rw [decide_eq_true q, decide_eq_false fun z => ?_, Bool.not_false]
        have := Fit.bl_le.mpr ((Fit.xor_div f g i).mpr z)
        omega
      · rw [decide_eq_false q, decide_eq_true ((Fit.xor_div f g i).mp (Fit.bl_le.mp (by omega))), Bool.not_true]
    rw [← e]
    exact cN (w := 0) (eQ (eB (eV rfl) (eV rfl) (b_shr _ _)) (eB (eV rfl) (eV rfl) (b_shr _ _)) (neI _ _))
  · exact xAsg (i := 9) (eB (eV rfl) eC (p1 i _)) xNil
def eSome : E := .comp [6] [6] true 1 [(.idx (.var 4) (.cst (.int 0))), (.bin .Add (.idx (.var 4) (.cst (.int 1))) (.cst (.int 1)))] true (.cmp .Eq (.bin .BitAnd (.var 6) (.var 3)) (.idx (.var 4) (.cst (.int 3)))) (.var 6)
def eDue : E := .bin .Add (.tup [(.var 7), (.var 8), (.bin .BitOr (.var 3) (.var 10)), (.bin .BitOr (.idx (.var 4) (.cst (.int 3))) (.bin .BitAnd (.var 7) (.var 10)))]) (.sl (.var 4) true false (.cst (.int 4)) (.cst .non))
def eBad : E := .or' (.cmp .NotEq (.blt .repr [(.call "tight" [(.var 4)])]) (.blt .repr [(.var 11)])) (.or' (.cmp .NotEq (.blt .repr [(.callk "tight" ["known"] [0] [(.var 4)])]) (.blt .repr [(.var 11)])) (.cmp .NotEq (.blt .repr [(.call "tight" [(.var 11)])]) (.blt .repr [(.var 11)])))
def eAll : E := .comp [6] [6] true 1 [(.cst (.int 65536))] true (.and' (.chain .LtE .LtE (.var 7) (.var 6) (.var 8)) (.cmp .Eq (.bin .BitAnd (.var 6) (.idx (.var 11) (.cst (.int 2)))) (.idx (.var 11) (.cst (.int 3))))) (.var 6)
def eLast : E := .and' (.cmp .Eq (.blt .repr [(.call "tight" [(.var 4)])]) (.blt .repr [(.call "_law_tightened" [(.var 4)])])) (.cmp .Eq (.blt .repr [(.call "tight" [(.call "_law_any" [])])]) (.blt .repr [(.call "_law_any" [])]))
def ePick : E := .call "_law_pick" [(.var 0), (.lst [(.cst (.int 1)), (.cst (.int 7)), (.cst (.int 65280)), (.call "_law_draw" [(.var 0), (.cst (.int 65536))]), (.bin .BitAnd (.call "_law_draw" [(.var 0), (.cst (.int 65536))]) (.call "_law_draw" [(.var 0), (.cst (.int 65536))]))])]
theorem right_eq : t__law_right = [(.asg (.name 1) (.call "_law_midway" [(.var 0), (.call "_law_grant" [(.var 0)]), (.cst (.int 0))])), (.asg (.name 2) (.idx (.idx (.var 1) (.cst (.int 0))) (.cst (.int 0)))), (.asg (.name 3) ePick), (.asg (.name 4) (.call "_law_put" [(.call "_law_put" [(.call "_law_about" [(.var 0), (.var 2), (.var 1)]), (.cst (.int 2)), (.var 3)]), (.cst (.int 3)), (.bin .BitAnd (.var 2) (.var 3))])), (.asg (.name 5) eSome), (.tup [(.name 7), (.name 8), (.name 9)] (.tup [(.idx (.var 5) (.cst (.int 0))), (.idx (.var 5) (.bin .Sub (.blt .len [(.var 5)]) (.cst (.int 1)))), (.cst (.int 0))])), (.while' wC wB), (.asg (.name 10) (.bin .Sub (.cst (.int 65536)) (.bin .LShift (.cst (.int 1)) (.var 9)))), (.asg (.name 11) eDue), (.ife eBad [(.ret (.cst (.bl false)))] []), (.ife (.cmp .NotEq eAll (.var 5)) [(.ret (.cst (.bl false)))] []), (.asg (.name 4) (.call "_law_about" [(.var 0), (.idx (.idx (.var 1) (.cst (.int 1))) (.cst (.int 0))), (.var 1)])), (.ret eLast)] := rfl
theorem e_some {a0 a1 a2 a5 a6 a7 a8 a9 a10 a11 : Option D} {lo hi m b : Nat} {x y z : D} (hl : lo ≤ hi) (hh : hi < 65536) :
    ev (Gk k) eSome [a0, a1, a2, some (dn m), some (v7 lo hi m b x y z), a5, a6, a7, a8, a9, a10, a11] S = some (.lst (flt (inC m b) dn (hi + 1 - lo) lo), S) := by
  have q0 : ∀ S : Sto, ixf S (v7 lo hi m b x y z) (.int 0) = some (dn lo) := fun S => ix_at (n := 0) rfl
  have q1 : ∀ S : Sto, ixf S (v7 lo hi m b x y z) (.int 1) = some (dn hi) := fun S => ix_at (n := 1) rfl
  have q3 : ∀ S : Sto, ixf S (v7 lo hi m b x y z) (.int 3) = some (dn b) := fun S => ix_at (n := 3) rfl
  have hr := hiR S lo (hi + 1 - lo) (by omega)
  rw [show lo + (hi + 1 - lo) = hi + 1 by omega] at hr
  refine eCompF (as := [dn lo, dn (hi + 1)]) (es1 (eIx (eV rfl) eC (q0 _)) (es1 (eB (eIx (eV rfl) eC (q1 _)) eC (p1 hi _)) es0)) hr (by omega) fun j _ _ => ?_
  exact ⟨_, rfl, eQ (eB (eV rfl) (eV rfl) (b_and _ _)) (eIx (eV rfl) eC (q3 _)) (eqI _ _), fun _ => eV rfl⟩
theorem e_all {a0 a1 a2 a3 a4 a5 a6 a9 a10 : Option D} {f g m b : Nat} {x y z : D} :
    ev (Gk k) eAll [a0, a1, a2, a3, a4, a5, a6, some (dn f), some (dn g), a9, a10, some (v7 f g m b x y z)] S = some (.lst (flt (fun j => (decide (f ≤ j) && decide (j ≤ g)) && inC m b j) dn 65536 0), S) := by
  have q2 : ∀ S : Sto, ixf S (v7 f g m b x y z) (.int 2) = some (dn m) := fun S => ix_at (n := 2) rfl
  have q3 : ∀ S : Sto, ixf S (v7 f g m b x y z) (.int 3) = some (dn b) := fun S => ix_at (n := 3) rfl
  refine eCompF (as := [dn 65536]) (es1 eC es0) (hiN S 65536 (by decide)) (by decide) fun j _ _ => ?_
  exact ⟨_, rfl, eA (eCh2 (eV rfl) (eV rfl) (leI _ _) (eV rfl) (leI _ _)) fun _ => eQ (eB (eV rfl) (eIx (eV rfl) eC (q2 _)) (b_and _ _)) (eIx (eV rfl) eC (q3 _)) (eqI _ _), fun _ => eV rfl⟩
theorem e_due {a0 a1 a2 a5 a6 a9 a11 : Option D} {lo hi m b f g t : Nat} {x y z : D} :
    ev (Gk k) eDue [a0, a1, a2, some (dn m), some (v7 lo hi m b x y z), a5, a6, some (dn f), some (dn g), a9, some (dn t), a11] S = some (v7 f g (m ||| t) (b ||| (f &&& t)) x y z, S) := by
  have q3 : ∀ S : Sto, ixf S (v7 lo hi m b x y z) (.int 3) = some (dn b) := fun S => ix_at (n := 3) rfl
  have s2 : ∀ S : Sto, slf S (v7 lo hi m b x y z) (some 4) none = some (.tup [x, y, z]) := fun S => rfl
  exact eB (eTup (es1 (eV rfl) (es1 (eV rfl) (es1 (eB (eV rfl) (eV rfl) (b_or _ _)) (es1 (eB (eIx (eV rfl) eC (q3 _)) (eB (eV rfl) (eV rfl) (b_and _ _)) (b_or _ _)) es0)))) (by simp)) (eLf (eV rfl) eC (s2 _)) (catT _ _ (by simp))
theorem e_bad {a0 a1 a2 a3 a5 a6 a7 a8 a9 a10 : Option D} {d1 d2 : D} {s : Str} (t1 : cl (k + 8) "tight" [d1] S = some (d2, S)) (t2 : cl (k + 8) "tight" [d2] S = some (d2, S)) (r : bfun S .repr [d2] = some (.str s)) :
    ev (Gk (k + 8)) eBad [a0, a1, a2, a3, some d1, a5, a6, a7, a8, a9, a10, some d2] S = some (.bl false, S) :=
  eO (t := false) (u := false) (eQ (eBlt (es1 (eCallc (k := k + 8) rfl (es1 (eV rfl) es0) t1) es0) r) (eBlt (es1 (eV rfl) es0) r) (neStr s)) fun _ =>
    eO (t := false) (u := false) (eQ (eBlt (es1 (eCallk (es1 (eV rfl) es0) rfl t1) es0) r) (eBlt (es1 (eV rfl) es0) r) (neStr s)) fun _ =>
      eQ (eBlt (es1 (eCallc (k := k + 8) rfl (es1 (eV rfl) es0) t2) es0) r) (eBlt (es1 (eV rfl) es0) r) (neStr s)
theorem e_last {a0 a1 a2 a3 a5 a6 a7 a8 a9 a10 a11 : Option D} {w : Nat} {d : D} {lo hi m b : Nat} {x y z : D} {j : Nat} (hj : JOK S j) (A : AbP w d lo hi m b x y z) :
    ∃ S', ev (Gk (k + 8)) eLast [a0, a1, a2, a3, some d, a5, a6, a7, a8, a9, a10, a11] S = some (.bl true, S') ∧ Fr j S S' := by
  obtain ⟨f, g, T, B⟩ := A.tight
  obtain ⟨s, hs⟩ := repr7 B
  obtain ⟨s2, hs2⟩ := repr7 ab_any
  have t1 := c_tight_ab (k := k) (S := S) A T
  obtain ⟨M, e⟩ := c_law_tightened (k := k + 6) (S := S) (x := x) (y := y) (z := z) (Nat.lt_of_le_of_lt A.kv.le A.hh) A.hh A.hm (Fit.sub_of_fits A.f) T.e
  have t2 : cl (k + 8) "_law_tightened" [d] S = some (v7 f g (m ||| Fit.top (Fit.bl (f ^^^ g))) (b ||| (f &&& Fit.top (Fit.bl (f ^^^ g)))) x y z, S ++ M) := by
    rw [A.e]
    exact e
  have t3 : ∀ S : Sto, cl (k + 8) "tight" [v7 0 65535 0 0 .non .non .non] S = some (v7 0 65535 0 0 .non .non .non, S) := fun S => by
    have := c_tight (k := k) (S := S) ab_any.kv
    rw [tight_any] at this
    exact this
  refine ⟨S ++ M, ?_, Fr.app hj M⟩
  refine eA (t := true) (u := true) (eQ (eBlt (es1 (eCallc (k := k + 8) rfl (es1 (eV rfl) es0) t1) es0) (hs _)) (eBlt (es1 (eCallc (k := k + 8) rfl (es1 (eV rfl) es0) t2) es0) (hs _)) (eqStr s)) fun _ => ?_
  exact eQ (eBlt (es1 (eCallc (k := k + 8) rfl (es1 (eCallc (k := k + 8) rfl es0 (c_any (k := k + 7))) es0) (t3 _)) es0) (hs2 _)) (eBlt (es1 (eCallc (k := k + 8) rfl es0 (c_any (k := k + 7))) es0) (hs2 _)) (eqStr s2)
theorem c_right {j : Nat} (hj : JOK S j) : ∃ S', cl (k + 9) "_law_right" [.ref j] S = some (.bl true, S') ∧ Fr j S S' := by
  obtain ⟨g0, l0, m0, a0, ks, S1, e1, hg, f1⟩ := c_grant (k := k + 4) hj
  obtain ⟨r, ws, us, cs, p, ts, c, w', S2, e2, hr, f2⟩ := c_midway (k := k + 2) f1.ok hg
  have hw0 : ∃ w, ws[0]? = some (dn w) ∧ w < 65536 := by
    have hl : 0 < ws.length := by rw [hr.wl]; decide
    obtain ⟨w, e, h⟩ := hr.wp ws[0] (List.getElem_mem _)
    exact ⟨w, by rw [List.getElem?_eq_getElem hl, e], h⟩
  have hu0 : ∃ w, us[0]? = some (dn w) ∧ w < 65536 := by
    have hl : 0 < us.length := by rw [hr.ul]; decide
    obtain ⟨w, e, h⟩ := hr.up us[0] (List.getElem_mem _)
    exact ⟨w, by rw [List.getElem?_eq_getElem hl, e], h⟩
  obtain ⟨w, ew, hw⟩ := hw0
  obtain ⟨u, eu, hu⟩ := hu0
  have i0 : ∀ S : Sto, ixf S r (.int 0) = some (.tup ws) := fun S => by rw [hr.e]; exact ix_at (n := 0) rfl
  have i1 : ∀ S : Sto, ixf S r (.int 1) = some (.tup us) := fun S => by rw [hr.e]; exact ix_at (n := 1) rfl
  have w0 : ∀ S : Sto, ixf S (.tup ws) (.int 0) = some (dn w) := fun S => ix_at (n := 0) ew
  have u0 : ∀ S : Sto, ixf S (.tup us) (.int 0) = some (dn u) := fun S => ix_at (n := 0) eu
  have j2 := f2.ok
  have p3 : Ok j S2 (ev (Gk (k + 8)) ePick [some (.ref j), some r, some (dn w), none, none, none, none, none, none, none, none, none] S2) (below 65536) := by
    unfold ePick
    refine oPickL rfl (fun x hx S hj => ?_) (by simp) (by simp) (by assumption)
    simp only [List.mem_cons, List.not_mem_nil, or_false] at hx
    repeat' (rcases hx with hx | hx)
    all_goals first
      | exact oVn rfl hj (by omega)
      | exact oI (n := 0) hj (by decide)
      | exact oI (n := 1) hj (by decide)
      | exact oI (n := 3) hj (by decide)
      | exact oI (n := 4) hj (by decide)
      | exact oI (n := 5) hj (by decide)
      | exact oI (n := 7) hj (by decide)
      | exact oI (n := 14) hj (by decide)
      | exact oI (n := 20) hj (by decide)
      | exact oI (n := 40) hj (by decide)
      | exact oI (n := 65280) hj (by decide)
      | exact oI (n := 65535) hj (by decide)
      | exact oBelow (oDraw (size := 60) rfl (fun _ => eC) (by decide) (by decide) hj) (by decide)
      | exact oBelow (oDraw (size := 70) rfl (fun _ => eC) (by decide) (by decide) hj) (by decide)
      | exact oBelow (oDraw (size := 101) rfl (fun _ => eC) (by decide) (by decide) hj) (by decide)
      | exact oBelow (oDraw (size := 65536) rfl (fun _ => eC) (by decide) (by decide) hj) (by decide)
      | skip
    refine oBin (P := below 65536) (Q := below 65536) (oDraw (size := 65536) rfl (fun _ => eC) (by decide) (by decide) hj) (fun S1 h1 => oDraw (size := 65536) rfl (fun _ => eC) (by decide) (by decide) h1) ?_
    rintro _ _ ⟨a, rfl, ha⟩ ⟨b, rfl, hb⟩
    exact ⟨_, fun S2 => b_and a b, _, rfl, Nat.lt_of_le_of_lt Nat.and_le_left ha⟩
  obtain ⟨_, S3, e3, ⟨m, rfl, hm⟩, f3⟩ := p3
  obtain ⟨d, lo, hi, m1, b1, x, y, z, S4, e4, A, f4⟩ := c_about (k := k + 5) f3.ok hr hw
  have hd := A.e
  subst hd
  have B : AbP w (v7 lo hi m (w &&& m) x y z) lo hi m (w &&& m) x y z := ⟨rfl, A.lw, A.wh, A.hh, hm, rfl, A.x7, A.y7, A.z7⟩
  obtain ⟨f, g, T, C⟩ := B.tight
  have lw := A.lw
  have wh := A.wh
  have hh := A.hh
  have Tl := T.lf
  have Tf := T.fg
  have Tg := T.gh
  have hf : f < 65536 := by omega
  have hgg : g < 65536 := by omega
  have b16 := Fit.bl_16 (show f ^^^ g < 65536 from Nat.xor_lt_two_pow (n := 16) hf hgg)
  have a4 : ev (Gk (k + 8)) (.call "_law_put" [(.call "_law_put" [(.call "_law_about" [(.var 0), (.var 2), (.var 1)]), (.cst (.int 2)), (.var 3)]), (.cst (.int 3)), (.bin .BitAnd (.var 2) (.var 3))]) [some (.ref j), some r, some (dn w), some (dn m), none, none, none, none, none, none, none, none] S3 = some (v7 lo hi m (w &&& m) x y z, S4) :=
    eCallc (k := k + 8) rfl (es1 (eCallc (k := k + 8) rfl (es1 (eCallc (k := k + 8) rfl (es1 (eV rfl) (es1 (eV rfl) (es1 (eV rfl) es0))) e4) (es1 eC (es1 (eV rfl) es0))) (c_put2 (k := k + 7))) (es1 eC (es1 (eB (eV rfl) (eV rfl) (b_and w m)) es0))) (c_put3 (k := k + 7))
  generalize hL : flt (inC m (w &&& m)) dn (hi + 1 - lo) lo = L
  have l0 : L[0]? = some (dn f) := by
    rw [← hL]
    exact flt_first (by omega) (by omega) (decide_eq_true T.ff) fun i a b c => (T.all i a (by omega) (of_decide_eq_true b)).1
  have l1 : L[L.length - 1]? = some (dn g) := by
    rw [← hL]
    exact flt_last (by omega) (by omega) (decide_eq_true T.fg2) fun i a b c => (T.all i a (by omega) (of_decide_eq_true b)).2
  have ll : 0 < L.length := (List.getElem?_eq_some_iff.mp l0).1
  have a5 := e_some (k := k + 8) (S := S4) (a0 := some (.ref j)) (a1 := some r) (a2 := some (dn w)) (a5 := none) (a6 := none) (a7 := none) (a8 := none) (a9 := none) (a10 := none) (a11 := none) (lo := lo) (hi := hi) (m := m) (b := w &&& m) (x := x) (y := y) (z := z) (by omega) hh
  rw [hL] at a5
  have a6 : ev (Gk (k + 8)) (.tup [(.idx (.var 5) (.cst (.int 0))), (.idx (.var 5) (.bin .Sub (.blt .len [(.var 5)]) (.cst (.int 1)))), (.cst (.int 0))]) [some (.ref j), some r, some (dn w), some (dn m), some (v7 lo hi m (w &&& m) x y z), some (.lst L), none, none, none, none, none, none] S4 = some (.tup [dn f, dn g, dn 0], S4) :=
    eTup (es1 (eIx (eV rfl) eC (ixl_at (n := 0) l0)) (es1 (eIx (eV rfl) (eB (eBlt (d := dn L.length) (es1 (eV rfl) es0) rfl) eC (b_sub L.length 1 ll)) (ixl_at l1)) (es1 eC es0))) (by simp)
  have a7 := wide2 (k := k + 8) (S := S4) (a0 := some (.ref j)) (a1 := some r) (a2 := some (dn w)) (a3 := some (dn m)) (a4 := some (v7 lo hi m (w &&& m) x y z)) (a5 := some (.lst L)) (a6 := none) (a10 := none) (a11 := none) hf hgg
  have t16 : ∀ S : Sto, binS S .Sub (.int 65536) (dn (1 * 2 ^ Fit.bl (f ^^^ g))) = some (dn (Fit.top (Fit.bl (f ^^^ g)))) := fun S => by
    have hp : 2 ^ Fit.bl (f ^^^ g) ≤ 2 ^ 16 := Nat.pow_le_pow_right (by decide) b16
    rw [Fit.top_sub b16, Nat.one_mul]
    exact b_sub 65536 _ hp
  generalize hn : Fit.bl (f ^^^ g) = n at *
  have a8 : ev (Gk (k + 8)) (.bin .Sub (.cst (.int 65536)) (.bin .LShift (.cst (.int 1)) (.var 9))) [some (.ref j), some r, some (dn w), some (dn m), some (v7 lo hi m (w &&& m) x y z), some (.lst L), none, some (dn f), some (dn g), some (dn n), none, none] S4 = some (dn (Fit.top n), S4) :=
    eB eC (eB eC (eV rfl) (b_shl 1 n (by decide) (by omega))) (t16 _)
  have a9 := e_due (k := k + 8) (S := S4) (a0 := some (.ref j)) (a1 := some r) (a2 := some (dn w)) (a5 := some (.lst L)) (a6 := none) (a9 := some (dn n)) (a11 := none) (lo := lo) (hi := hi) (m := m) (b := w &&& m) (f := f) (g := g) (t := Fit.top n) (x := x) (y := y) (z := z)
  have t1 := c_tight_ab (k := k) (S := S4) B T
  rw [hn] at t1
  have t2 : cl (k + 8) "tight" [v7 f g (m ||| Fit.top n) (w &&& m ||| f &&& Fit.top n) x y z] S4 = some (v7 f g (m ||| Fit.top n) (w &&& m ||| f &&& Fit.top n) x y z, S4) := by
    obtain ⟨f2, g2, T2⟩ := Fit.tight_of (lo := f) (hi := g) (m := m ||| Fit.top n) (b := w &&& m ||| f &&& Fit.top n) C.lw C.wh C.hh C.hm C.f
    have h1 := T2.all f (Nat.le_refl _) Tf (by rw [← hn]; exact (T.more (Nat.le_refl _) Tf).mpr T.ff)
    have h2 := T2.all g Tf (Nat.le_refl _) (by rw [← hn]; exact (T.more Tf (Nat.le_refl _)).mpr T.fg2)
    have q1 : f2 = f := Nat.le_antisymm h1.1 T2.lf
    have q2 : g2 = g := Nat.le_antisymm T2.gh h2.2
    subst q1 q2
    have := c_tight_ab (k := k) (S := S4) C T2
    rw [hn, Nat.or_assoc, Nat.or_self, Nat.or_assoc, Nat.or_self] at this
    exact this
  obtain ⟨s, hs⟩ := repr7 C
  have a10 := e_bad (k := k) (S := S4) (a0 := some (.ref j)) (a1 := some r) (a2 := some (dn w)) (a3 := some (dn m)) (a5 := some (.lst L)) (a6 := none) (a7 := some (dn f)) (a8 := some (dn g)) (a9 := some (dn n)) (a10 := some (dn (Fit.top n))) t1 t2 (hs _)
  have a11 := e_all (k := k + 8) (S := S4) (a0 := some (.ref j)) (a1 := some r) (a2 := some (dn w)) (a3 := some (dn m)) (a4 := some (v7 lo hi m (w &&& m) x y z)) (a5 := some (.lst L)) (a6 := none) (a9 := some (dn n)) (a10 := some (dn (Fit.top n))) (f := f) (g := g) (m := m ||| Fit.top n) (b := w &&& m ||| f &&& Fit.top n) (x := x) (y := y) (z := z)
  have aw := all_words T hh
  rw [hn, hL] at aw
  rw [aw] at a11
  have ne : cop S4 .NotEq (.lst L) (.lst L) = some false := by
    rw [← hL]
    exact neFlt _ _
  obtain ⟨d2, lo2, hi2, m2, b2, x2, y2, z2, S5, e12, A2, f5⟩ := c_about (k := k + 5) f4.ok hr hu
  have a12 : ev (Gk (k + 8)) (.call "_law_about" [(.var 0), (.idx (.idx (.var 1) (.cst (.int 1))) (.cst (.int 0))), (.var 1)]) [some (.ref j), some r, some (dn w), some (dn m), some (v7 lo hi m (w &&& m) x y z), some (.lst L), none, some (dn f), some (dn g), some (dn n), some (dn (Fit.top n)), some (v7 f g (m ||| Fit.top n) (w &&& m ||| f &&& Fit.top n) x y z)] S4 = some (d2, S5) :=
    eCallc (k := k + 8) rfl (es1 (eV rfl) (es1 (eIx (eIx (eV rfl) eC (i1 _)) eC (u0 _)) (es1 (eV rfl) es0))) e12
  obtain ⟨S6, a13, f6⟩ := e_last (k := k) (a0 := some (.ref j)) (a1 := some r) (a2 := some (dn w)) (a3 := some (dn m)) (a5 := some (.lst L)) (a6 := none) (a7 := some (dn f)) (a8 := some (dn g)) (a9 := some (dn n)) (a10 := some (dn (Fit.top n))) (a11 := some (v7 f g (m ||| Fit.top n) (w &&& m ||| f &&& Fit.top n) x y z)) f5.ok A2
  refine ⟨S6, call_of f__law_right rfl (.inl ?_), f1.trans (f2.trans (f3.trans (f4.trans (f5.trans f6))))⟩
  rw [right_eq]
  exact ⟨_, xAsg (i := 1) (eCallc (k := k + 8) rfl (es1 (eV rfl) (es1 (eCallc (k := k + 8) rfl (es1 (eV rfl) es0) e1) (es1 eC es0))) e2) (xAsg (i := 2) (eIx (eIx (eV rfl) eC (i0 _)) eC (w0 _)) (xAsg (i := 3) e3 (xAsg (i := 4) a4 (xAsg (i := 5) a5 (xTup a6 rfl (xWhile a7 (xAsg (i := 10) a8 (xAsg (i := 11) a9 (xIfF a10 (xIfF (eQ a11 (eV rfl) ne) (xAsg (i := 4) a12 (xRet a13))))))))))))⟩
end K12

namespace K12
open PySem PySem.Spec PyProof.Rows L2 Ev
variable {k : Nat} {S : Sto}
def bMix : List T := [(.asg (.name 4) (.bin .Mod (.blt .int [(.bin .Add (.bin .Add (.bin .Mult (.var 4) (.cst (.int 48271))) (.bin .Mod (.blt .int [(.var 5)]) (.cst (.int 2147483579)))) (.cst (.int 17)))]) (.cst (.int 2147483629))))]
def eOwn : E := .ife (.cmp .Lt (.var 1) (.blt .len [(.var 0)])) (.blt .int [(.idx (.var 0) (.var 1))]) (.cst (.int 0))
def eMix : E := .bin .Mod (.blt .int [(.bin .Add (.bin .Add (.bin .Mult (.var 4) (.cst (.int 40014))) (.bin .Mult (.bin .Mod (.blt .int [(.var 3)]) (.cst (.int 2147483399))) (.cst (.int 16807)))) (.cst (.int 3)))]) (.cst (.int 2147483629))
def eX : E := .ife (.cmp .GtE (.blt .abs [(.var 3)]) (.bin .Pow (.cst (.int 10)) (.cst (.int 15)))) (.blt .abs [(.var 3)]) (.cst (.int 0))
theorem well_eq : t__law_well = [(.asg (.name 3) eOwn), (.asg (.name 4) (.bin .Add (.var 2) (.bin .Mult (.cst (.int 7919)) (.var 1)))), (.for' [5] true 0 [(.sl (.var 0) false true (.cst .non) (.cst (.int 9)))] bMix), (.asg (.name 4) eMix), (.ret (.newl [eX, (.var 4), (.cst (.int 0))]))] := rfl
theorem cut_mem {l : List D} {lo hi : Option Int} {d : D} (h : d ∈ cutD l lo hi) : d ∈ l := List.mem_of_mem_drop (List.mem_of_mem_take h)
theorem c_well {ns : List Int} {t st : Int} (ht : 0 ≤ t) : ∃ x m : Int, cl (k + 1) "_law_well" [.rls (ns.map D.int), .int t, .int st] S = some (.ref S.length, S ++ [.lst [.int x, .int m, .int 0]]) := by
  have own : ∃ o : Int, ev (Gk k) eOwn [some (.rls (ns.map D.int)), some (.int t), some (.int st), none, none, none] S = some (.int o, S) := by
    by_cases h : t < ns.length
    · have h2 : t.toNat < ns.length := by omega
      exact ⟨ns[t.toNat], by simp [eOwn, ev, evs, bfun, seqOf, cop, intLt, truth, h, ixf, atD, atI, ixN, ht, h2]⟩
    · exact ⟨0, by simp [eOwn, ev, evs, bfun, seqOf, cop, intLt, truth, h]⟩
  obtain ⟨o, eo⟩ := own
  have stp : ∀ d ∈ cutD (ns.map D.int) none (some 9), ∀ (env : EnvD) (S2 : Sto), (∃ (m : Int) (x5 : Option D), env = [some (.rls (ns.map D.int)), some (.int t), some (.int st), some (.int o), some (.int m), x5] ∧ S2 = S) →
      ∃ env1 env2 S3, bindT [5] true d env = some env1 ∧ exs (Gk k) 20 bMix env1 S2 = some (.nx, env2, S3) ∧ (∃ (m : Int) (x5 : Option D), env2 = [some (.rls (ns.map D.int)), some (.int t), some (.int st), some (.int o), some (.int m), x5] ∧ S3 = S) := by
    rintro d hd env S2 ⟨m, x5, rfl, rfl⟩
    obtain ⟨i, _, rfl⟩ := List.mem_map.mp (cut_mem hd)
    refine ⟨[some (.rls (ns.map D.int)), some (.int t), some (.int st), some (.int o), some (.int m), some (.int i)], [some (.rls (ns.map D.int)), some (.int t), some (.int st), some (.int o), some (.int ((m * 48271 + i % 2147483579 + 17) % 2147483629)), some (.int i)], S2, by simp [bindT, setAll], ?_, _, _, rfl, rfl⟩
    simp [bMix, exs, ex, ev, evs, asgT, binS, bop, ibop, bfun]
  obtain ⟨env2, S2, e, ⟨m, x5, rfl, hS⟩⟩ := forLoop_inv (bd := bindT [5] true) (body := exs (Gk k) 20 bMix) (env := [some (.rls (ns.map D.int)), some (.int t), some (.int st), some (.int o), some (.int (st + 7919 * t)), none]) (S := S) stp ⟨_, _, rfl, rfl⟩
  rw [hS] at e
  have s1 : ev (Gk k) (.bin .Add (.var 2) (.bin .Mult (.cst (.int 7919)) (.var 1))) [some (.rls (ns.map D.int)), some (.int t), some (.int st), some (.int o), none, none] S = some (.int (st + 7919 * t), S) := by simp [ev, binS, bop, ibop]
  have s2 : evs (Gk k) [(.sl (.var 0) false true (.cst .non) (.cst (.int 9)))] [some (.rls (ns.map D.int)), some (.int t), some (.int st), some (.int o), some (.int (st + 7919 * t)), none] S = some ([.lst (cutD (ns.map D.int) none (some 9))], S) := by simp [ev, evs, slf, seqOf]
  have s3 : ∃ m2 : Int, ev (Gk k) eMix [some (.rls (ns.map D.int)), some (.int t), some (.int st), some (.int o), some (.int m), x5] S = some (.int m2, S) := ⟨(m * 40014 + o % 2147483399 * 16807 + 3) % 2147483629, by simp [eMix, ev, evs, binS, bop, ibop, bfun]⟩
  obtain ⟨m2, s3⟩ := s3
  have hx : ∃ x : Int, ev (Gk k) eX [some (.rls (ns.map D.int)), some (.int t), some (.int st), some (.int o), some (.int m2), x5] S = some (.int x, S) := by
    have pw : (10 : Int) ^ 15 = 1000000000000000 := by decide
    generalize hq : (if o < 0 then -o else o) = q
    by_cases h2 : 1000000000000000 ≤ q
    · exact ⟨q, by simp [eX, ev, evs, bfun, cop, intLt, truth, binS, bop, ibop, hq, h2]⟩
    · exact ⟨0, by simp [eX, ev, evs, bfun, cop, intLt, truth, binS, bop, ibop, hq, h2]⟩
  obtain ⟨x, e3⟩ := hx
  refine ⟨x, m2, call_of f__law_well rfl (.inl ?_)⟩
  rw [well_eq]
  exact ⟨_, xAsg (i := 3) eo (xAsg (i := 4) s1 (xFor s2 rfl e (xAsg (i := 4) s3 (xRet (eNew (es1 e3 (es1 (eV rfl) (es1 eC es0))) (by simp))))))⟩
theorem law_eq : t_law = [.ret (.blt .all [.comp [1] [1] true 1 [.cst (.int 2)] false (.cst .non) (.call "_law_right" [.call "_law_well" [.var 0, .var 1, .cst (.int 92851855)]])])] := rfl
theorem c_law (ns : List Int) : ∃ S', cl (k + 10) "law" [.rls (ns.map D.int)] S = some (.bl true, S') := by
  have st : ∀ d ∈ nums 0 2, ∀ S2 : Sto, True → ∃ env1 S3, bindT [1] true d [some (.rls (ns.map D.int)), none] = some env1 ∧ ev (Gk (k + 9)) (.call "_law_right" [.call "_law_well" [.var 0, .var 1, .cst (.int 92851855)]]) env1 S2 = some (.bl true, S3) ∧ True := by
    intro d hd S2 _
    have hd2 : ∃ i : Nat, d = dn i := by
      simp only [nums, List.mem_cons, List.not_mem_nil, or_false] at hd
      rcases hd with rfl | rfl
      · exact ⟨0, rfl⟩
      · exact ⟨1, rfl⟩
    obtain ⟨i, rfl⟩ := hd2
    obtain ⟨x, m, e1⟩ := c_well (k := k + 8) (S := S2) (ns := ns) (t := (i : Int)) (st := 92851855) (by omega)
    obtain ⟨S4, e2, _⟩ := c_right (k := k) (S := S2 ++ [.lst [.int x, .int m, .int 0]]) (j := S2.length) ⟨x, m, 0, by simp⟩
    exact ⟨[some (.rls (ns.map D.int)), some (dn i)], S4, rfl, eCallc (k := k + 9) rfl (es1 (eCallc (k := k + 9) rfl (es1 (eV rfl) (es1 (eV rfl) (es1 eC es0))) e1) es0) e2, trivial⟩
  obtain ⟨S', e, _⟩ := compLoop_inv (bd := bindT [1] true) (I := fun _ => True) (S := S) (acc := []) st trivial (by simp [nums])
  refine ⟨S', call_of f_law rfl (.inl ?_)⟩
  rw [law_eq]
  have s4 : ev (Gk (k + 9)) (.comp [1] [1] true 1 [.cst (.int 2)] false (.cst .non) (.call "_law_right" [.call "_law_well" [.var 0, .var 1, .cst (.int 92851855)]])) [some (.rls (ns.map D.int)), none] S = some (.lst ([] ++ List.replicate (nums 0 2).length (.bl true)), S') := by
    have h0 : evs (Gk (k + 9)) [.cst (.int 2)] [some (.rls (ns.map D.int)), none] S = some ([dn 2], S) := es1 eC es0
    have h1 := hiN S 2 (by decide)
    rw [ev, h0]
    dsimp only
    rw [h1]
    dsimp only [wipeD, List.set]
    rw [e]
  exact ⟨_, xRet (eBlt (es1 s4 es0) (by simp only [bfun, seqOf, List.nil_append, bls_true, Option.map_some]; simp))⟩
end K12

open PySem PySem.W PySem.Calls PyProof.Rows
set_option maxHeartbeats 0 in
theorem PySem.Challenge.cw_suresieves_k12_whole_tight_the_same_word_holds : PySem.Challenge.rw_suresieves_k12_whole_tight_the_same_word.Holds := by
  w_on; o_law
  refine HandSHeadRun.head_any (r := K12.R) (q := view K12.R.prog [40]) (H := K12.hk) (ob := K12.ob) (M := 3000) (loose := K12.loose) (d := HandSHeadRun.topDef K12.R.prog 40) (kwd := []) K12.ob_eq
    (by kernel_rfl) (fun s => by kernel_rfl) K12.run (by kernel_rfl) (by kernel_rfl) (by kernel_rfl) (by rfl) (by first | assumption | decide +kernel) (by decide +kernel) ⟨rfl, rfl, rfl, rfl, rfl, by decide +kernel⟩ ?hw ?hc
  case hw => w_witness2
  case hc =>
    refine Ev.law_walk (l := PySem.Challenge.rw_suresieves_k12_whole_tight_the_same_word) (k := 10) (wf := 20) (x := "script") (dl := K12.d_law) K12.tx K12.ag ?_ rfl (by kernel_rfl) rfl (by kernel_rfl) ⟨rfl, by decide, by decide⟩ ?_
    · simp [K12.pg]
    · exact fun ns _ => K12.c_law (k := 0) (S := []) ns

