import PyProof.Rows.All
import Wide.All
import OpenK.AllK
import Wide.FinOn
import PyProof.EqAt
import PyProof.EqKinds
import PyProof.TupleCall
import KE.BitLaws
import Open.SpecLaws
import KE.OsHead
import KE.OsGo
import PyVbavae
import PySem.Challenge.RW_votedsensors_s01_answers
set_option genSizeOf false
section
set_option Elab.async false
set_option linter.all false
set_option maxRecDepth 100000
namespace L2
open PySem PySem.Spec PyProof.Rows

/-- a key: an int or a str -/
noncomputable abbrev Key := Sum Int Str
noncomputable def keyIs : Key → Value → Bool
  | .inl k, v => Value.isInt k v
  | .inr x, v => Value.isStrOf x v
noncomputable def keyH (w : World) : Key → Int
  | .inl k => hashInt k
  | .inr x => hashStr w x
theorem keyIs_shape : ∀ {k : Key} {v : Value}, keyIs k v = true → (∃ i t, k = Sum.inl i ∧ v = Value.int i t) ∨ (∃ x t, k = Sum.inr x ∧ v = Value.str x t)
  | .inl i, v, h => by
    obtain ⟨t, e⟩ := Value.isInt_shape (k := i) (v := v) h
    exact .inl ⟨i, t, rfl, e⟩
  | .inr x, v, h => by
    obtain ⟨t, e⟩ := Value.isStrOf_shape (x := x) (v := v) h
    exact .inr ⟨x, t, rfl, e⟩
theorem key_ll (a b : Int) : decide ((Sum.inl a : Key) = Sum.inl b) = (a == b) := by
  by_cases e : a = b
  · subst e; simp
  · have h : ¬ (Sum.inl a : Key) = Sum.inl b := fun q => e (Sum.inl.inj q)
    rw [decide_eq_false h]
    exact (beq_eq_false_iff_ne.mpr e).symm
theorem key_rr (a b : Str) : decide ((Sum.inr a : Key) = Sum.inr b) = decide (a = b) := by
  by_cases e : a = b
  · subst e; simp
  · have h : ¬ (Sum.inr a : Key) = Sum.inr b := fun q => e (Sum.inr.inj q)
    rw [decide_eq_false h, decide_eq_false e]
theorem key_lr (a : Int) (b : Str) : decide ((Sum.inl a : Key) = Sum.inr b) = false := decide_eq_false (fun q => nomatch q)
theorem key_rl (a : Str) (b : Int) : decide ((Sum.inr a : Key) = Sum.inl b) = false := decide_eq_false (fun q => nomatch q)

noncomputable def mixKind (prog : Program) (w : World) : PySem.KeyKind prog w Key where
  is := keyIs
  hash := keyH w
  inj := fun v a b ha hb => by
    rcases keyIs_shape ha with ⟨i, t, rfl, rfl⟩ | ⟨x, t, rfl, rfl⟩
    · rcases keyIs_shape hb with ⟨j, u, rfl, e⟩ | ⟨y, u, rfl, e⟩
      · injection e with e1 _; rw [e1]
      · exact nomatch e
    · rcases keyIs_shape hb with ⟨j, u, rfl, e⟩ | ⟨y, u, rfl, e⟩
      · exact nomatch e
      · injection e with e1 _; rw [e1]
  byValue := fun k v h => by
    rcases keyIs_shape h with ⟨i, t, rfl, rfl⟩ | ⟨x, t, rfl, rfl⟩ <;> rfl
  pyHash := fun hv h => by
    rcases keyIs_shape hv with ⟨i, t, rfl, rfl⟩ | ⟨x, t, rfl, rfl⟩
    · exact wpAny_pyHash_int h
    · exact wpAny_pyHash_str h
  eqBool := fun hu hv h => by
    rcases keyIs_shape hu with ⟨i, t, rfl, rfl⟩ | ⟨x, t, rfl, rfl⟩
    · rcases keyIs_shape hv with ⟨j, u, rfl, rfl⟩ | ⟨y, u, rfl, rfl⟩
      · rw [key_ll] at h; exact wpAny_eqBool_int h
      · rw [key_lr] at h; exact SeqAt.EqAt.int_str i t y u _ _ _ _ h
    · rcases keyIs_shape hv with ⟨j, u, rfl, rfl⟩ | ⟨y, u, rfl, rfl⟩
      · rw [key_rl] at h; exact SeqAt.EqAt.str_int x t j u _ _ _ _ h
      · rw [key_rr] at h; exact wpAny_eqBool_str h
  «strs» := fun k x t v h => by
    rcases keyIs_shape h with ⟨i, u, rfl, e⟩ | ⟨y, u, rfl, e⟩
    · exact nomatch e
    · injection e with e1 _
      subst e1
      cases v <;> rfl

end L2

namespace L2
open PySem PySem.Spec PyProof.Rows

/-- a value, without the heap -/
inductive V where
  | non | bl (b : Bool) | int (i : Int) | str (x : Str) | byt (b : Array UInt8) | flt (b : UInt64) | ref (a : Addr) | ty (n : String)
  deriving DecidableEq

noncomputable def RelV : V → Value → Prop
  | .non, u => u = Value.none
  | .bl b, u => u = Value.bool b
  | .int i, u => ∃ t, u = Value.int i t
  | .str x, u => ∃ t, u = Value.str x t
  | .byt b, u => ∃ t, u = Value.bytes b t
  | .flt b, u => ∃ t, u = Value.float b t
  | .ref a, u => u = Value.ref a
  | .ty n, u => u = Value.type n

noncomputable abbrev Vals : List V → List Value → Prop := Paired RelV
theorem Vals.length {xs : List V} {us : List Value} (r : Vals xs us) : xs.length = us.length := Paired.length r
theorem Vals.get : ∀ {xs : List V} {us : List Value} {i : Nat} {x : V}, Vals xs us → xs[i]? = some x → ∃ u, us[i]? = some u ∧ RelV x u
  | _, _, _, _, .nil, e => by simp at e
  | _, _, 0, _, .cons r _, e => by simp at e; subst e; exact ⟨_, rfl, r⟩
  | _, _, i + 1, x, .cons _ t, e => by
    obtain ⟨u, h1, h2⟩ := Vals.get (i := i) (x := x) t (by simpa using e)
    exact ⟨u, by simpa using h1, h2⟩
theorem Vals.append : ∀ {xs ys : List V} {us ws : List Value}, Vals xs us → Vals ys ws → Vals (xs ++ ys) (us ++ ws)
  | _, _, _, _, .nil, s => s
  | _, _, _, _, .cons r t, s => .cons r (Vals.append t s)
theorem Vals.take : ∀ {xs : List V} {us : List Value} (n : Nat), Vals xs us → Vals (xs.take n) (us.take n)
  | _, _, 0, _ => .nil
  | _, _, _ + 1, .nil => .nil
  | _, _, n + 1, .cons r t => .cons r (Vals.take n t)
theorem Vals.drop : ∀ {xs : List V} {us : List Value} (n : Nat), Vals xs us → Vals (xs.drop n) (us.drop n)
  | _, _, 0, r => r
  | _, _, _ + 1, .nil => .nil
  | _, _, n + 1, .cons _ t => Vals.drop n t
noncomputable def RelO : Option V → Option Value → Prop
  | some v, some u => RelV v u
  | none, none => True
  | _, _ => False
noncomputable def KV {κ : Type} : List (κ × V) → List (κ × Value) → Prop := Paired fun (p : κ × V) (q : κ × Value) => p.1 = q.1 ∧ RelV p.2 q.2

/-- a key of a dict (00_mix): an int or a text -/
noncomputable def kV : Key → V
  | .inl i => .int i
  | .inr x => .str x

/-- what stands at a tracked address -/
inductive HO where
  /-- a list -/
  | lst (xs : List V)
  /-- a tuple (never changes) -/
  | tup (xs : List V)
  /-- a dict whose keys are ints and texts; one whose keys are tuples of ints and texts (the empty one is both) -/
  | dK (kvs : List (Key × V)) | dT (kvs : List (List Key × V))
  /-- a set of ints: its members, its size -/
  | set (S : Int → Bool) (n : Nat)
  /-- an instance of the class at C, its dict at dx, its attributes -/
  | ins (C dx : Addr) (fs : List (Str × V))
  /-- the dict of the instance at x -/
  | own (x : Addr)
  /-- the dict of an exception -/
  | xd (fs : List (Str × V))
  /-- a bound method, f of x -/
  | met (f x : Addr)
  /-- a range object lo, lo + 1, .. below hi -/
  | rng (lo hi : Int)
  /-- a thing that is known to the object (the script; a dict while a loop walks it): read, never written while it is so -/
  | frz (o : Obj) (u : HO)
  /-- a code object's table -/
  | tbl (ps : Array Value)
  /-- any other thing, by what is true of its one object (a def of one's own: SetO a S n := HO.ext fun h => ..) -/
  | ext (φ : Heap → Prop)

noncomputable abbrev Hp := Addr → Option HO
noncomputable def upd (H : Hp) (a : Addr) (o : HO) : Hp := fun b => if b = a then some o else H b
theorem upd_same {H : Hp} {a : Addr} {o : HO} : upd H a o a = some o := by unfold upd; rw [if_pos rfl]
theorem upd_ne {H : Hp} {a b : Addr} {o : HO} (h : b ≠ a) : upd H a o b = H b := by unfold upd; rw [if_neg h]
theorem upd_upd {H : Hp} {a : Addr} {o u : HO} : upd (upd H a o) a u = upd H a u := by
  funext b; unfold upd; split <;> rfl
/-- two objects of different content stand apart -/
theorem ne_of {H : Hp} {a b : Addr} {o u : HO} (h : H a = some o) (h' : H b = some u) (d : o ≠ u) : a ≠ b := by
  intro e; subst e; rw [h] at h'; exact d (Option.some.inj h')
theorem ne_of_none {H : Hp} {a b : Addr} {o : HO} (h : H a = some o) (h' : H b = none) : a ≠ b := by
  intro e; subst e; rw [h] at h'; cases h'

section
variable (P : Program) (w : World)
noncomputable def ObjOk (H : Hp) (h : Heap) (a : Addr) : HO → Prop
  | .lst xs => xs.length ≤ sizeLine ∧ ∃ (its : List Value) (n : Nat), Vals xs its ∧ h.get? a = some { cls := .type "list", data := .seq its.toArray n }
  | .tup xs => xs.length ≤ sizeLine ∧ ∃ its : List Value, Vals xs its ∧ IsTup h a its.toArray
  | .dK kvs => kvs.length ≤ sizeLine ∧ (a == sysModules) = false ∧ ∃ vs, KV kvs vs ∧ h.DictOf (mixKind P w) a vs
  | .dT kvs => kvs.length ≤ sizeLine ∧ (a == sysModules) = false ∧ ∃ xs : List (List Key × Addr × Value),
      Paired (fun (p : List Key × V) (q : List Key × Addr × Value) => p.1 = q.1 ∧ H q.2.1 = some (.tup (p.1.map kV)) ∧ RelV p.2 q.2.2) kvs xs ∧
      ∃ o es ep, h.get? a = some o ∧ o.ExactDict ∧ o.data = .dict es ep ∧ es.toList = xs.map (entryOfKey (tupleKind (mixKind P w))) ∧ (xs.map (·.1)).Nodup
  | .set S n => h.SetOf (intKind P w) a S n
  | .ins C dx fs => H dx = some (.own a) ∧ fs.length ≤ 1000 ∧ dx ≠ a ∧ h.get? a = some (PySem.W.instObj C dx) ∧
      ∃ mA, h.Ns1 dx mA ∧ (∀ f, RelO (fs.lookup f) (mA f)) ∧ PySem.Within mA (fs.map (·.1))
  | .own _ => ∃ o, h.get? a = some o
  | .xd fs => ∃ mA, h.Ns1 a mA ∧ ∀ f, RelO (fs.lookup f) (mA f)
  | .rng lo hi => ∃ t u v, h.get? a = some { cls := .type "range", data := .fields #[.int lo t, .int hi u, .int 1 v] }
  | .frz o u => h.get? a = some o ∧ ObjOk H h a u
  | .tbl ps => h.get? a = some { cls := .none, data := .fields ps }
  | .met f x => h.get? a = some (PySem.W.methodObj (.ref f) (.ref x))
  | .ext φ => φ h ∧ (∃ o, h.get? a = some o) ∧ ∀ h1 h2 : Heap, φ h1 → (∀ o, h1.get? a = some o → h2.get? a = some o) → φ h2
/-- the abstract heap is held -/
noncomputable def HOk (H : Hp) (h : Heap) : Prop := ∀ a o, H a = some o → ObjOk P w H h a o
end

section
variable {P : Program} {w : World} {H H' : Hp} {h h' : Heap} {a : Addr} {o : HO}
theorem ObjOk.lt (x : ObjOk P w H h a o) : a < h.objs.size := by
  cases o with
  | lst xs => obtain ⟨_, _, _, _, e⟩ := x; exact Heap.lt_size e
  | tup xs => obtain ⟨_, _, _, p⟩ := x; exact p.lt
  | dK kvs => obtain ⟨_, _, _, _, o, _, _, e, _⟩ := x; exact Heap.lt_size e
  | dT kvs => obtain ⟨_, _, _, _, o, _, _, e, _⟩ := x; exact Heap.lt_size e
  | set S n => obtain ⟨o, _, _, _, e, _⟩ := x; exact Heap.lt_size e
  | ins C dx fs => obtain ⟨_, _, _, e, _⟩ := x; exact Heap.lt_size e
  | own y => obtain ⟨_, e⟩ := x; exact Heap.lt_size e
  | xd fs => obtain ⟨_, ⟨_, _, _, e, _⟩, _⟩ := x; exact Heap.lt_size e
  | rng lo hi => obtain ⟨_, _, _, e⟩ := x; exact Heap.lt_size e
  | frz ob u => obtain ⟨e, _⟩ := x; exact Heap.lt_size e
  | tbl ps => exact Heap.lt_size (show h.get? a = some _ from x)
  | met f y => exact Heap.lt_size (show h.get? a = some _ from x)
  | ext φ => obtain ⟨_, ⟨_, e⟩, _⟩ := x; exact Heap.lt_size e
theorem Paired.mapP {α β : Type} {F G : α → β → Prop} : ∀ {l₁ : List α} {l₂ : List β}, Paired F l₁ l₂ → (∀ a b, F a b → G a b) → Paired G l₁ l₂
  | _, _, .nil, _ => .nil
  | _, _, .cons r t, f => .cons (f _ _ r) (Paired.mapP t f)
/-- what an object's description leans on: its own object, its own dict, the tuples -/
theorem ObjOk.stay (x : ObjOk P w H h a o) (k : ∀ b u, (b = a ∨ H b = some (.own a)) → h.get? b = some u → h'.get? b = some u)
    (ho : ∀ b, H b = some (.own a) → H' b = some (.own a)) (ht : ∀ b xs, H b = some (.tup xs) → H' b = some (.tup xs)) : ObjOk P w H' h' a o := by
  induction o with
  | lst xs => obtain ⟨z, its, n, r, e⟩ := x; exact ⟨z, its, n, r, k _ _ (.inl rfl) e⟩
  | tup xs => obtain ⟨z, its, r, ob, e, c⟩ := x; exact ⟨z, its, r, ob, k _ _ (.inl rfl) e, c⟩
  | dK kvs => obtain ⟨z, y, vs, r, ob, es, ep, e, c⟩ := x; exact ⟨z, y, vs, r, ob, es, ep, k _ _ (.inl rfl) e, c⟩
  | dT kvs =>
    obtain ⟨z, y, xs, r, ob, es, ep, e, c⟩ := x
    exact ⟨z, y, xs, Paired.mapP r fun p q z => ⟨z.1, ht _ _ z.2.1, z.2.2⟩, ob, es, ep, k _ _ (.inl rfl) e, c⟩
  | set S n => obtain ⟨ob, es, ep, t, e, c⟩ := x; exact ⟨ob, es, ep, t, k _ _ (.inl rfl) e, c⟩
  | ins C dx fs =>
    obtain ⟨d, z, ne, e, mA, ⟨od, es, ep, e2, c⟩, r⟩ := x
    exact ⟨ho _ d, z, ne, k _ _ (.inl rfl) e, mA, ⟨od, es, ep, k _ _ (.inr d) e2, c⟩, r⟩
  | own y => obtain ⟨ob, e⟩ := x; exact ⟨ob, k _ _ (.inl rfl) e⟩
  | xd fs => obtain ⟨mA, ⟨od, es, ep, e, c⟩, r⟩ := x; exact ⟨mA, ⟨od, es, ep, k _ _ (.inl rfl) e, c⟩, r⟩
  | rng lo hi => obtain ⟨t, u, v, e⟩ := x; exact ⟨t, u, v, k _ _ (.inl rfl) e⟩
  | frz ob u ih => obtain ⟨e, q⟩ := x; exact ⟨k _ _ (.inl rfl) e, ih q⟩
  | tbl ps =>
    have e : h.get? a = some { cls := .none, data := .fields ps } := x
    show h'.get? a = some { cls := .none, data := .fields ps }
    exact k a _ (.inl rfl) e
  | met f y =>
    have e : h.get? a = some (PySem.W.methodObj (.ref f) (.ref y)) := x
    show h'.get? a = some (PySem.W.methodObj (.ref f) (.ref y))
    exact k a _ (.inl rfl) e
  | ext φ => obtain ⟨p, ⟨o, e⟩, st⟩ := x; exact ⟨st _ _ p fun o q => k _ _ (.inl rfl) q, ⟨o, k _ _ (.inl rfl) e⟩, st⟩
theorem HOk.lt (x : HOk P w H h) (e : H a = some o) : a < h.objs.size := (x a o e).lt
theorem HOk.fresh (x : HOk P w H h) (e : h.objs.size ≤ a) : H a = none := by
  cases q : H a with
  | none => rfl
  | some u => exact absurd (Nat.lt_of_lt_of_le (x.lt q) e) (Nat.lt_irrefl _)
/-- every object of the heap is kept -/
theorem HOk.kept (x : HOk P w H h) (k : ∀ b u, h.get? b = some u → h'.get? b = some u) : HOk P w H h' := fun a o e =>
  (x a o e).stay (fun b u _ q => k b u q) (fun _ q => q) fun _ _ q => q
/-- a new object is laid and tracked -/
theorem HOk.laid (x : HOk P w H h) (k : ∀ b u, h.get? b = some u → h'.get? b = some u) (hp : h.objs.size ≤ a) (new : ObjOk P w (upd H a o) h' a o) : HOk P w (upd H a o) h' := fun b u e => by
  have hn := x.fresh hp
  by_cases hb : b = a
  · subst hb; rw [upd_same] at e; cases e; exact new
  · rw [upd_ne hb] at e
    exact (x b u e).stay (fun c v _ q => k c v q) (fun c q => by rw [upd_ne (ne_of_none q hn)]; exact q) fun c xs q => by rw [upd_ne (ne_of_none q hn)]; exact q
end

/-- what may be read as u: it is u, or a known u -/
noncomputable def Rd (H : Hp) (a : Addr) (u : HO) : Prop := H a = some u ∨ ∃ o, H a = some (.frz o u)
theorem Rd.ok {P : Program} {w : World} {H : Hp} {h : Heap} {a : Addr} {u : HO} (r : Rd H a u) (x : HOk P w H h) : ObjOk P w H h a u := by
  rcases r with r | ⟨o, r⟩
  · exact x a u r
  · obtain ⟨_, q⟩ := x a _ r
    exact q
/-- what may be written -/
noncomputable def Mut : Option HO → Prop
  | some (.lst _) => True
  | some (.dK _) => True
  | some (.dT _) => True
  | some (.set _ _) => True
  | some (.ins _ _ _) => True
  | some (.ext _) => True
  | _ => False
section
variable {P : Program} {w : World} {H : Hp} {h h' : Heap} {x e : Addr} {o' : HO}
/-- the object at e is changed: x itself, or the dict of the instance x -/
theorem HOk.write (ok : HOk P w H h) (mu : Mut (H x)) (he : e = x ∨ H e = some (.own x)) (k : ∀ b u, b ≠ e → h.get? b = some u → h'.get? b = some u) (heo : ∃ u, h'.get? e = some u)
    (new : ObjOk P w (upd H x o') h' x o') : HOk P w (upd H x o') h' := fun b u q => by
  have nown : ∀ c y, H c = some (.own y) → c ≠ x := fun c y r z => by subst z; rw [r] at mu; exact mu
  have ntup : ∀ c xs, H c = some (.tup xs) → c ≠ x := fun c xs r z => by subst z; rw [r] at mu; exact mu
  by_cases hb : b = x
  · subst hb; rw [upd_same] at q; cases q; exact new
  · rw [upd_ne hb] at q
    by_cases hbe : b = e
    · have q' : H b = some (.own x) := by
        rcases he with z | z
        · exact absurd (hbe.trans z) hb
        · rw [hbe]; exact z
      rw [q] at q'; cases q'
      obtain ⟨v, hv⟩ := heo
      exact ⟨v, by rw [hbe]; exact hv⟩
    · refine (ok b u q).stay (fun c v hc r => k c v ?_ r) (fun c r => by rw [upd_ne (nown c b r)]; exact r) fun c xs r => by rw [upd_ne (ntup c xs r)]; exact r
      rcases hc with rfl | hc
      · exact hbe
      · rintro rfl
        rcases he with z | z
        · exact nown c b hc z
        · rw [hc] at z; cases z; exact hb rfl
end

structure Un (fs ex : List Addr) (H H' : Hp) (h h' : Heap) : Prop where
  keep : ∀ b o, h.get? b = some o → H b = none → b ∉ fs → b ∉ ex → h'.get? b = some o
  slot : ∀ b o, h.get? b = some o → H b = none → b ∈ fs → b ∉ ex → ∃ sl, h'.get? b = some { o with slots := sl }
  free : ∀ b o, h.get? b = some o → H b = none → b ∉ ex → H' b = none
  there : ∀ b o, h.get? b = some o → b ∉ ex → ∃ o', h'.get? b = some o'
  tups : ∀ b xs, H b = some (.tup xs) → H' b = some (.tup xs)
  frzs : ∀ b o u, H b = some (.frz o u) → H' b = some (.frz o u)
  tbls : ∀ b ps, H b = some (.tbl ps) → ∃ more, H' b = some (.tbl (ps ++ more))
section
variable {fs fs' ex ex' : List Addr} {H H1 H2 : Hp} {h h1 h2 h' : Heap} {a x e : Addr} {o : HO}
theorem Un.any (u : Un fs ex H H1 h h1) {b : Addr} {ob : Obj} (q : h.get? b = some ob) (n : H b = none) (hx : b ∉ ex) : ∃ sl, h1.get? b = some { ob with slots := sl } := by
  by_cases hb : b ∈ fs
  · exact u.slot b ob q n hb hx
  · exact ⟨ob.slots, u.keep b ob q n hb hx⟩
theorem Un.kept (k : ∀ b u, h.get? b = some u → h'.get? b = some u) : Un fs ex H H h h' :=
  ⟨fun b ob q _ _ _ => k b ob q, fun b ob q _ _ _ => ⟨ob.slots, k b ob q⟩, fun _ _ _ n _ => n, fun b ob q _ => ⟨ob, k b ob q⟩, fun _ _ q => q, fun _ _ _ q => q, fun _ ps q => ⟨#[], by rw [q]; simp⟩⟩
theorem Un.refl : Un fs ex H H h h := Un.kept fun _ _ q => q
theorem Un.laid (k : ∀ b u, h.get? b = some u → h'.get? b = some u) (hp : h.objs.size ≤ a) (hn : H a = none) : Un fs ex H (upd H a o) h h' where
  keep := fun b u q _ _ _ => k b u q
  slot := fun b u q _ _ _ => ⟨u.slots, k b u q⟩
  free := fun b u q n _ => by rw [upd_ne (Nat.ne_of_lt (Nat.lt_of_lt_of_le (Heap.lt_size q) hp))]; exact n
  there := fun b u q _ => ⟨u, k b u q⟩
  tups := fun b xs q => by rw [upd_ne (ne_of_none q hn)]; exact q
  frzs := fun b u xs q => by rw [upd_ne (ne_of_none q hn)]; exact q
  tbls := fun b ps q => ⟨#[], by rw [upd_ne (ne_of_none q hn), q]; simp⟩
theorem Un.write (mu : Mut (H x)) (he : e = x ∨ H e = some (.own x)) (k : ∀ b u, b ≠ e → h.get? b = some u → h'.get? b = some u) (heo : ∃ u, h'.get? e = some u) : Un fs ex H (upd H x o) h h' := by
  have hx : ∀ b, H b = none → b ≠ x := fun b n z => by subst z; rw [n] at mu; exact mu
  have hb : ∀ b, H b = none → b ≠ e := fun b n z => by
    subst z
    rcases he with r | r
    · exact hx b n r
    · rw [n] at r; cases r
  have hm : ∀ b u, H b = some u → ¬ Mut (some u) → b ≠ x := fun b u q nm z => by subst z; rw [q] at mu; exact nm mu
  refine ⟨fun b u q n _ _ => k b u (hb b n) q, fun b u q n _ _ => ⟨u.slots, k b u (hb b n) q⟩, fun b u q n _ => by rw [upd_ne (hx b n)]; exact n, fun b u q _ => ?_,
    fun b xs q => by rw [upd_ne (hm b _ q fun z => z)]; exact q, fun b u xs q => by rw [upd_ne (hm b _ q fun z => z)]; exact q, fun b ps q => ⟨#[], by rw [upd_ne (hm b _ q fun z => z), q]; simp⟩⟩
  by_cases hbe : b = e
  · subst hbe; exact heo
  · exact ⟨u, k b u hbe q⟩
end

noncomputable def trk (h : Heap) (H : Hp) : List Addr := (List.range h.objs.size).filter fun a => (H a).isSome
noncomputable def hidT (h : Heap) (H : Hp) : Heap := PySem.W.hideAll h (trk h H)
theorem hidT_size (h : Heap) (H : Hp) : (hidT h H).objs.size = h.objs.size := PySem.W.hideAll_size _ _
theorem hidT_get {h : Heap} {H : Hp} {b : Addr} {o : Obj} (e : h.get? b = some o) (n : H b = none) : (hidT h H).get? b = some o :=
  PySem.W.hideAll_get _ e fun hm => by
    have q : (H b).isSome = true := (List.mem_filter.mp hm).2
    rw [n] at q; simp at q
theorem of_hidT {h : Heap} {H : Hp} {b : Addr} {o : Obj} (e : (hidT h H).get? b = some o) : h.get? b = some o ∧ H b = none := by
  have e' : h.get? b = some o := PySem.W.of_hideAll (trk h H) e
  refine ⟨e', ?_⟩
  cases q : H b with
  | none => rfl
  | some x =>
    have hm : b ∈ trk h H := List.mem_filter.mpr ⟨List.mem_range.mpr (Heap.lt_size e'), by simp [q]⟩
    have z : (hidT h H).get? b = none := PySem.W.hideAll_none (trk h H) hm
    rw [z] at e; cases e

end L2

namespace L2
open PySem PySem.Spec PyProof.Rows

/-- the module's facts, over the base: the heap at the law's entry without what is tracked there -/
structure Mod (K : PySem.W.Frag) (mg : Str → Option Value) (base : Heap) : Prop where
  kin : K.In base
  glob : base.Ns mainGlobals mg
  blt : ∃ mb, base.Ns builtinsNs mb ∧ ∀ x : Str, x ≠ "__name__" → mb x = bootBuiltins x
  nolimit : base.NoLimit

/-- the context: a def's body (or a comprehension's block) running. base: fixed through the whole law; s₀, H₀: the entry; outer: the frames whose slots others may change (a def's callers); stack: all frames that run;
   ex: iterators that were made ahead of the entry and are walked here (a comprehension's); fn: the names whose cells were made at the entry (a def: all; a comprehension's block: its own); calm: not within an except suite; pn: pins that every state bears; xe: what is wanted of an exception that leaves the code -/
structure Cx where
  prog : Program
  w : World
  K : PySem.W.Frag
  mg : Str → Option Value
  base : Heap
  A : Around
  N : List Str
  s_0 : Shared
  H_0 : Hp
  env : Env
  outer : List Env
  stack : List Env
  ex : List Addr
  fn : Str → Bool
  calm : Bool
  pn : List (Addr × Obj)
  xe : Value → Shared → Prop
/-- the callers' frames -/
noncomputable def frs (l : List Env) : List Addr := l.filterMap (·.frame)
noncomputable abbrev Cx.fs (X : Cx) : List Addr := frs X.outer

noncomputable def Vis (sc : Scope) (x : Str) : Prop := sc.names.lookup x = some .local ∨ sc.names.lookup x = some .cell ∨ sc.names.lookup x = some .free
noncomputable def Loc (sc : Scope) (x : Str) : Prop := sc.names.lookup x = some .local ∨ sc.names.lookup x = some .cell
noncomputable def Look (env : Env) (h : Heap) (m : Str → Option Value) (x : Str) (u : Value) : Prop :=
  (env.kindOf x = some .local ∧ m x = some u) ∨ ((env.kindOf x = some .cell ∨ env.kindOf x = some .free) ∧ ∃ c, env.cells.lookup x = some c ∧ h.IsCell c (some u))

structure Cx.Ok (X : Cx) : Prop where
  mod : Mod X.K X.mg X.base
  kind : X.env.scope.kind = .function
  glob : X.env.globals = mainGlobals
  blt : X.env.builtins = builtinsNs
  above : X.s_0.heap.objs.size ≤ X.env.locals
  inj : ∀ x y c, X.env.cells.lookup x = some c → X.env.cells.lookup y = some c → x = y
  has : ∀ x, (X.env.kindOf x = some .cell ∨ X.env.kindOf x = some .free) → ∃ c, X.env.cells.lookup x = some c
  cab : ∀ x c, X.fn x = true → X.env.cells.lookup x = some c → X.s_0.heap.objs.size ≤ c
  hd : X.calm = true → X.A.handled = none
  frames : X.A.frames = some X.stack
  stk : X.stack = X.outer ∨ (X.stack = X.env :: X.outer ∧ X.env.frame = some X.env.locals)
  exf : ∀ b ∈ X.ex, b ≠ X.env.locals ∧ ∀ x c, X.env.cells.lookup x = some c → c ≠ b
  bs : ∀ b o, X.base.get? b = some o → X.s_0.heap.get? b = some o ∧ X.H_0 b = none
  bsz : X.base.objs.size ≤ X.s_0.heap.objs.size
  noex : ∀ b o, X.base.get? b = some o → b ∉ X.ex
  exfs : ∀ b ∈ X.ex, b ∉ X.fs
  funs : X.s_0.heap.FunFrames X.base X.outer
  frf : ∀ b ∈ X.fs, X.H_0 b = none

structure Inv (X : Cx) (pins : List (Addr × Obj)) (σ : List (Option V)) (H : Hp) (s : Shared) : Prop where
  ok : X.Ok
  os : s.os = X.s_0.os
  bare : AllBare s.gens
  base : Un X.fs X.ex X.H_0 H X.s_0.heap s.heap
  loc : ∃ m, s.heap.Ns X.env.locals m ∧ ∀ (i : Nat) (x : Str) (v : V), X.N[i]? = some x → σ[i]? = some (some v) → Vis X.env.scope x → ∃ u, RelV v u ∧ Look X.env s.heap m x u
  cell : ∀ x c, X.env.cells.lookup x = some c → ∃ v, s.heap.IsCell c v
  free : H X.env.locals = none
  freeC : ∀ x c, X.env.cells.lookup x = some c → H c = none
  pin : ∀ p ∈ X.pn ++ pins, s.heap.get? p.1 = some p.2 ∧ H p.1 = none ∧ p.1 ≠ X.env.locals ∧ p.1 ∉ X.fs ∧ ∀ v, p.2.data ≠ .cell v
  hok : HOk X.prog X.w H s.heap
  len : σ.length = X.N.length

section
variable {X : Cx} {pins : List (Addr × Obj)} {σ : List (Option V)} {H H' : Hp} {s : Shared} {h' : Heap}

theorem Cx.Ok.nofr (ok : X.Ok) {b : Addr} {o : Obj} (e : X.base.get? b = some o) : b ∉ X.fs := fun hb => by
  have := (ok.funs.mem hb).1
  rw [e] at this; cases this
theorem Inv.bs (I : Inv X pins σ H s) : ∀ b o, X.base.get? b = some o → s.heap.get? b = some o ∧ H b = none := fun b o e =>
  ⟨I.base.keep b o (I.ok.bs b o e).1 (I.ok.bs b o e).2 (I.ok.nofr e) (I.ok.noex b o e), I.base.free b o (I.ok.bs b o e).1 (I.ok.bs b o e).2 (I.ok.noex b o e)⟩
theorem Inv.bk (I : Inv X pins σ H s) : ∀ b o, X.base.get? b = some o → s.heap.get? b = some o := fun b o e => (I.bs b o e).1
theorem Inv.mod (I : Inv X pins σ H s) : Mod X.K X.mg X.base := I.ok.mod
theorem Inv.kIn (I : Inv X pins σ H s) : X.K.In s.heap := I.ok.mod.kin.keeps I.bk
/-- the frame over the base: for OpenK's rules (K.In X.base is I.mod.kin) -/
theorem Inv.fr (I : Inv X pins σ H s) : ∃ m, Fr X.base X.env.locals s.heap m :=
  let ⟨m, hn, _⟩ := I.loc
  ⟨m, hn, I.bk, Nat.le_trans I.ok.bsz I.ok.above⟩
theorem Inv.lt (I : Inv X pins σ H s) : X.env.locals < s.heap.objs.size := let ⟨_, hn, _⟩ := I.loc; hn.lt
theorem Inv.sz (I : Inv X pins σ H s) : X.s_0.heap.objs.size ≤ s.heap.objs.size := Nat.le_trans I.ok.above (Nat.le_of_lt I.lt)
theorem Inv.nofs (I : Inv X pins σ H s) {a : Addr} (h : s.heap.objs.size ≤ a) : a ∉ X.fs := fun hb => by
  obtain ⟨_, o, ho, _⟩ := I.ok.funs.mem hb
  exact absurd (Nat.lt_of_lt_of_le (Heap.lt_size ho) (Nat.le_trans I.sz h)) (Nat.lt_irrefl _)
theorem Inv.cne (I : Inv X pins σ H s) : ∀ x c, X.env.cells.lookup x = some c → c ≠ X.env.locals := fun x c e z => by
  obtain ⟨v, o, ho, hd⟩ := I.cell x c e
  obtain ⟨m, ⟨o', es, ep, ho', hd', _⟩, _⟩ := I.loc
  rw [z, ho'] at ho; cases ho; rw [hd'] at hd; cases hd
theorem Inv.funs (I : Inv X pins σ H s) : s.heap.FunFrames X.base X.outer := by
  have all : ∀ (l : List Env), (∀ b ∈ frs l, b ∈ X.fs) → X.s_0.heap.FunFrames X.base l → s.heap.FunFrames X.base l := by
    intro l
    induction l with
    | nil => intro _ _; trivial
    | cons env r ih =>
      intro hs hl
      obtain ⟨hk, ⟨L, o, hf, hn, ho, hd⟩, hr⟩ := hl
      have hL : L ∈ X.fs := hs L (by unfold frs; rw [List.filterMap_cons, hf]; exact List.mem_cons_self)
      obtain ⟨sl, e⟩ := I.base.slot L o ho (I.ok.frf L hL) hL fun z => I.ok.exfs L z hL
      exact ⟨hk, ⟨L, _, hf, hn, e, hd⟩, ih (fun b hb => hs b (by unfold frs; rw [List.filterMap_cons, hf]; exact List.mem_cons_of_mem _ hb)) hr⟩
  exact all X.outer (fun _ hb => hb) I.ok.funs

/-- the frames that run, for a call -/
theorem Inv.stack (I : Inv X pins σ H s) : s.heap.FunFrames X.base X.stack := by
  rcases I.ok.stk with e | ⟨e, hf⟩
  · rw [e]; exact I.funs
  · rw [e]
    obtain ⟨m, hn, _⟩ := I.loc
    refine .cons (by rw [I.ok.kind]; decide) hf hn ?_ I.funs
    exact Heap.get?_none_of_le (Nat.le_trans I.ok.bsz I.ok.above)
theorem Inv.stkSub (I : Inv X pins σ H s) : ∀ b ∈ frs X.stack, b ∈ X.env.locals :: X.fs := fun b hb => by
  rcases I.ok.stk with e | ⟨e, hf⟩
  · rw [e] at hb; exact List.mem_cons_of_mem _ hb
  · rw [e] at hb
    unfold frs at hb
    rw [List.filterMap_cons, hf] at hb
    exact hb
theorem Inv.stkFree (I : Inv X pins σ H s) : ∀ b ∈ frs X.stack, H b = none := fun b hb => by
  rcases List.mem_cons.mp (I.stkSub b hb) with e | hb
  · rw [e]; exact I.free
  · obtain ⟨_, o, ho, _⟩ := I.ok.funs.mem hb
    exact I.base.free b o ho (I.ok.frf b hb) fun z => I.ok.exfs b z hb

/-- THE STEP: the untracked objects but the frame and the records at ch are kept (the callers' frames up to slots), the frame's map is kept, the new abstract heap is held -/
theorem Inv.step {g' : Array GenState} {t' : Nat} {d' : Drawn} {ch : List Addr} (I : Inv X pins σ H s)
    (hch : ∀ b ∈ ch, (b ∈ X.ex ∨ X.s_0.heap.objs.size ≤ b) ∧ b ≠ X.env.locals ∧ (∀ x c, X.env.cells.lookup x = some c → c ≠ b) ∧ ∀ p ∈ X.pn ++ pins, p.1 ≠ b)
    (keep : ∀ b o, b ≠ X.env.locals → b ∉ X.fs → b ∉ ch → s.heap.get? b = some o → H b = none → h'.get? b = some o)
    (slot : ∀ b o, b ≠ X.env.locals → b ∈ X.fs → b ∉ ch → s.heap.get? b = some o → H b = none → ∃ sl, h'.get? b = some { o with slots := sl }) (free : ∀ b o, b ∉ ch → s.heap.get? b = some o → H b = none → H' b = none)
    (there : ∀ b o, b ∉ ch → s.heap.get? b = some o → ∃ o', h'.get? b = some o')
    (tups : ∀ b xs, H b = some (.tup xs) → H' b = some (.tup xs)) (frzs : ∀ b o u, H b = some (.frz o u) → H' b = some (.frz o u)) (tbls : ∀ b ps, H b = some (.tbl ps) → ∃ more, H' b = some (.tbl (ps ++ more)))
    (ns : ∀ m, s.heap.Ns X.env.locals m → h'.Ns X.env.locals m) (hok : HOk X.prog X.w H' h') (hg : AllBare g') :
    Inv X pins σ H' { s with heap := h', gens := g', drawn := d', toks := t' } := by
  have neL : ∀ b o, X.s_0.heap.get? b = some o → b ≠ X.env.locals := fun b o e => Nat.ne_of_lt (Nat.lt_of_lt_of_le (Heap.lt_size e) I.ok.above)
  have neC : ∀ b o, X.s_0.heap.get? b = some o → b ∉ X.ex → b ∉ ch := fun b o e hx hb => by
    rcases (hch b hb).1 with z | z
    · exact hx z
    · exact absurd (Nat.lt_of_lt_of_le (Heap.lt_size e) z) (Nat.lt_irrefl _)
  have cellK : ∀ x c, X.env.cells.lookup x = some c → ∀ v, s.heap.IsCell c v → h'.IsCell c v := fun x c e v ⟨o, ho, hd⟩ => by
    have nch : c ∉ ch := fun z => (hch c z).2.2.1 x c e rfl
    by_cases hc : c ∈ X.fs
    · obtain ⟨sl, q⟩ := slot c o (I.cne x c e) hc nch ho (I.freeC x c e)
      exact ⟨_, q, hd⟩
    · exact ⟨o, keep c o (I.cne x c e) hc nch ho (I.freeC x c e), hd⟩
  refine ⟨I.ok, I.os, hg, ⟨fun b o e n hb hx => ?_, fun b o e n hb hx => ?_, fun b o e n hx => ?_, fun b o e hx => ?_, fun b xs e => tups b xs (I.base.tups b xs e), fun b o xs e => frzs b o xs (I.base.frzs b o xs e), fun b ps e => ?_⟩, ?_, fun x c e => ?_, ?_, fun x c e => ?_, fun p hp => ?_, hok, I.len⟩
  · exact keep b o (neL b o e) hb (neC b o e hx) (I.base.keep b o e n hb hx) (I.base.free b o e n hx)
  · obtain ⟨sl, e1⟩ := I.base.slot b o e n hb hx
    obtain ⟨sl', e2⟩ := slot b _ (neL b o e) hb (neC b o e hx) e1 (I.base.free b o e n hx)
    exact ⟨sl', e2⟩
  · obtain ⟨o', e1⟩ := I.base.there b o e hx
    exact free b o' (neC b o e hx) e1 (I.base.free b o e n hx)
  · obtain ⟨o', e1⟩ := I.base.there b o e hx
    exact there b o' (neC b o e hx) e1
  · obtain ⟨m1, e1⟩ := I.base.tbls b ps e
    obtain ⟨m2, e2⟩ := tbls b _ e1
    exact ⟨m1 ++ m2, by rw [e2, Array.append_assoc]⟩
  · obtain ⟨m, hn, hl⟩ := I.loc
    refine ⟨m, ns m hn, fun i x v e1 e2 e3 => ?_⟩
    obtain ⟨u, r, l⟩ := hl i x v e1 e2 e3
    refine ⟨u, r, ?_⟩
    rcases l with l | ⟨k, c, e, z⟩
    · exact .inl l
    · exact .inr ⟨k, c, e, cellK x c e _ z⟩
  · obtain ⟨v, z⟩ := I.cell x c e
    exact ⟨v, cellK x c e v z⟩
  · obtain ⟨m, ⟨o, _, _, ho, _⟩, _⟩ := I.loc
    exact free _ o (fun z => (hch _ z).2.1 rfl) ho I.free
  · obtain ⟨v, o, ho, hd⟩ := I.cell x c e
    exact free c o (fun z => (hch c z).2.2.1 x c e rfl) ho (I.freeC x c e)
  · obtain ⟨e, n, ne, nf, d⟩ := I.pin p hp
    have nch : p.1 ∉ ch := fun z => (hch p.1 z).2.2.2 p hp rfl
    exact ⟨keep p.1 p.2 ne nf nch e n, free p.1 p.2 nch e n, ne, nf, d⟩
/-- .. where the frame's own object is kept too -/
theorem Inv.un {t' : Nat} (I : Inv X pins σ H s) (u : Un X.fs [] H H' s.heap h') (hok : HOk X.prog X.w H' h') : Inv X pins σ H' { s with heap := h', toks := t' } := by
  obtain ⟨m, ⟨o, es, ep, ho, r⟩, _⟩ := id I.loc
  obtain ⟨sl, hL⟩ := u.any ho I.free (by simp)
  exact I.step (g' := s.gens) (d' := s.drawn) (ch := []) (fun _ z => nomatch z) (fun b o _ hb _ e n => u.keep b o e n hb (by simp)) (fun b o _ hb _ e n => u.slot b o e n hb (by simp)) (fun b o _ e n => u.free b o e n (by simp)) (fun b o _ e => u.there b o e (by simp)) u.tups u.frzs u.tbls (fun m' hm => by
    obtain ⟨o', es', ep', ho', r'⟩ := hm
    rw [ho] at ho'; cases ho'
    exact ⟨_, es', ep', hL, r'⟩) hok I.bare
/-- behind a call (or a comprehension's block): the slots of this frame may have changed too, the records at ch may have turned -/
theorem Inv.call {g' : Array GenState} {t' : Nat} {d' : Drawn} {ch : List Addr} (I : Inv X pins σ H s) (u : Un (frs X.stack) ch H H' s.heap h') (hok : HOk X.prog X.w H' h') (hg : AllBare g')
    (hch : ∀ b ∈ ch, (b ∈ X.ex ∨ X.s_0.heap.objs.size ≤ b) ∧ b ≠ X.env.locals ∧ (∀ x c, X.env.cells.lookup x = some c → c ≠ b) ∧ ∀ p ∈ X.pn ++ pins, p.1 ≠ b) :
    Inv X pins σ H' { s with heap := h', gens := g', drawn := d', toks := t' } := by
  obtain ⟨m, ⟨o, es, ep, ho, r⟩, _⟩ := id I.loc
  obtain ⟨sl, hL⟩ := u.any ho I.free fun z => (hch _ z).2.1 rfl
  exact I.step (ch := ch) hch (fun b o hL hb hc e n => u.keep b o e n (fun z => (List.mem_cons.mp (I.stkSub b z)).elim hL hb) hc) (fun b o _ _ hc e n => u.any e n hc) (fun b o hc e n => u.free b o e n hc) (fun b o hc e => u.there b o e hc) u.tups u.frzs u.tbls (fun m' hm => by
    obtain ⟨o', es', ep', ho', r'⟩ := hm
    rw [ho] at ho'; cases ho'
    exact ⟨_, es', ep', hL, r'⟩) hok hg
/-- an untracked record of ours (an iterator) has turned -/
theorem Inv.turned {t' : Nat} {it : Addr} (I : Inv X pins σ H s) (k : ∀ b o, b ≠ it → s.heap.get? b = some o → h'.get? b = some o) (hn : H it = none) (hL : it ≠ X.env.locals)
    (h1 : it ∈ X.ex ∨ X.s_0.heap.objs.size ≤ it) (h2 : ∀ x c, X.env.cells.lookup x = some c → c ≠ it) (h3 : ∀ p ∈ X.pn ++ pins, p.1 ≠ it) : Inv X pins σ H { s with heap := h', toks := t' } := by
  have nit : ∀ b u, H b = some u → b ≠ it := fun b u e z => by rw [z, hn] at e; cases e
  refine I.step (g' := s.gens) (d' := s.drawn) (ch := [it]) (fun b hb => ?_) (fun b o _ _ hc e _ => k b o (fun z => hc (by simp [z])) e) (fun b o _ _ hc e _ => ⟨o.slots, k b o (fun z => hc (by simp [z])) e⟩) (fun _ _ _ _ n => n)
    (fun b o hc e => ⟨o, k b o (fun z => hc (by simp [z])) e⟩) (fun _ _ e => e) (fun _ _ _ e => e) (fun b ps e => ⟨#[], by rw [e]; simp⟩) (fun m hm => ?_) (fun b u e => ?_) I.bare
  · have e : b = it := by simpa using hb
    subst e
    exact ⟨h1, hL, h2, h3⟩
  · obtain ⟨o, es, ep, ho, r⟩ := hm
    exact ⟨o, es, ep, k _ o (Ne.symm hL) ho, r⟩
  · refine (I.hok b u e).stay (fun c v hc q => k c v ?_ q) (fun _ q => q) fun _ _ q => q
    rcases hc with z | z
    · rw [z]; exact nit b u e
    · exact nit c _ z
theorem Inv.tok (I : Inv X pins σ H s) (t : Nat) : Inv X pins σ H { s with toks := t } := I.un (h' := s.heap) (t' := t) Un.refl I.hok
/-- all objects kept -/
theorem Inv.kept {t' : Nat} (I : Inv X pins σ H s) (k : ∀ b u, s.heap.get? b = some u → h'.get? b = some u) : Inv X pins σ H { s with heap := h', toks := t' } := I.un (Un.kept k) (I.hok.kept k)
/-- a new object laid and tracked -/
theorem Inv.laid {a : Addr} {o : HO} {t' : Nat} (I : Inv X pins σ H s) (k : ∀ b u, s.heap.get? b = some u → h'.get? b = some u) (hp : s.heap.objs.size ≤ a) (new : ObjOk X.prog X.w (upd H a o) h' a o) :
    Inv X pins σ (upd H a o) { s with heap := h', toks := t' } := I.un (Un.laid k hp (I.hok.fresh hp)) (I.hok.laid k hp new)
/-- an object written -/
theorem Inv.write {x e : Addr} {o : HO} {t' : Nat} (I : Inv X pins σ H s) (mu : Mut (H x)) (he : e = x ∨ H e = some (.own x)) (k : ∀ b u, b ≠ e → s.heap.get? b = some u → h'.get? b = some u) (heo : ∃ u, h'.get? e = some u)
    (new : ObjOk X.prog X.w (upd H x o) h' x o) : Inv X pins σ (upd H x o) { s with heap := h', toks := t' } := I.un (Un.write mu he k heo) (I.hok.write mu he k heo new)
/-- forgetting slots, pins -/
theorem Inv.weak {σ' : List (Option V)} (I : Inv X pins σ H s) (hl : σ'.length = σ.length) (w : ∀ (i : Nat) v, σ'[i]? = some (some v) → σ[i]? = some (some v)) : Inv X pins σ' H s :=
  ⟨I.ok, I.os, I.bare, I.base, let ⟨m, hn, hl'⟩ := I.loc; ⟨m, hn, fun i x v e1 e2 e3 => hl' i x v e1 (w i v e2) e3⟩, I.cell, I.free, I.freeC, I.pin, I.hok, hl.trans I.len⟩
theorem Inv.pins_of {pins' : List (Addr × Obj)} (I : Inv X pins σ H s) (h : ∀ p ∈ pins', s.heap.get? p.1 = some p.2 ∧ H p.1 = none ∧ p.1 ≠ X.env.locals ∧ p.1 ∉ X.fs ∧ ∀ v, p.2.data ≠ .cell v) : Inv X pins' σ H s :=
  ⟨I.ok, I.os, I.bare, I.base, I.loc, I.cell, I.free, I.freeC, fun p hp => (List.mem_append.mp hp).elim (fun z => I.pin p (List.mem_append_left _ z)) (h p), I.hok, I.len⟩

theorem nodup_ix {N : List Str} (hN : N.Nodup) {i j : Nat} {x : Str} (a : N[i]? = some x) (b : N[j]? = some x) : i = j := by
  obtain ⟨h1, e1⟩ := List.getElem?_eq_some_iff.mp a
  obtain ⟨h2, e2⟩ := List.getElem?_eq_some_iff.mp b
  exact (List.getElem_inj hN).mp (e1.trans e2.symm)

/-- a name is stored; what changed -/
theorem store_ok2 {M : Model} {A : Around} {E : Value → Shared → Prop} {i : Nat} {x : Str} {v : V} {u : Value} {Q : Unit → Shared → Prop} (I : Inv X pins σ H s) (hN : X.N.Nodup) (hi : X.N[i]? = some x) (hx : Loc X.env.scope x) (r : RelV v u)
    (h : ∀ s', Inv X pins (σ.set i (some v)) H s' → (∃ a, Heap.SameBut a s.heap s'.heap ∧ (a = X.env.locals ∨ X.env.cells.lookup x = some a)) → Q () s') (hf : X.fn x = true ∨ X.env.scope.names.lookup x = some .local := by first | exact .inl rfl | exact .inr rfl | assumption) : wpAny M A (storeName X.env x u) Q E s := by
  obtain ⟨m, hn, hl⟩ := id I.loc
  have hcls : (X.env.scope.kind == .class || (X.env.scope.kind == .module && X.env.locals != X.env.globals)) = false := by rw [I.ok.kind]; rfl
  have hiσ : i < σ.length := by rw [I.len]; exact (List.getElem?_eq_some_iff.mp hi).1
  have cne := I.cne
  have tracked : ∀ {a : Addr} {h' : Heap}, (∃ o, s.heap.get? a = some o ∧ H a = none) → Heap.SameBut a s.heap h' → HOk X.prog X.w H h' := fun {a h'} ha hs b ob e => by
    obtain ⟨_, _, hfree⟩ := ha
    refine (I.hok b ob e).stay (fun c w' hc q => (hs.2 c ?_).trans q) (fun _ q => q) fun _ _ q => q
    rintro rfl
    rcases hc with rfl | hc
    · rw [hfree] at e; cases e
    · rw [hfree] at hc; cases hc
  rcases hx with hk | hk
  · refine wpAny_storeName_local hk hn (fun h' hn' hs => ?_) hcls
    obtain ⟨oL, _, _, hoL, _⟩ := id hn
    refine h _ ⟨I.ok, I.os, I.bare, ⟨fun b o e n hb hx => ?_, fun b o e n hb hx => ?_, I.base.free, fun b o e hx => ?_, I.base.tups, I.base.frzs, I.base.tbls⟩, ⟨_, hn', fun j y v' e1 e2 e3 => ?_⟩, fun y c e => ?_, I.free, I.freeC, fun p hp => ?_, tracked ⟨oL, hoL, I.free⟩ hs, by simpa using I.len⟩ ⟨_, hs, .inl rfl⟩
    · exact (hs.2 b (Nat.ne_of_lt (Nat.lt_of_lt_of_le (Heap.lt_size e) I.ok.above))).trans (I.base.keep b o e n hb hx)
    · obtain ⟨sl, e1⟩ := I.base.slot b o e n hb hx
      exact ⟨sl, (hs.2 b (Nat.ne_of_lt (Nat.lt_of_lt_of_le (Heap.lt_size e) I.ok.above))).trans e1⟩
    · obtain ⟨o', e1⟩ := I.base.there b o e hx
      exact ⟨o', (hs.2 b (Nat.ne_of_lt (Nat.lt_of_lt_of_le (Heap.lt_size e) I.ok.above))).trans e1⟩
    · by_cases hj : j = i
      · subst hj
        rw [hi] at e1; cases e1
        rw [List.getElem?_set_self hiσ] at e2
        cases e2
        exact ⟨u, r, .inl ⟨hk, by simp⟩⟩
      · rw [List.getElem?_set_ne (Ne.symm hj)] at e2
        obtain ⟨u', r', q⟩ := hl j y v' e1 e2 e3
        refine ⟨u', r', ?_⟩
        rcases q with ⟨k, e⟩ | ⟨k, c, e, z⟩
        · refine .inl ⟨k, ?_⟩
          have : y ≠ x := fun e => hj (nodup_ix hN e1 (e ▸ hi))
          simp [this, e]
        · exact .inr ⟨k, c, e, z.sameBut hs (cne y c e)⟩
    · obtain ⟨w', z⟩ := I.cell y c e
      exact ⟨w', z.sameBut hs (cne y c e)⟩
    · obtain ⟨e, n, ne, nf, d⟩ := I.pin p hp
      exact ⟨(hs.2 p.1 ne).trans e, n, ne, nf, d⟩
  · have hfn : X.fn x = true := by
      rcases hf with z | z
      · exact z
      · rw [z] at hk; cases hk
    obtain ⟨c, hc⟩ := I.ok.has x (.inl hk)
    obtain ⟨w', z⟩ := I.cell x c hc
    refine wpAny_storeName_cell I.ok.kind hk hc z (fun h' hc' hs => ?_)
    obtain ⟨oc, hoc, hocd⟩ := id z
    refine h { s with heap := h' } ⟨I.ok, I.os, I.bare, ⟨fun b o e n hb hx => ?_, fun b o e n hb hx => ?_, I.base.free, fun b o e hx => ?_, I.base.tups, I.base.frzs, I.base.tbls⟩, ⟨m, hn.sameBut hs (Ne.symm (cne x c hc)), fun j y v' e1 e2 e3 => ?_⟩, fun y c' e => ?_, I.free, I.freeC, fun p hp => ?_, tracked ⟨oc, hoc, I.freeC x c hc⟩ hs, by simpa using I.len⟩ ⟨c, hs, .inr hc⟩
    · exact (hs.2 b (Nat.ne_of_lt (Nat.lt_of_lt_of_le (Heap.lt_size e) (I.ok.cab x c hfn hc)))).trans (I.base.keep b o e n hb hx)
    · obtain ⟨sl, e1⟩ := I.base.slot b o e n hb hx
      exact ⟨sl, (hs.2 b (Nat.ne_of_lt (Nat.lt_of_lt_of_le (Heap.lt_size e) (I.ok.cab x c hfn hc)))).trans e1⟩
    · obtain ⟨o', e1⟩ := I.base.there b o e hx
      exact ⟨o', (hs.2 b (Nat.ne_of_lt (Nat.lt_of_lt_of_le (Heap.lt_size e) (I.ok.cab x c hfn hc)))).trans e1⟩
    · by_cases hj : j = i
      · subst hj
        rw [hi] at e1; cases e1
        rw [List.getElem?_set_self hiσ] at e2
        cases e2
        exact ⟨u, r, .inr ⟨.inl hk, c, hc, hc'⟩⟩
      · rw [List.getElem?_set_ne (Ne.symm hj)] at e2
        obtain ⟨u', r', q⟩ := hl j y v' e1 e2 e3
        refine ⟨u', r', ?_⟩
        rcases q with q | ⟨k, c', e, z'⟩
        · exact .inl q
        · refine .inr ⟨k, c', e, z'.sameBut hs ?_⟩
          rintro rfl
          exact hj (nodup_ix hN e1 (I.ok.inj _ _ _ e hc ▸ hi))
    · by_cases hcc : c' = c
      · subst hcc; exact ⟨_, hc'⟩
      · obtain ⟨w2, z2⟩ := I.cell y c' e
        exact ⟨w2, z2.sameBut hs hcc⟩
    · obtain ⟨e, n, ne, nf, d⟩ := I.pin p hp
      refine ⟨(hs.2 p.1 ?_).trans e, n, ne, nf, d⟩
      intro q
      rw [q, hoc] at e
      have q' : oc = p.2 := Option.some.inj e
      exact d w' (by rw [← q']; exact hocd)
theorem store_ok {M : Model} {A : Around} {E : Value → Shared → Prop} {i : Nat} {x : Str} {v : V} {u : Value} {Q : Unit → Shared → Prop} (I : Inv X pins σ H s) (hN : X.N.Nodup) (hi : X.N[i]? = some x) (hx : Loc X.env.scope x) (r : RelV v u)
    (h : ∀ s', Inv X pins (σ.set i (some v)) H s' → Q () s') (hf : X.fn x = true ∨ X.env.scope.names.lookup x = some .local := by first | exact .inl rfl | exact .inr rfl | assumption) : wpAny M A (storeName X.env x u) Q E s :=
  store_ok2 I hN hi hx r (fun s' I' _ => h s' I') hf
/-- behind a call or a block, the state as it is -/
theorem Inv.call' {s' : Shared} {ch : List Addr} (I : Inv X pins σ H s) (ho : s'.os = s.os) (u : Un (frs X.stack) ch H H' s.heap s'.heap) (hok : HOk X.prog X.w H' s'.heap) (hg : AllBare s'.gens)
    (hch : ∀ b ∈ ch, (b ∈ X.ex ∨ X.s_0.heap.objs.size ≤ b) ∧ b ≠ X.env.locals ∧ (∀ x c, X.env.cells.lookup x = some c → c ≠ b) ∧ ∀ p ∈ X.pn ++ pins, p.1 ≠ b) : Inv X pins σ H' s' := by
  obtain ⟨h', g', d', t', o'⟩ := s'
  have e : o' = s.os := ho
  subst e
  exact I.call (g' := g') (t' := t') (d' := d') u hok hg hch
end

/-- an exception: its class, its own dict's address (where it has one), the abstract heap behind it -/
noncomputable abbrev XK := Value → Option Addr → Hp → Prop
noncomputable abbrev St := List (Option V)
noncomputable abbrev VK := V → Hp → Prop
/-- an expression's reading; a test's; an argument list's -/
noncomputable abbrev TE := St → Hp → VK → Prop
noncomputable abbrev TT := St → Hp → (Bool → Hp → Prop) → Prop
noncomputable abbrev TA := St → Hp → (List V → Hp → Prop) → Prop
/-- what is wanted behind a statement -/
structure Ends where
  nx : St → Hp → Prop
  rt : VK
  bk : St → Hp → Prop := fun _ _ => False
  ct : St → Hp → Prop := fun _ _ => False
noncomputable abbrev TS := Ends → St → Hp → Prop

noncomputable def EP (X : Cx) (pins : List (Addr × Obj)) (σ : St) (Q : VK) (u : Value) (s' : Shared) : Prop := ∃ v H', Inv X pins σ H' s' ∧ RelV v u ∧ Q v H'
noncomputable def TP (X : Cx) (pins : List (Addr × Obj)) (σ : St) (Q : Bool → Hp → Prop) (b : Bool) (s' : Shared) : Prop := ∃ H', Inv X pins σ H' s' ∧ Q b H'
noncomputable def AP (X : Cx) (pins : List (Addr × Obj)) (σ : St) (Q : List V → Hp → Prop) (us : List Value) (s' : Shared) : Prop := ∃ vs H', Inv X pins σ H' s' ∧ Vals vs us ∧ Q vs H'
noncomputable def SP (X : Cx) (pins : List (Addr × Obj)) (D : Ends) (f : Flow) (s' : Shared) : Prop :=
  match f with
  | .next => ∃ σ' H', Inv X pins σ' H' s' ∧ D.nx σ' H'
  | .brk => ∃ σ' H', Inv X pins σ' H' s' ∧ D.bk σ' H'
  | .cont => ∃ σ' H', Inv X pins σ' H' s' ∧ D.ct σ' H'
  | .ret u => ∃ v σ' H', Inv X pins σ' H' s' ∧ RelV v u ∧ D.rt v H'

noncomputable def PE (X : Cx) (e : Expr) (t : TE) : Prop :=
  ∀ (pins : List (Addr × Obj)) (s : Shared) (σ : St) (H : Hp) (Q : VK), Inv X pins σ H s → t σ H Q → wpAny (model X.prog X.w) X.A (eval e X.env) (EP X pins σ Q) X.xe s
noncomputable def PT (X : Cx) (e : Expr) (t : TT) : Prop :=
  ∀ (pins : List (Addr × Obj)) (s : Shared) (σ : St) (H : Hp) (Q : Bool → Hp → Prop), Inv X pins σ H s → t σ H Q → wpAny (model X.prog X.w) X.A (isTrue e X.env (eval e X.env)) (TP X pins σ Q) X.xe s
/-- a test whatever its 'whole' is (and, or) -/
noncomputable def PW (X : Cx) (e : Expr) (t : TT) : Prop :=
  ∀ (whole : Sem Value) (pins : List (Addr × Obj)) (s : Shared) (σ : St) (H : Hp) (Q : Bool → Hp → Prop), Inv X pins σ H s → t σ H Q → wpAny (model X.prog X.w) X.A (isTrue e X.env whole) (TP X pins σ Q) X.xe s
theorem PW.pt {X : Cx} {e : Expr} {t : TT} (h : PW X e t) : PT X e t := h _
/-- an argument list (no star), from the left -/
noncomputable def PA (X : Cx) (es : List Expr) (t : TA) : Prop :=
  ∀ (pos : Pos) (pins : List (Addr × Obj)) (s : Shared) (σ : St) (H : Hp) (Q : List V → Hp → Prop), Inv X pins σ H s → t σ H Q → wpAny (model X.prog X.w) X.A (spliced (backTo pos (starEach es X.env))) (AP X pins σ Q) X.xe s
noncomputable def PS (X : Cx) (st : Stmt) (t : TS) : Prop :=
  ∀ (pins : List (Addr × Obj)) (s : Shared) (σ : St) (H : Hp) (D : Ends), Inv X pins σ H s → t D σ H → wpAny (model X.prog X.w) X.A (exec st X.env) (SP X pins D) X.xe s
noncomputable def PSs (X : Cx) (st : List Stmt) (t : TS) : Prop :=
  ∀ (pins : List (Addr × Obj)) (s : Shared) (σ : St) (H : Hp) (D : Ends), Inv X pins σ H s → t D σ H → wpAny (model X.prog X.w) X.A (execs st X.env) (SP X pins D) X.xe s
/-- weaken the end -/
theorem thn {α : Type} {t : Sem α} {Q Q' : α → Shared → Prop} {M : Model} {A : Around} {E : Value → Shared → Prop} {s : Shared} (h : wpAny M A t Q E s) (hQ : ∀ a s, Q a s → Q' a s) : wpAny M A t Q' E s := wpAny_mono h hQ fun _ _ x => x
end L2

namespace L2
open PySem PySem.Spec PyProof.Rows
section
variable {X : Cx}

noncomputable def tVar (i : Nat) : TE := fun σ H Q => ∃ v, σ[i]? = some (some v) ∧ Q v H
noncomputable def tC (v : V) : TE := fun _ H Q => Q v H
theorem pe_var {i : Nat} {x : Str} {pos : Pos} (hN : X.N[i]? = some x) (hv : Vis X.env.scope x) (hd : (x == ("__debug__" : Str)) = false := by decide) (hcd : (x == ("__classdict__" : Str)) = false := by decide) : PE X (.Name x pos) (tVar i) := by
  intro pins s σ H Q I h
  obtain ⟨v, e, h⟩ := h
  obtain ⟨m, hn, hl⟩ := I.loc
  obtain ⟨u, r, l⟩ := hl i x v hN e hv
  have fin : EP X pins σ Q u s := ⟨v, H, I, r, h⟩
  rcases l with ⟨hk, hm⟩ | ⟨hk, c, hc, hcell⟩
  · exact wpAny_Name (wpAny_loadName_local I.ok.kind hk hn hm fin) hd
  · rcases hk with hk | hk
    · exact wpAny_Name (wpAny_loadName_cell I.ok.kind hk hc hcell fin) hd
    · exact wpAny_Name (wpAny_loadName_free I.ok.kind hk hc hcell fin hcd) hd
theorem pe_int {i j pos} : PE X (.Constant (.int i) j pos) (tC (.int i)) := fun _ _ _ H _ I h => wpAny_Constant_int ⟨.int i, H, I.tok _, ⟨_, rfl⟩, h⟩
theorem pe_bl {b j pos} : PE X (.Constant (.bool b) j pos) (tC (.bl b)) := fun _ _ _ H _ I h => Constant_bool ⟨.bl b, H, I, rfl, h⟩
theorem pe_non {j pos} : PE X (.Constant .none j pos) (tC .non) := fun _ _ _ H _ I h => Constant_none ⟨.non, H, I, rfl, h⟩
/-- a global name of the def -/
noncomputable def Gl (X : Cx) (x : Str) : Prop := X.env.kindOf x = some .globalImplicit
theorem ld_glob {E : Value → Shared → Prop} {pins : List (Addr × Obj)} {s : Shared} {σ : St} {H : Hp} {x : Str} {u : Value} {pos : Pos} {Q : Value → Shared → Prop} (I : Inv X pins σ H s) (hg : Gl X x) (hm : X.mg x = some u) (h : Q u s)
    (hd : (x == ("__debug__" : Str)) = false := by decide) : wpAny (model X.prog X.w) X.A (eval (.Name x pos) X.env) Q E s :=
  Calls.Name_function_global I.ok.kind hg (Calls.loadGlobal_global (by rw [I.ok.glob]; exact I.mod.glob.keeps I.bk) hm h) hd
theorem ld_blt {E : Value → Shared → Prop} {pins : List (Addr × Obj)} {s : Shared} {σ : St} {H : Hp} {x : Str} {u : Value} {pos : Pos} {Q : Value → Shared → Prop} (I : Inv X pins σ H s) (hg : Gl X x) (hm : X.mg x = none) (hv : bootBuiltins x = some u) (h : Q u s)
    (hn : x ≠ "__name__" := by decide) (hd : (x == ("__debug__" : Str)) = false := by decide) : wpAny (model X.prog X.w) X.A (eval (.Name x pos) X.env) Q E s := by
  obtain ⟨mb, h1, h2⟩ := I.mod.blt
  exact Calls.Name_function_global I.ok.kind hg (Calls.loadGlobal_builtin (by rw [I.ok.glob]; exact I.mod.glob.keeps I.bk) hm (by rw [I.ok.blt]; exact h1.keeps I.bk) ((h2 x hn).trans hv) h) hd
/-- a module's constant, a class, a function, as a value -/
theorem pe_glob {x : Str} {v : V} {u : Value} {pos : Pos} (hg : Gl X x) (hm : X.mg x = some u) (r : RelV v u) (hd : (x == ("__debug__" : Str)) = false := by decide) : PE X (.Name x pos) (tC v) :=
  fun _ _ _ H _ I h => ld_glob I hg hm ⟨v, H, I, r, h⟩ hd
variable {a b : Expr} {ta tb : TE} {pos : Pos}
noncomputable def PC (X : Cx) (op : CmpOp) (a b : Expr) (t : TE) : Prop :=
  ∀ (pins : List (Addr × Obj)) (s : Shared) (σ : St) (H : Hp) (Q : VK), Inv X pins σ H s → t σ H Q →
    wpAny (model X.prog X.w) X.A (eval a X.env) (fun v s₁ => wpAny (model X.prog X.w) X.A (eval b X.env) (fun u s₂ => wpAny (model X.prog X.w) X.A (compareOp op v u) (EP X pins σ Q) X.xe s₂) X.xe s₁) X.xe s
theorem nobehind (b : Expr) {op : CmpOp} (h : op ≠ .In) (h2 : op ≠ .NotIn) : behindInMarks op b = false := by
  have e1 : (op == CmpOp.In) = false := by cases op <;> first | rfl | exact absurd rfl h
  have e2 : (op == CmpOp.NotIn) = false := by cases op <;> first | rfl | exact absurd rfl h2
  cases b <;> simp [behindInMarks, e1, e2]
/-- is None -/
noncomputable def tIsN (ta : TE) : TE := fun σ H Q => ta σ H fun x H1 => Q (.bl (decide (x = .non))) H1
noncomputable def tNotN (ta : TE) : TE := fun σ H Q => ta σ H fun x H1 => Q (.bl (!decide (x = .non))) H1
theorem RelV.none_iff {x : V} {v : Value} (r : RelV x v) : (v == Value.none) = decide (x = .non) := by
  cases x with
  | non => cases r; rfl
  | bl _ => cases r; rfl
  | int _ => obtain ⟨t, rfl⟩ := r; rfl
  | str _ => obtain ⟨t, rfl⟩ := r; rfl
  | byt _ => obtain ⟨t, rfl⟩ := r; rfl
  | flt _ => obtain ⟨t, rfl⟩ := r; rfl
  | ref _ => cases r; rfl
  | ty _ => cases r; rfl
theorem pc_isN {j pos'} (ha : PE X a ta) : PC X .Is a (.Constant .none j pos') (tIsN ta) := by
  intro pins s σ H Q I h
  refine thn (ha pins s σ H _ I h) fun v s1 ⟨x, H1, I1, r1, q1⟩ => ?_
  exact Constant_none (is_none_gen ⟨.bl _, H1, I1, by rw [r1.none_iff]; rfl, q1⟩)
theorem pc_notN {j pos'} (ha : PE X a ta) : PC X .IsNot a (.Constant .none j pos') (tNotN ta) := by
  intro pins s σ H Q I h
  refine thn (ha pins s σ H _ I h) fun v s1 ⟨x, H1, I1, r1, q1⟩ => ?_
  exact Constant_none (isnot_none_gen ⟨.bl _, H1, I1, by rw [r1.none_iff]; rfl, q1⟩)
/-- a comparison as a value, as a test -/
noncomputable def tB (t : TE) : TT := fun σ H Q => t σ H fun x H1 => ∃ c, x = .bl c ∧ Q c H1
theorem pt_cmp {op : CmpOp} {t : TE} (h : PC X op a b t) (h1 : behindInMarks op b = false := by first | exact nobehind _ (by decide) (by decide) | rfl) : PT X (.Compare a [op] [b] pos) (tB t) := by
  intro pins s σ H Q I hw
  refine wpAny_isTrue_Compare1 (thn (h pins s σ H _ I hw) fun v s1 h1 => thn h1 fun u s2 h2 => thn h2 fun c s3 ⟨x, H1, I1, r1, q1⟩ => ?_) h1
  obtain ⟨d, rfl, q⟩ := q1
  cases r1
  exact wpAny_truthy_bool ⟨H1, I1, q⟩
/-- an expression whose value is a bool, as a test -/
theorem pt_val {e : Expr} {t : TE} (h : PE X e t) (he : ∀ whole, isTrue e X.env whole = (do let v ← whole; standAt e.pos; holding [v] (truthy v)) := by intro _; rfl) : PT X e (tB t) := by
  intro pins s σ H Q I hw
  refine isTrue_plain (thn (h pins s σ H _ I hw) fun v s1 ⟨x, H1, I1, r1, q1⟩ => ?_) (he _)
  obtain ⟨d, rfl, q⟩ := q1
  cases r1
  exact wpAny_truthy_bool ⟨H1, I1, q⟩

variable {tA tB' : TT} {rest : List Expr}
noncomputable def tAnd (t u : TT) : TT := fun σ H Q => t σ H fun c H1 => if c = true then u σ H1 Q else Q false H1
noncomputable def tOr (t u : TT) : TT := fun σ H Q => t σ H fun c H1 => if c = true then Q true H1 else u σ H1 Q
noncomputable def tNot (t : TT) : TT := fun σ H Q => t σ H fun c H1 => Q (!c) H1
theorem pw_and1 (ha : PT X a tA) : PW X (.BoolOp .And [a] pos) tA := by
  intro wh pins s σ H Q I h
  refine isTrue_and (thn (ha pins s σ H Q I h) fun c s1 e => ?_)
  cases c with
  | true => exact isTrue_and_nil e
  | false => exact e
theorem pw_or1 (ha : PT X a tA) : PW X (.BoolOp .Or [a] pos) tA := by
  intro wh pins s σ H Q I h
  refine isTrue_or (thn (ha pins s σ H Q I h) fun c s1 e => ?_)
  cases c with
  | false => exact isTrue_or_nil e
  | true => exact e
theorem pw_and (ha : PT X a tA) (hb : PW X (.BoolOp .And (b :: rest) pos) tB') : PW X (.BoolOp .And (a :: b :: rest) pos) (tAnd tA tB') := by
  intro wh pins s σ H Q I h
  refine isTrue_and (thn (ha pins s σ H _ I h) fun c s1 ⟨H1, I1, q1⟩ => ?_)
  cases c with
  | true => exact hb wh pins s1 σ H1 Q I1 q1
  | false => exact ⟨H1, I1, q1⟩
theorem pw_or (ha : PT X a tA) (hb : PW X (.BoolOp .Or (b :: rest) pos) tB') : PW X (.BoolOp .Or (a :: b :: rest) pos) (tOr tA tB') := by
  intro wh pins s σ H Q I h
  refine isTrue_or (thn (ha pins s σ H _ I h) fun c s1 ⟨H1, I1, q1⟩ => ?_)
  cases c with
  | true => exact ⟨H1, I1, q1⟩
  | false => exact hb wh pins s1 σ H1 Q I1 q1
theorem pt_not (ha : PT X a tA) : PT X (.UnaryOp .Not a pos) (tNot tA) := by
  intro pins s σ H Q I h
  exact isTrue_not (ha pins s σ H (fun c H1 => Q (!c) H1) I h)
/-- .. as values (bools) -/
noncomputable def tAndV (ta tb : TE) : TE := fun σ H Q => ta σ H fun x H1 => ∃ c, x = .bl c ∧ if c = true then tb σ H1 Q else Q (.bl false) H1
noncomputable def tNotV (ta : TE) : TE := fun σ H Q => ta σ H fun x H1 => ∃ c, x = .bl c ∧ Q (.bl (!c)) H1
theorem pe_one {op} {t : TE} (h : PE X a t) : PE X (.BoolOp op [a] pos) t := fun pins s σ H Q I hw => BoolOp_one (h pins s σ H Q I hw)
theorem pe_and (ha : PE X a ta) (hb : PE X (.BoolOp .And (b :: rest) pos) tb) : PE X (.BoolOp .And (a :: b :: rest) pos) (tAndV ta tb) := by
  intro pins s σ H Q I h
  refine BoolOp_and (thn (ha pins s σ H _ I h) fun v s1 ⟨x, H1, I1, r1, q1⟩ => ?_)
  obtain ⟨c, rfl, q1⟩ := q1
  cases r1
  refine wpAny_truthy_bool ?_
  cases c with
  | true => exact hb pins s1 σ H1 Q I1 q1
  | false => exact ⟨.bl false, H1, I1, rfl, q1⟩
theorem pe_not (ha : PE X a ta) : PE X (.UnaryOp .Not a pos) (tNotV ta) := by
  intro pins s σ H Q I h
  refine UnaryOp_ (thn (ha pins s σ H _ I h) fun v s1 ⟨x, H1, I1, r1, q1⟩ => ?_)
  obtain ⟨c, rfl, q1⟩ := q1
  cases r1
  exact not_of (wpAny_truthy_bool ⟨.bl (!c), H1, I1, rfl, q1⟩)
/-- a if t else b -/
noncomputable def tIf (t : TT) (ta tb : TE) : TE := fun σ H Q => t σ H fun c H1 => if c = true then ta σ H1 Q else tb σ H1 Q
theorem pe_ifExp {c : Expr} (hc : PT X c tA) (ha : PE X a ta) (hb : PE X b tb) : PE X (.IfExp c a b pos) (tIf tA ta tb) := by
  intro pins s σ H Q I h
  refine wpAny_IfExp (thn (hc pins s σ H _ I h) fun d s1 ⟨H1, I1, q1⟩ => ?_)
  cases d with
  | true => exact ha pins s1 σ H1 Q I1 q1
  | false => exact hb pins s1 σ H1 Q I1 q1
end
end L2

namespace L2
open PySem PySem.Spec PyProof.Rows

noncomputable def SqL (K : PySem.W.Frag) (H : Hp) (a : Addr) (xs : List V) : Prop :=
  Rd H a (.lst xs) ∨
    ∃ (o : Obj) (its : Array Value) (n : Nat), K.lookup a = some o ∧ o.cls = .type "list" ∧ o.dict = none ∧ o.data = .seq its n ∧ its.size ≤ sizeLine ∧ Vals xs its.toList
noncomputable def SqT (K : PySem.W.Frag) (H : Hp) (a : Addr) (xs : List V) : Prop :=
  Rd H a (.tup xs) ∨
    ∃ (o : Obj) (its : Array Value) (n : Nat), K.lookup a = some o ∧ o.cls = .type "tuple" ∧ o.data = .seq its n ∧ its.size ≤ sizeLine ∧ Vals xs its.toList
noncomputable def absV : Value → Option V
  | .none => some .non
  | .bool b => some (.bl b)
  | .int i _ => some (.int i)
  | .str x _ => some (.str x)
  | .bytes b _ => some (.byt b)
  | .float b _ => some (.flt b)
  | .ref a => some (.ref a)
  | .type n => some (.ty n)
  | _ => none
theorem RelV.abs {x : V} {u : Value} (r : RelV x u) : absV u = some x := by
  cases x with
  | non => cases r; rfl
  | bl _ => cases r; rfl
  | int _ => obtain ⟨t, rfl⟩ := r; rfl
  | str _ => obtain ⟨t, rfl⟩ := r; rfl
  | byt _ => obtain ⟨t, rfl⟩ := r; rfl
  | flt _ => obtain ⟨t, rfl⟩ := r; rfl
  | ref _ => cases r; rfl
  | ty _ => cases r; rfl
theorem RelV.inj {x y : V} {u : Value} (r : RelV x u) (q : RelV y u) : x = y := Option.some.inj (r.abs.symm.trans q.abs)
theorem Vals.inj : ∀ {xs ys : List V} {us : List Value}, Vals xs us → Vals ys us → xs = ys
  | _, _, _, .nil, .nil => rfl
  | _, _, _, .cons r t, .cons r' t' => by rw [r.inj r', Vals.inj t t']
section
variable {X : Cx} {pins : List (Addr × Obj)} {σ : St} {H : Hp} {s : Shared} {a : Addr} {xs ys : List V}
theorem SqL.of {K : PySem.W.Frag} (h : H a = some (.lst xs)) : SqL K H a xs := .inl (.inl h)
theorem SqT.of {K : PySem.W.Frag} (h : H a = some (.tup xs)) : SqT K H a xs := .inl (.inl h)
theorem Inv.list (I : Inv X pins σ H s) (h : SqL X.K H a xs) : ∃ its : List Value, Vals xs its ∧ PlainL s.heap a its.toArray ∧ xs.length ≤ sizeLine := by
  rcases h with h | ⟨o, its, n, hk, hc, hd, hs, hz, r⟩
  · obtain ⟨z, its, n, r, e⟩ := h.ok I.hok
    exact ⟨its, r, ⟨_, n, e, rfl, rfl, rfl⟩, z⟩
  · refine ⟨its.toList, r, ⟨o, n, I.kIn a o hk, hc, hd, by simpa using hs⟩, ?_⟩
    have e := r.length
    simp only [Array.length_toList] at e
    omega
theorem Inv.tuple (I : Inv X pins σ H s) (h : SqT X.K H a xs) : ∃ its : List Value, Vals xs its ∧ IsTup s.heap a its.toArray ∧ xs.length ≤ sizeLine := by
  rcases h with h | ⟨o, its, n, hk, hc, hs, hz, r⟩
  · obtain ⟨z, its, r, p⟩ := h.ok I.hok
    exact ⟨its, r, p, z⟩
  · refine ⟨its.toList, r, ⟨o, I.kIn a o hk, hc, n, by simpa using hs⟩, ?_⟩
    have e := r.length
    simp only [Array.length_toList] at e
    omega
theorem Inv.list_inj (I : Inv X pins σ H s) (h : SqL X.K H a xs) (h' : SqL X.K H a ys) : xs = ys := by
  obtain ⟨its, r, ⟨o, n, e, _, _, d⟩, _⟩ := I.list h
  obtain ⟨its', r', ⟨o', n', e', _, _, d'⟩, _⟩ := I.list h'
  rw [e] at e'; cases e'
  rw [d] at d'
  injection d' with d1 _
  have : its = its' := by simpa using congrArg Array.toList d1
  subst this
  exact r.inj r'
end

noncomputable abbrev Cx.wish (X : Cx) (E : Value → Shared → Prop) : Cx := { X with xe := E }
/-- no exception leaves -/
noncomputable abbrev Cx.nox (X : Cx) : Cx := X.wish fun _ _ => False
theorem Cx.Ok.wish {X : Cx} (ok : X.Ok) (E : Value → Shared → Prop) : (X.wish E).Ok :=
  ⟨ok.mod, ok.kind, ok.glob, ok.blt, ok.above, ok.inj, ok.has, ok.cab, ok.hd, ok.frames, ok.stk, ok.exf, ok.bs, ok.bsz, ok.noex, ok.exfs, ok.funs, ok.frf⟩
theorem Cx.Ok.unwish {X : Cx} {E : Value → Shared → Prop} (ok : (X.wish E).Ok) : X.Ok :=
  ⟨ok.mod, ok.kind, ok.glob, ok.blt, ok.above, ok.inj, ok.has, ok.cab, ok.hd, ok.frames, ok.stk, ok.exf, ok.bs, ok.bsz, ok.noex, ok.exfs, ok.funs, ok.frf⟩
section
variable {X : Cx} {pins : List (Addr × Obj)} {σ : St} {H : Hp} {s : Shared} {E : Value → Shared → Prop}
theorem Inv.wish (I : Inv X pins σ H s) (E : Value → Shared → Prop) : Inv (X.wish E) pins σ H s := ⟨I.ok.wish E, I.os, I.bare, I.base, I.loc, I.cell, I.free, I.freeC, I.pin, I.hok, I.len⟩
theorem Inv.unwish (I : Inv (X.wish E) pins σ H s) : Inv X pins σ H s := ⟨I.ok.unwish, I.os, I.bare, I.base, I.loc, I.cell, I.free, I.freeC, I.pin, I.hok, I.len⟩
theorem SP.unwish {D : Ends} {f : Flow} {s' : Shared} (h : SP (X.wish E) pins D f s') : SP X pins D f s' := by
  cases f with
  | next => obtain ⟨σ', H', I, q⟩ := h; exact ⟨σ', H', I.unwish, q⟩
  | brk => obtain ⟨σ', H', I, q⟩ := h; exact ⟨σ', H', I.unwish, q⟩
  | cont => obtain ⟨σ', H', I, q⟩ := h; exact ⟨σ', H', I.unwish, q⟩
  | ret u => obtain ⟨v, σ', H', I, r, q⟩ := h; exact ⟨v, σ', H', I.unwish, r, q⟩
theorem PSs.nox {st : List Stmt} {t : TS} (h : PSs X.nox st t) : PSs X st t := fun pins s σ H D I hw =>
  wpAny_mono (h pins s σ H D (I.wish _) hw) (fun _ _ q => q.unwish) fun _ _ z => False.elim z
end

section
variable {X : Cx} {st : Stmt} {rest : List Stmt} {t u : TS} {e : Expr} {te : TE} {pos : Pos}
noncomputable def tNext : TS := fun D σ H => D.nx σ H
noncomputable def tSeq (t u : TS) : TS := fun D σ H => t { D with nx := u D } σ H
theorem pss_nil : PSs X [] tNext := fun _ _ σ H _ I h => wpAny_execs_nil ⟨σ, H, I, h⟩
theorem pss_cons (h1 : PS X st t) (h2 : PSs X rest u) : PSs X (st :: rest) (tSeq t u) := by
  intro pins s σ H D I h
  refine wpAny_execs_cons (thn (h1 pins s σ H { D with nx := u D } I h) fun f s1 q => ?_)
  cases f with
  | next =>
    obtain ⟨σ', H', I', q⟩ := q
    exact h2 pins s1 σ' H' D I' q
  | ret v => exact q
  | brk => exact q
  | cont => exact q
theorem pss_one (h1 : PS X st t) : PSs X [st] t := by
  intro pins s σ H D I h
  refine wpAny_execs_cons (thn (h1 pins s σ H D I h) fun f s1 q => ?_)
  cases f with
  | next => exact wpAny_execs_nil q
  | ret v => exact q
  | brk => exact q
  | cont => exact q
/-- in a def's body nothing is shown -/
theorem Inv.quiet {pins : List (Addr × Obj)} {σ : St} {H : Hp} {s : Shared} (I : Inv X pins σ H s) : interactive X.env = false := by simp [interactive, I.ok.kind]
/-- an expression whose value is dropped -/
noncomputable def tDrop (te : TE) : TS := fun D σ H => te σ H fun _ H1 => D.nx σ H1
theorem ps_expr (he : PE X e te) (hs : swapsWith e none pos.line X.env = pure false := by rfl) : PS X (.Expr e pos) (tDrop te) := by
  intro pins s σ H D I h
  exact wpAny_Expr_any (thn (he pins s σ H _ I h) fun v s1 ⟨x, H1, I1, r1, q1⟩ => ⟨σ, H1, I1, q1⟩) I.quiet hs
noncomputable def tRet (te : TE) : TS := fun D σ H => te σ H D.rt
theorem ps_ret (he : PE X e te) : PS X (.Return (some e) pos) (tRet te) := by
  intro pins s σ H D I h
  exact wpAny_Return_some (thn (he pins s σ H _ I h) fun v s1 ⟨x, H1, I1, r1, q1⟩ => ⟨x, σ, H1, I1, r1, q1⟩)
noncomputable def tRetN : TS := fun D _ H => D.rt .non H
theorem ps_retN : PS X (.Return none pos) tRetN := fun _ _ σ H _ I h => wpAny_Return_none ⟨.non, σ, H, I, rfl, h⟩
noncomputable def tIfS (c : TT) (t u : TS) : TS := fun D σ H => c σ H fun b H1 => if b = true then t D σ H1 else u D σ H1
theorem ps_if {c : Expr} {a b : List Stmt} {tc : TT} (hc : PT X c tc) (ha : PSs X a t) (hb : PSs X b u) : PS X (.If c a b pos) (tIfS tc t u) := by
  intro pins s σ H D I h
  refine wpAny_If (thn (hc pins s σ H _ I h) fun d s1 ⟨H1, I1, q1⟩ => ?_)
  cases d with
  | true => exact ha pins s1 σ H1 D I1 q1
  | false => exact hb pins s1 σ H1 D I1 q1
/-- code that the proof never comes to -/
noncomputable def tNever : TS := fun _ _ _ => False
theorem ps_never : PS X st tNever := fun _ _ _ _ _ _ h => h.elim
end

noncomputable abbrev TG := V → St → Hp → (St → Hp → Prop) → Prop
noncomputable def PG (X : Cx) (target : Expr) (t : TG) : Prop :=
  ∀ (pins : List (Addr × Obj)) (s : Shared) (σ : St) (H : Hp) (v : V) (u : Value) (Q : St → Hp → Prop), Inv X pins σ H s → RelV v u → t v σ H Q →
    wpAny (model X.prog X.w) X.A (assign target X.env u) (fun _ s' => ∃ σ' H', Inv X pins σ' H' s' ∧ Q σ' H') X.xe s
section
variable {X : Cx} {pos : Pos}
noncomputable def gName (i : Nat) : TG := fun v σ H Q => Q (σ.set i (some v)) H
theorem pg_name {i : Nat} {x : Str} (hN : X.N.Nodup) (hi : X.N[i]? = some x) (hx : Loc X.env.scope x) (hf : X.fn x = true ∨ X.env.scope.names.lookup x = some .local := by first | exact .inl rfl | exact .inr rfl | assumption) : PG X (.Name x pos) (gName i) := by
  intro pins s σ H v u Q I r h
  exact wpAny_assign_Name (store_ok I hN hi hx r (fun s' I' => ⟨_, H, I', h⟩) hf)
/-- target = value -/
noncomputable def tAsg (te : TE) (g : TG) : TS := fun D σ H => te σ H fun x H1 => g x σ H1 D.nx
/-- name = value -/
theorem ps_set {i : Nat} {x : Str} {e : Expr} {te : TE} {pos' : Pos} (hN : X.N.Nodup) (hi : X.N[i]? = some x) (hx : Loc X.env.scope x) (he : PE X e te) (hs : swapsWith e (some (.Name x pos')) pos.line X.env = pure false := by rfl) (hf : X.fn x = true ∨ X.env.scope.names.lookup x = some .local := by first | exact .inl rfl | exact .inr rfl | assumption) :
    PS X (.Assign [.Name x pos'] e pos) (tAsg te (gName i)) := by
  intro pins s σ H D I h
  refine wpAny_Assign_Name (thn (he pins s σ H _ I h) fun v s1 ⟨y, H1, I1, r1, q1⟩ => ?_) hs
  exact store_ok I1 hN hi hx r1 (fun s2 I2 => ⟨_, H1, I2, q1⟩) hf
end

section
variable {X : Cx} {pos : Pos}
/-- the invariant W with its measure -/
noncomputable def tWhile (c : TT) (tb : TS) : TS := fun D σ H => ∃ W : Nat → St → Hp → Prop, (∃ m, W m σ H) ∧ ∀ m σ H, W m σ H →
  c σ H fun b H1 => if b = true then ∃ N : St → Hp → Prop, (∀ σ' H', N σ' H' → ∃ m', m' < m ∧ W m' σ' H') ∧ tb { D with nx := N, ct := N, bk := D.nx } σ H1 else D.nx σ H1
theorem ps_while {c : Expr} {body : List Stmt} {tc : TT} {tb : TS} (hp : PassesOwn (model X.prog X.w) X.A X.env X.xe) (hc : PT X c tc) (hb : PSs X body tb) : PS X (.While c body [] pos) (tWhile tc tb) := by
  intro pins s σ H D I h
  obtain ⟨W, ⟨m0, w0⟩, turn⟩ := h
  refine wpAny_While (codeAny_whileLoop (fun n s' => ∃ σ' H', Inv X pins σ' H' s' ∧ W n σ' H') ?_ m0 ⟨σ, H, I, w0⟩)
  rintro n s1 ⟨σ1, H1, I1, w1⟩
  refine wpAny_passesOwn hp (thn (hc pins s1 σ1 H1 _ I1 (turn n σ1 H1 w1)) fun b s2 ⟨H2, I2, q2⟩ => ?_)
  cases b with
  | true =>
    obtain ⟨N, hN, q2⟩ := q2
    rw [if_pos rfl]
    refine wpAny_passesOwn hp (thn (hb pins s2 σ1 H2 _ I2 q2) fun f s3 q3 => ?_)
    cases f with
    | next =>
      obtain ⟨σ3, H3, I3, n3⟩ := q3
      obtain ⟨m', hm, w3⟩ := hN σ3 H3 n3
      exact ⟨m', hm, σ3, H3, I3, w3⟩
    | cont =>
      obtain ⟨σ3, H3, I3, n3⟩ := q3
      obtain ⟨m', hm, w3⟩ := hN σ3 H3 n3
      exact ⟨m', hm, σ3, H3, I3, w3⟩
    | brk => exact q3
    | ret v => exact q3
  | false =>
    rw [if_neg Bool.false_ne_true]
    exact wpAny_execs_nil ⟨σ1, H2, I2, q2⟩
end

/-- at turn i: it yields x (the heap may grow), or it stops -/
structure It where
  go : Nat → Hp → Prop
  yld : Nat → Hp → V → Hp → Prop
  stop : Nat → Hp → Prop
/-- the iterator's own objects may turn: they are not the frame's, not pinned, younger than the entry (or a comprehension's own) -/
noncomputable def FpOk (X : Cx) (pins : List (Addr × Obj)) (H : Hp) (b : Addr) : Prop :=
  H b = none ∧ b ≠ X.env.locals ∧ b ∉ X.fs ∧ (b ∈ X.ex ∨ X.s_0.heap.objs.size ≤ b) ∧ (∀ x c, X.env.cells.lookup x = some c → c ≠ b) ∧ ∀ p ∈ X.pn ++ pins, p.1 ≠ b
theorem Inv.fpOk {X : Cx} {pins : List (Addr × Obj)} {σ : St} {H H' : Hp} {s : Shared} {b : Addr} (I : Inv X pins σ H s) (hb : s.heap.objs.size ≤ b) (hn : H' b = none) : FpOk X pins H' b := by
  refine ⟨hn, Nat.ne_of_gt (Nat.lt_of_lt_of_le I.lt hb), I.nofs hb, .inr (Nat.le_trans I.sz hb), fun x c e z => ?_, fun p hp z => ?_⟩
  · obtain ⟨v, q⟩ := I.cell x c e
    exact absurd (Nat.lt_of_lt_of_le q.lt (by rw [z]; exact hb)) (Nat.lt_irrefl _)
  · exact absurd (Nat.lt_of_lt_of_le (Heap.lt_size (I.pin p hp).1) (by rw [z]; exact hb)) (Nat.lt_irrefl _)
structure Turn (P : Program) (w : World) (K : PySem.W.Frag) (tg : Expr) (J : It) (fp : List Addr) (it : Addr) (tn : Nat → Heap → Prop) : Prop where
  mem : it ∈ fp
  obj : ∀ i h, tn i h → ∀ b ∈ fp, ∃ o, h.get? b = some o ∧ ∀ v, o.data ≠ .cell v
  keep : ∀ i h h', tn i h → (∀ b ∈ fp, ∀ o, h.get? b = some o → h'.get? b = some o) → tn i h'
  item : ∀ (X : Cx), X.prog = P → X.w = w → X.K = K → X.calm = true → ∀ (i : Nat) (pins : List (Addr × Obj)) (s : Shared) (σ : St) (H : Hp) (E : Value → Shared → Prop), Inv X pins σ H s → (∀ b ∈ fp, FpOk X pins H b) → tn i s.heap → J.go i H →
    wpAny (model P w) X.A (pyNext (.ref it)) (fun r s1 => ∃ u, r = some u ∧
      wpAny (model P w) X.A (letOwnedTupleGo tg (.ref it) u) (fun _ s2 => ∃ x H', Inv X pins σ H' s2 ∧ RelV x u ∧ J.yld i H x H' ∧ tn (i + 1) s2.heap ∧ ∀ b ∈ fp, H' b = none) E s1) E s
  done : ∀ (X : Cx), X.prog = P → X.w = w → X.K = K → X.calm = true → ∀ (i : Nat) (pins : List (Addr × Obj)) (s : Shared) (σ : St) (H : Hp) (E : Value → Shared → Prop), Inv X pins σ H s → (∀ b ∈ fp, FpOk X pins H b) → tn i s.heap → J.stop i H →
    wpAny (model P w) X.A (pyNext (.ref it)) (fun r s1 => r = none ∧ Inv X pins σ H s1) E s
  self : ∀ (A : Around) (i : Nat) (s : Shared) (Q : Value → Shared → Prop) (E : Value → Shared → Prop), tn i s.heap → Q (.ref it) s → wpAny (model P w) A (pyIter (.ref it)) Q E s
noncomputable abbrev TI := St → Hp → (It → Hp → Prop) → Prop
/-- an iterator has come -/
noncomputable def PIE (X : Cx) (pins : List (Addr × Obj)) (σ : St) (tg : Expr) (R : It → Hp → Prop) (itv : Value) (s2 : Shared) : Prop :=
  ∃ (it : Addr) (fp : List Addr) (tn : Nat → Heap → Prop) (J : It) (H' : Hp), itv = .ref it ∧ Inv X pins σ H' s2 ∧ Turn X.prog X.w X.K tg J fp it tn ∧ tn 0 s2.heap ∧ (∀ b ∈ fp, FpOk X pins H' b) ∧ R J H'
noncomputable def PI (X : Cx) (tg iter : Expr) (wi : TI) : Prop :=
  ∀ (pins : List (Addr × Obj)) (s : Shared) (σ : St) (H : Hp) (R : It → Hp → Prop), Inv X pins σ H s → wi σ H R →
    wpAny (model X.prog X.w) X.A (eval iter X.env) (fun v s1 => wpAny (model X.prog X.w) X.A (pyIter v) (PIE X pins σ tg R) X.xe s1) X.xe s

/-- the step ahead of the store is nothing for an iterator that keeps no tuple -/
theorem go_of {M : Model} {A : Around} {E : Value → Shared → Prop} {s : Shared} {tg : Expr} {it : Addr} {u : Value} {o : Obj} {n : String} {vs : Array Value} {Q : Unit → Shared → Prop} (ho : s.heap.get? it = some o) (hc : o.cls = .type n) (hd : o.data = .fields vs)
    (hn : ["enumerate", "zip", "dict_itemiterator", "dict_reverseitemiterator", "odict_iterator", "itertools.zip_longest", "itertools.pairwise"].contains n = false) (hQ : Q () s) : wpAny M A (letOwnedTupleGo tg (.ref it) u) Q E s := by
  unfold letOwnedTupleGo
  cases tg <;> first
    | exact wpAny_pure hQ
    | (cases u <;> first
        | exact wpAny_pure hQ
        | (refine wpAny_bind (wpAny_load ho ?_)
           rw [hc, hd]
           show wpAny M A (if (["enumerate", "zip", "dict_itemiterator", "dict_reverseitemiterator", "odict_iterator", "itertools.zip_longest", "itertools.pairwise"].contains n && vs[0]? == some (rawInt _)) = true then _ else _) Q E s
           rw [if_neg (by intro h; rw [hn, Bool.false_and] at h; cases h)]
           exact wpAny_pure hQ))

/-- the list at a, as it stands at each turn (a loop may append to it) -/
noncomputable def Itl (K : PySem.W.Frag) (a : Addr) : It :=
  ⟨fun i H => ∃ xs x, SqL K H a xs ∧ xs[i]? = some x, fun i H x H' => H' = H ∧ ∀ xs, SqL K H a xs → xs[i]? = some x, fun i H => ∃ xs, SqL K H a xs ∧ xs.length ≤ i⟩
/-- lo, lo + 1, .. (n of them) -/
noncomputable def Itr (lo : Int) (n : Nat) : It := ⟨fun i _ => i < n, fun i H x H' => H' = H ∧ x = .int (lo + i), fun i _ => n ≤ i⟩
theorem turn_list {P : Program} {w : World} {K : PySem.W.Frag} {tg : Expr} (a it : Addr) : Turn P w K tg (Itl K a) [it] it (fun i h => h.IsListIter it a i) where
  mem := by simp
  obj := fun i h st b hb => by
    have e : b = it := by simpa using hb
    subst e
    obtain ⟨o, e, c, d⟩ := st
    exact ⟨o, e, fun v z => by rw [d] at z; cases z⟩
  keep := fun i h h' st k => st.at fun o e => k it (by simp) o e
  item := by
    intro X hP hw hK hc i pins s σ H E I hf st hg
    subst hP hw hK
    obtain ⟨xs, x, hq, hx⟩ := hg
    obtain ⟨its, rv, p, hz⟩ := I.list hq
    obtain ⟨u, hu, ru⟩ := rv.get hx
    obtain ⟨f0, f1, f2, f3, f4, f5⟩ := hf it (by simp)
    refine wpAny_pyNext_list_item st p.isList (x := u) (by simpa using hu) fun h' st' sb => ?_
    have I1 : Inv X pins σ H { s with heap := h' } := I.turned (t' := s.toks) (fun b o hb e => (sb.2 b hb).trans e) f0 f1 f3 f4 f5
    obtain ⟨o, e, c, d⟩ := id st'
    exact ⟨u, rfl, go_of (s := { s with heap := h' }) e c d (by decide) ⟨x, H, I1, ru, ⟨rfl, fun ys hy => by rw [I.list_inj hy hq]; exact hx⟩, st', fun b hb => (hf b hb).1⟩⟩
  done := by
    intro X hP hw hK hc i pins s σ H E I hf st hg
    subst hP hw hK
    obtain ⟨xs, hq, hx⟩ := hg
    obtain ⟨its, rv, p, hz⟩ := I.list hq
    obtain ⟨f0, f1, f2, f3, f4, f5⟩ := hf it (by simp)
    have hl := rv.length
    exact wpAny_pyNext_list_end (I.ok.hd hc) st p.isList (by simp; omega) fun h' eb => ⟨rfl, I.turned (t' := s.toks) (fun b o hb e => eb b o hb e) f0 f1 f3 f4 f5⟩
  self := fun _ _ _ _ _ st h => wpAny_pyIter_listiter st h
theorem turn_range {P : Program} {w : World} {K : PySem.W.Frag} {tg : Expr} (it : Addr) (lo : Int) (n : Nat) : Turn P w K tg (Itr lo n) [it] it (fun i h => IsRangeIter h it (lo + (i : Nat) * 1) ((n : Int) - (i : Nat)) 1) where
  mem := by simp
  obj := fun i h st b hb => by
    have e : b = it := by simpa using hb
    subst e
    exact ⟨_, st, fun v z => by
      have z' : Data.fields _ = Data.cell v := z
      cases z'⟩
  keep := fun i h h' st k => k it (by simp) _ st
  item := by
    intro X hP hw hK hc i pins s σ H E I hf st hg
    subst hP hw hK
    obtain ⟨f0, f1, f2, f3, f4, f5⟩ := hf it (by simp)
    have W := Walks.range (prog := X.prog) (w := X.w) (I.ok.hd hc) it lo 1 n
    refine W.item i s _ _ hg st fun v h' tk hv st' kk => ?_
    obtain ⟨t, rfl⟩ := hv
    have I1 : Inv X pins σ H { s with heap := h', toks := tk } := I.turned (fun b o hb e => kk b o (by simpa using hb) e) f0 f1 f3 f4 f5
    refine ⟨_, rfl, go_of (s := { s with heap := h', toks := tk }) (n := "range_iterator") st' rfl rfl (by decide) ⟨.int (lo + i), H, I1, ⟨t, ?_⟩, ⟨rfl, rfl⟩, st', fun b hb => (hf b hb).1⟩⟩
    rw [Int.mul_one]
  done := by
    intro X hP hw hK hc i pins s σ H E I hf st hg
    subst hP hw hK
    obtain ⟨f0, f1, f2, f3, f4, f5⟩ := hf it (by simp)
    exact wpAny_pyNext_range_end (I.ok.hd hc) st (by have : n ≤ i := hg; omega) fun h' eb => ⟨rfl, I.turned (t' := s.toks) (fun b o hb e => eb b o hb e) f0 f1 f3 f4 f5⟩
  self := fun _ _ _ _ _ st h => wpAny_pyIter_rangeiter st h
end L2

namespace L2
open PySem PySem.Spec PyProof.Rows
section
variable {X : Cx} {tg : Expr}
noncomputable def iList (K : PySem.W.Frag) (tl : TE) : TI := fun σ H R => tl σ H fun x H1 => ∃ a, x = .ref a ∧ (∃ xs, SqL K H1 a xs) ∧ R (Itl K a) H1
theorem pi_list {l : Expr} {tl : TE} (hl : PE X l tl) : PI X tg l (iList X.K tl) := by
  intro pins s σ H R I h
  refine thn (hl pins s σ H _ I h) fun v s1 ⟨x, H1, I1, r1, q1⟩ => ?_
  obtain ⟨a, e, ⟨xs, hq⟩, q⟩ := q1
  subst e
  cases r1
  obtain ⟨its, rv, p, hz⟩ := I1.list hq
  refine wpAny_pyIter_list p.isList ?_
  refine ⟨s1.heap.objs.size, [s1.heap.objs.size], _, _, H1, rfl, I1.kept (t' := s1.toks) fun b o e => Heap.get?_push_of_some _ e, turn_list a _, ⟨_, Heap.get?_push_size _ rfl, rfl, rfl⟩, fun b hb => ?_, q⟩
  have e : b = s1.heap.objs.size := by simpa using hb
  subst e
  exact I1.fpOk (Nat.le_refl _) (I1.hok.fresh (Nat.le_refl _))
/-- a range object just made, walked -/
theorem range_it {pins : List (Addr × Obj)} {σ : St} {H : Hp} {s : Shared} {R : It → Hp → Prop} {E : Value → Shared → Prop} {lo hi : Int} {t u v : Tok} {tk : Nat} (I : Inv X pins σ H s) (h1 : -(2 ^ 62) ≤ lo) (h2 : lo < 2 ^ 62) (h3 : -(2 ^ 62) ≤ hi) (h4 : hi < 2 ^ 62)
    (q : R (Itr lo (hi - lo).toNat) H) : wpAny (model X.prog X.w) X.A (pyIter (.ref s.heap.objs.size)) (PIE X pins σ tg R) E { s with heap := s.heap.push { cls := .type "range", data := .fields #[.int lo t, .int hi u, .int 1 v] }, toks := tk } := by
  refine wpAny_pyIter_range (IsRange.new ..) (small_one h1 h2 h3 h4) ?_
  have I1 : Inv X pins σ H { s with heap := s.heap.push { cls := .type "range", data := .fields #[.int lo t, .int hi u, .int 1 v] }, toks := tk } := I.kept fun b o e => Heap.get?_push_of_some _ e
  refine ⟨(s.heap.push { cls := .type "range", data := .fields #[.int lo t, .int hi u, .int 1 v] }).objs.size, [(s.heap.push { cls := .type "range", data := .fields #[.int lo t, .int hi u, .int 1 v] }).objs.size], _, _, H, rfl,
    I1.kept (t' := tk) fun b o e => Heap.get?_push_of_some _ e, turn_range _ lo (hi - lo).toNat, ?_, fun b hb => ?_, q⟩
  · have e1 : lo + ((0 : Nat) : Int) * 1 = lo := by simp
    have e2 : (((hi - lo).toNat : Nat) : Int) - ((0 : Nat) : Int) = Builtin.Range.rangeSize lo hi 1 := by rw [rangeSize_one]; split <;> omega
    show IsRangeIter _ _ (lo + ((0 : Nat) : Int) * 1) ((((hi - lo).toNat : Nat) : Int) - ((0 : Nat) : Int)) 1
    rw [e1, e2]
    exact Heap.get?_push_size _ rfl
  · have e : b = (s.heap.push { cls := .type "range", data := .fields #[.int lo t, .int hi u, .int 1 v] }).objs.size := by simpa using hb
    subst e
    exact I1.fpOk (Nat.le_refl _) (I1.hok.fresh (Nat.le_refl _))
noncomputable def iRng1 (ta : TA) : TI := fun σ H R => ta σ H fun vs H1 => ∃ j : Int, vs = [.int j] ∧ -(2 ^ 62) ≤ j ∧ j < 2 ^ 62 ∧ R (Itr 0 j.toNat) H1
theorem pi_range1 {a : Expr} {ta : TA} {p pos : Pos} (hg : Gl X "range") (hm : X.mg "range" = none) (ha : PA X [a] ta) (hs : starEach [a] X.env = [(false, eval a X.env)] := by rfl) : PI X tg (.Call (.Name "range" p) [a] [] pos) (iRng1 ta) := by
  intro pins s σ H R I h
  refine Call_ (ld_blt I hg hm boot_range (PyProof.Rows.callWith_type1 (thn (ha pos pins s σ H _ I h) fun us s1 ⟨vs, H1, I1, r1, q1⟩ => ?_) hs rfl))
  obtain ⟨j, e, q1, q2, q⟩ := q1
  subst e
  cases r1 with
  | cons r rr =>
    cases rr
    obtain ⟨t, rfl⟩ := r
    exact call_range_1 (range_it I1 (by omega) (by omega) q1 q2 (by simpa using q))
/-- W: the invariant by the turn and a measure; N: what the body is to reach -/
noncomputable def tFor (wi : TI) (g : TG) (tb : TS) : TS := fun D σ H => wi σ H fun J H1 => ∃ W : Nat → Nat → St → Hp → Prop, (∃ m, W 0 m σ H1) ∧ ∀ i m σ H, W i m σ H →
  (J.stop i H ∧ D.nx σ H) ∨ (J.go i H ∧ ∃ N : St → Hp → Prop, (∀ σ' H', N σ' H' → ∃ m', m' < m ∧ W (i + 1) m' σ' H') ∧ ∀ x H', J.yld i H x H' → g x σ H' fun σ2 H2 => tb { D with nx := N, ct := N, bk := D.nx } σ2 H2)
/-- the records at fp as they stand -/
noncomputable def pinsAt (fp : List Addr) (h : Heap) : List (Addr × Obj) := fp.filterMap fun b => (h.get? b).map fun o => (b, o)
theorem mem_pinsAt {fp : List Addr} {h : Heap} {b : Addr} {o : Obj} (hb : b ∈ fp) (e : h.get? b = some o) : (b, o) ∈ pinsAt fp h := List.mem_filterMap.mpr ⟨b, hb, by rw [e]; rfl⟩
theorem of_pinsAt {fp : List Addr} {h : Heap} {p : Addr × Obj} (hp : p ∈ pinsAt fp h) : p.1 ∈ fp ∧ h.get? p.1 = some p.2 := by
  obtain ⟨b, hb, e⟩ := List.mem_filterMap.mp hp
  cases q : h.get? b with
  | none => rw [q] at e; cases e
  | some o =>
    rw [q] at e
    have e' : (b, o) = p := Option.some.inj e
    subst e'
    exact ⟨hb, q⟩
theorem Inv.pinned {pins : List (Addr × Obj)} {σ : St} {H : Hp} {s : Shared} {fp : List Addr} (I : Inv X pins σ H s) (hf : ∀ b ∈ fp, FpOk X pins H b) (ho : ∀ b ∈ fp, ∃ o, s.heap.get? b = some o ∧ ∀ v, o.data ≠ .cell v) : Inv X (pins ++ pinsAt fp s.heap) σ H s :=
  I.pins_of fun p hp => (List.mem_append.mp hp).elim (fun z => I.pin p (List.mem_append_right _ z)) fun z => by
    obtain ⟨hb, e⟩ := of_pinsAt z
    obtain ⟨f0, f1, f2, _⟩ := hf p.1 hb
    obtain ⟨o, e', d⟩ := ho p.1 hb
    rw [e] at e'; cases e'
    exact ⟨e, f0, f1, f2, d⟩
theorem Inv.unpinned {pins pl : List (Addr × Obj)} {σ : St} {H : Hp} {s : Shared} (I : Inv X (pins ++ pl) σ H s) : Inv X pins σ H s := I.pins_of fun p hp => I.pin p (List.mem_append_right _ (List.mem_append_left _ hp))
theorem ps_for {iter : Expr} {body : List Stmt} {wi : TI} {g : TG} {tb : TS} {pos : Pos} (hp : PassesOwn (model X.prog X.w) X.A X.env X.xe) (hc : X.calm = true) (hi : PI X tg iter wi) (hg : PG X tg g) (hb : PSs X body tb)
    (hs : ∀ x, foldedSetIterable iter X.env x = pure x := by intro _; rfl) : PS X (.For tg iter body [] pos) (tFor wi g tb) := by
  intro pins s σ H D I h
  refine wpAny_For (thn (hi pins s σ H _ I h) fun v s1 h1 => thn h1 fun itv s2 h2 => ?_) hs
  obtain ⟨it, fp, tn, J, H2, e, I2, T, st2, f2, W, ⟨m0, w0⟩, turn⟩ := h2
  subst e
  -- what stays true of the iterator's objects through the loop
  have stat : ∀ {H' : Hp}, (∀ b ∈ fp, H' b = none) → ∀ b ∈ fp, FpOk X pins H' b := fun hn b hb => ⟨hn b hb, (f2 b hb).2⟩
  refine codeAny_forLoop_any (fun n s' => ∃ i σ' H', Inv X pins σ' H' s' ∧ tn i s'.heap ∧ (∀ b ∈ fp, H' b = none) ∧ W i n σ' H') ?_ m0 ⟨0, σ, H2, I2, st2, fun b hb => (f2 b hb).1, w0⟩
  rintro n s3 ⟨i, σ3, H3, I3, st3, fr3, w3⟩
  rcases turn i n σ3 H3 w3 with ⟨stop, qn⟩ | ⟨go, N, hN, step⟩
  · refine wpAny_passesOwn hp (thn (T.done X rfl rfl rfl hc i pins s3 σ3 H3 X.xe I3 (stat fr3) st3 stop) fun r s4 ⟨hr, I4⟩ => ?_)
    subst hr
    exact wpAny_execs_nil ⟨σ3, H3, I4, qn⟩
  · refine wpAny_passesOwn hp (thn (T.item X rfl rfl rfl hc i pins s3 σ3 H3 X.xe I3 (stat fr3) st3 go) fun r s4 ⟨u, hr, h4⟩ => ?_)
    subst hr
    refine wpAny_passesOwn hp (thn h4 fun _ s5 ⟨x, H5, I5, r5, y5, st5, fr5⟩ => ?_)
    have I5' := I5.pinned (stat fr5) (T.obj _ _ st5)
    refine wpAny_passesOwn hp (thn (hg _ s5 σ3 H5 x u _ I5' r5 (step x H5 y5)) fun _ s6 ⟨σ6, H6, I6, q6⟩ => ?_)
    refine wpAny_passesOwn hp (thn (hb _ s6 σ6 H6 _ I6 q6) fun f s7 q7 => ?_)
    have again : ∀ {σ7 : St} {H7 : Hp}, Inv X (pins ++ pinsAt fp s5.heap) σ7 H7 s7 → N σ7 H7 → ∃ m, m < n ∧ ∃ i σ' H', Inv X pins σ' H' s7 ∧ tn i s7.heap ∧ (∀ b ∈ fp, H' b = none) ∧ W i m σ' H' := fun {σ7 H7} I7 n7 => by
      obtain ⟨m', hm, w7⟩ := hN σ7 H7 n7
      refine ⟨m', hm, i + 1, σ7, H7, I7.unpinned, T.keep _ _ _ st5 fun b hb o e => (I7.pin (b, o) (List.mem_append_right _ (List.mem_append_right _ (mem_pinsAt hb e)))).1, fun b hb => ?_, w7⟩
      obtain ⟨o, e, d⟩ := T.obj _ _ st5 b hb
      exact (I7.pin (b, o) (List.mem_append_right _ (List.mem_append_right _ (mem_pinsAt hb e)))).2.1
    cases f with
    | next => obtain ⟨σ7, H7, I7, n7⟩ := q7; exact again I7 n7
    | cont => obtain ⟨σ7, H7, I7, n7⟩ := q7; exact again I7 n7
    | brk => obtain ⟨σ7, H7, I7, q7⟩ := q7; exact ⟨σ7, H7, I7.unpinned, q7⟩
    | ret v => obtain ⟨x7, σ7, H7, I7, r7, q7⟩ := q7; exact ⟨x7, σ7, H7, I7.unpinned, r7, q7⟩
end

/-- over a list that the body leaves as it is -/
theorem for_list {K : PySem.W.Frag} {a : Addr} {xs : List V} {g : TG} {tb : TS} {D : Ends} {σ : St} {H : Hp} (Pv : Nat → St → Hp → Prop) (h0 : Pv 0 σ H) (hl : ∀ i σ H, i ≤ xs.length → Pv i σ H → SqL K H a xs)
    (hs : ∀ i x σ H, xs[i]? = some x → Pv i σ H → g x σ H fun σ2 H2 => tb { D with nx := Pv (i + 1), ct := Pv (i + 1), bk := D.nx } σ2 H2) (hd : ∀ σ H, Pv xs.length σ H → D.nx σ H) :
    ∃ W : Nat → Nat → St → Hp → Prop, (∃ m, W 0 m σ H) ∧ ∀ i m σ H, W i m σ H →
      ((Itl K a).stop i H ∧ D.nx σ H) ∨ ((Itl K a).go i H ∧ ∃ N : St → Hp → Prop, (∀ σ' H', N σ' H' → ∃ m', m' < m ∧ W (i + 1) m' σ' H') ∧ ∀ x H', (Itl K a).yld i H x H' → g x σ H' fun σ2 H2 => tb { D with nx := N, ct := N, bk := D.nx } σ2 H2) := by
  refine ⟨fun i m σ H => m = xs.length - i ∧ i ≤ xs.length ∧ Pv i σ H, ⟨xs.length, by simp, Nat.zero_le _, h0⟩, ?_⟩
  rintro i m σ H ⟨rfl, hi, p⟩
  have q := hl i σ H hi p
  by_cases hlt : i < xs.length
  · refine .inr ⟨⟨xs, xs[i], q, by simp [hlt]⟩, Pv (i + 1), fun σ' H' p' => ⟨xs.length - (i + 1), by omega, rfl, hlt, p'⟩, fun x H' y => ?_⟩
    obtain ⟨e, y⟩ := y
    subst e
    exact hs i x σ _ (y xs q) p
  · have e : i = xs.length := by omega
    subst e
    exact .inl ⟨⟨xs, q, Nat.le_refl _⟩, hd σ H p⟩
/-- while, by a word and a measure of the state -/
theorem while_by {c : TT} {tb : TS} {D : Ends} {σ : St} {H : Hp} (Pv : St → Hp → Prop) (μ : St → Hp → Nat) (h0 : Pv σ H)
    (hs : ∀ σ H, Pv σ H → c σ H fun b H1 => if b = true then tb { D with nx := fun σ' H' => Pv σ' H' ∧ μ σ' H' < μ σ H, ct := fun σ' H' => Pv σ' H' ∧ μ σ' H' < μ σ H, bk := D.nx } σ H1 else D.nx σ H1)
    (mono : ∀ σ H Q Q', (∀ b H1, Q b H1 → Q' b H1) → c σ H Q → c σ H Q') : tWhile c tb D σ H := by
  refine ⟨fun m σ H => m = μ σ H ∧ Pv σ H, ⟨_, rfl, h0⟩, ?_⟩
  rintro m σ H ⟨rfl, p⟩
  refine mono σ H _ _ (fun b H1 q => ?_) (hs σ H p)
  cases b with
  | true => exact ⟨_, fun σ' H' ⟨p', l⟩ => ⟨_, l, rfl, p'⟩, q⟩
  | false => exact q
end L2

namespace L2
open PySem PySem.Spec PyProof.Rows

noncomputable abbrev R2 := V → V → Hp → VK → Prop
/-- a two-place operation on values: f is binaryOp op, inplaceOp op or compareOp op -/
noncomputable def OpR (X : Cx) (f : Value → Value → Sem Value) (r : R2) : Prop :=
  ∀ (pins : List (Addr × Obj)) (s : Shared) (σ : St) (H : Hp) (x y : V) (v u : Value) (Q : VK), Inv X pins σ H s → RelV x v → RelV y u → r x y H Q →
    wpAny (model X.prog X.w) X.A (f v u) (EP X pins σ Q) X.xe s
/-- a one-place operation -/
noncomputable def UnR (X : Cx) (f : Value → Sem Value) (r : V → Hp → VK → Prop) : Prop :=
  ∀ (pins : List (Addr × Obj)) (s : Shared) (σ : St) (H : Hp) (x : V) (v : Value) (Q : VK), Inv X pins σ H s → RelV x v → r x H Q →
    wpAny (model X.prog X.w) X.A (f v) (EP X pins σ Q) X.xe s
/-- a call of a value that is known (a builtin, a type) with values -/
noncomputable def CallR (X : Cx) (f : Value) (r : List V → Hp → VK → Prop) : Prop :=
  ∀ (pins : List (Addr × Obj)) (s : Shared) (σ : St) (H : Hp) (xs : List V) (us : List Value) (Q : VK), Inv X pins σ H s → Vals xs us → r xs H Q →
    wpAny (model X.prog X.w) X.A (call f us) (EP X pins σ Q) X.xe s
noncomputable def tOp (r : R2) (ta tb : TE) : TE := fun σ H Q => ta σ H fun x H1 => tb σ H1 fun y H2 => r x y H2 Q
noncomputable def tUn (r : V → Hp → VK → Prop) (ta : TE) : TE := fun σ H Q => ta σ H fun x H1 => r x H1 Q
/-- ints in, under C, and a value out -/
noncomputable def rI (C : Int → Int → Prop) (g : Int → Int → V) : R2 := fun x y H Q => ∃ i j, x = .int i ∧ y = .int j ∧ C i j ∧ Q (g i j) H
noncomputable def rI0 (g : Int → Int → V) : R2 := fun x y H Q => ∃ i j, x = .int i ∧ y = .int j ∧ Q (g i j) H
noncomputable def rU (g : Int → V) : V → Hp → VK → Prop := fun x H Q => ∃ i, x = .int i ∧ Q (g i) H

section
variable {X : Cx} {a b c : Expr} {ta tb tc : TE} {pos : Pos}

theorem binT (ha : PE X a ta) (hb : PE X b tb) {pins : List (Addr × Obj)} {s : Shared} {σ : St} {H : Hp} {R : V → V → Hp → Prop} (I : Inv X pins σ H s)
    (h : ta σ H fun x H1 => tb σ H1 fun y H2 => R x y H2) {Q : Value → Shared → Prop} {f : Value → Value → Sem Value}
    (hf : ∀ v u s2 x y H2, Inv X pins σ H2 s2 → RelV x v → RelV y u → R x y H2 → wpAny (model X.prog X.w) X.A (f v u) Q X.xe s2) :
    wpAny (model X.prog X.w) X.A (eval a X.env) (fun v s₁ => wpAny (model X.prog X.w) X.A (eval b X.env) (fun u s₂ => wpAny (model X.prog X.w) X.A (f v u) Q X.xe s₂) X.xe s₁) X.xe s := by
  refine thn (ha pins s σ H _ I h) fun v s1 ⟨x, H1, I1, r1, q1⟩ => ?_
  refine thn (hb pins s1 σ H1 _ I1 q1) fun u s2 ⟨y, H2, I2, r2, q2⟩ => ?_
  exact hf v u s2 x y H2 I2 r1 r2 q2

theorem pe_op {op : Operator} {r : R2} (ho : OpR X (binaryOp op) r) (ha : PE X a ta) (hb : PE X b tb) : PE X (.BinOp a op b pos) (tOp r ta tb) := by
  intro pins s σ H Q I h
  exact wpAny_BinOp (binT ha hb I h fun v u s2 x y H2 I2 rx ry q => ho pins s2 σ H2 x y v u Q I2 rx ry q)
theorem pe_un {op : UnaryOp} {r : V → Hp → VK → Prop} (ho : UnR X (unaryOp op) r) (ha : PE X a ta) : PE X (.UnaryOp op a pos) (tUn r ta) := by
  intro pins s σ H Q I h
  exact UnaryOp_ (thn (ha pins s σ H _ I h) fun v s1 ⟨x, H1, I1, r1, q1⟩ => ho pins s1 σ H1 x v Q I1 r1 q1)
theorem opI {f : Value → Value → Sem Value} {C : Int → Int → Prop} {g : Int → Int → Int}
    (rule : ∀ (i j : Int) (t u : Tok) (s : Shared) (Q : Value → Shared → Prop) (E : Value → Shared → Prop), C i j → Q (.int (g i j) s.toks) { s with toks := s.toks + 1 } → wpAny (model X.prog X.w) X.A (f (.int i t) (.int j u)) Q E s) :
    OpR X f (rI C fun i j => .int (g i j)) := by
  intro pins s σ H x y v u Q I rx ry h
  obtain ⟨i, j, rfl, rfl, hc, q⟩ := h
  obtain ⟨t, rfl⟩ := rx
  obtain ⟨t', rfl⟩ := ry
  exact rule i j t t' s _ _ hc ⟨.int (g i j), H, I.tok _, ⟨_, rfl⟩, q⟩
theorem opI0 {f : Value → Value → Sem Value} {g : Int → Int → Int}
    (rule : ∀ (i j : Int) (t u : Tok) (s : Shared) (Q : Value → Shared → Prop) (E : Value → Shared → Prop), Q (.int (g i j) s.toks) { s with toks := s.toks + 1 } → wpAny (model X.prog X.w) X.A (f (.int i t) (.int j u)) Q E s) :
    OpR X f (rI0 fun i j => .int (g i j)) := by
  intro pins s σ H x y v u Q I rx ry h
  obtain ⟨i, j, rfl, rfl, q⟩ := h
  obtain ⟨t, rfl⟩ := rx
  obtain ⟨t', rfl⟩ := ry
  exact rule i j t t' s _ _ ⟨.int (g i j), H, I.tok _, ⟨_, rfl⟩, q⟩
theorem opB0 {f : Value → Value → Sem Value} {g : Int → Int → Bool}
    (rule : ∀ (i j : Int) (t u : Tok) (s : Shared) (Q : Value → Shared → Prop) (E : Value → Shared → Prop), Q (.bool (g i j)) s → wpAny (model X.prog X.w) X.A (f (.int i t) (.int j u)) Q E s) :
    OpR X f (rI0 fun i j => .bl (g i j)) := by
  intro pins s σ H x y v u Q I rx ry h
  obtain ⟨i, j, rfl, rfl, q⟩ := h
  obtain ⟨t, rfl⟩ := rx
  obtain ⟨t', rfl⟩ := ry
  exact rule i j t t' s _ _ ⟨.bl (g i j), H, I, rfl, q⟩

noncomputable def CDiv (i j : Int) : Prop := 0 < j ∧ j < 1073741824
noncomputable def CMul (i j : Int) : Prop := (-(2 ^ 64) < i ∧ i < 2 ^ 64) ∨ (-(2 ^ 64) < j ∧ j < 2 ^ 64)
theorem CMul.ok {i j : Int} (h : CMul i j) : IntMulOk i j := by
  rcases h with ⟨h1, h2⟩ | ⟨h1, h2⟩
  · exact .of_left (intBits_le_64 h1 h2)
  · exact .of_right (intBits_le_64 h1 h2)
theorem op_add : OpR X (binaryOp .Add) (rI0 fun i j => .int (i + j)) := opI0 fun _ _ _ _ _ _ _ q => add_int q
theorem op_sub : OpR X (binaryOp .Sub) (rI0 fun i j => .int (i - j)) := opI0 fun _ _ _ _ _ _ _ q => sub_int q
theorem op_mul : OpR X (binaryOp .Mult) (rI CMul fun i j => .int (i * j)) := opI fun _ _ _ _ _ _ _ hc q => mul_int q hc.ok
/-- // by a positive divisor -/
theorem op_fdiv : OpR X (binaryOp .FloorDiv) (rI CDiv fun i j => .int (i / j)) := opI fun i j _ _ _ _ _ hc q => by
  have h1 : (0 : Int) < j := hc.1
  have h2 : j < 1073741824 := hc.2
  exact floordiv_int (by omega) (by rw [Int.fdiv_eq_ediv_of_nonneg i (by omega)]; exact q) (.inl (PyProof.noPylong_small (by omega)))
theorem unI {f : Value → Sem Value} {g : Int → Int}
    (rule : ∀ (i : Int) (t : Tok) (s : Shared) (Q : Value → Shared → Prop) (E : Value → Shared → Prop), Q (.int (g i) s.toks) { s with toks := s.toks + 1 } → wpAny (model X.prog X.w) X.A (f (.int i t)) Q E s) :
    UnR X f (rU fun i => .int (g i)) := by
  intro pins s σ H x v Q I rx h
  obtain ⟨i, rfl, q⟩ := h
  obtain ⟨t, rfl⟩ := rx
  exact rule i t s _ _ ⟨.int (g i), H, I.tok _, ⟨_, rfl⟩, q⟩
theorem un_neg : UnR X (unaryOp .USub) (rU fun i => .int (-i)) := unI fun _ _ _ _ _ q => neg_int q
end

/-- the scalars that == tells apart as data does -/
noncomputable def scal : V → V → Bool
  | .non, .non => true | .non, .int _ => true | .int _, .non => true | .non, .bl _ => true | .bl _, .non => true | .non, .str _ => true | .str _, .non => true
  | .int _, .int _ => true | .bl _, .bl _ => true | .str _, .str _ => true | .byt _, .byt _ => true
  | .int _, .str _ => true | .str _, .int _ => true | .bl _, .str _ => true | .str _, .bl _ => true
  | _, _ => false
noncomputable def rEq : R2 := fun x y H Q => scal x y = true ∧ Q (.bl (decide (x = y))) H
noncomputable def rNe : R2 := fun x y H Q => scal x y = true ∧ Q (.bl (!decide (x = y))) H

theorem dec_int {i j : Int} : decide (V.int i = V.int j) = (i == j) := by
  rw [Bool.eq_iff_iff]
  simp
theorem dec_bl {i j : Bool} : decide (V.bl i = V.bl j) = (i == j) := by
  rw [Bool.eq_iff_iff]
  simp
theorem dec_str {i j : Str} : decide (V.str i = V.str j) = (i == j) := by
  rw [Bool.eq_iff_iff]
  simp
theorem dec_byt {i j : Array UInt8} : decide (V.byt i = V.byt j) = (i.toList == j.toList) := by
  rw [Bool.eq_iff_iff]
  cases i
  cases j
  simp

section
variable {X : Cx} {a b c : Expr} {ta tb tc : TE} {pos : Pos}
theorem fin_bl {pins : List (Addr × Obj)} {σ : St} {H : Hp} {s : Shared} {Q : VK} {k k' : Bool} (I : Inv X pins σ H s) (q : Q (.bl k) H) (e : k = k') : EP X pins σ Q (.bool k') s := by
  subst e
  exact ⟨.bl k, H, I, rfl, q⟩
theorem op_eq : OpR X (compareOp .Eq) rEq := by
  intro pins s σ H x y v u Q I rx ry h
  obtain ⟨hs, q⟩ := h
  cases x with
  | non =>
    cases rx
    cases y with
    | non => cases ry; exact PySem.EqNone.eq_none_none (fin_bl I q (by simp))
    | bl j => cases ry; exact PySem.EqNone.eq_none_bool (fin_bl I q (by simp))
    | int j => obtain ⟨t', rfl⟩ := ry; exact PySem.EqNone.eq_none_int (fin_bl I q (by simp))
    | str j => obtain ⟨t', rfl⟩ := ry; exact PySem.EqNone.eq_none_str (fin_bl I q (by simp))
    | _ => exact absurd (show false = true from hs) Bool.false_ne_true
  | bl i =>
    cases rx
    cases y with
    | non => cases ry; exact PySem.EqNone.eq_bool_none (fin_bl I q (by simp))
    | bl j => cases ry; exact eq_bool (fin_bl I q dec_bl)
    | str j => obtain ⟨t', rfl⟩ := ry; exact PySem.EqMixed.eq_bool_str (fin_bl I q (by simp))
    | _ => exact absurd (show false = true from hs) Bool.false_ne_true
  | int i =>
    obtain ⟨t, rfl⟩ := rx
    cases y with
    | non => cases ry; exact PySem.EqNone.eq_int_none (fin_bl I q (by simp))
    | int j => obtain ⟨t', rfl⟩ := ry; exact eq_int (fin_bl I q dec_int)
    | str j => obtain ⟨t', rfl⟩ := ry; exact PySem.EqMixed.eq_int_str (fin_bl I q (by simp))
    | _ => exact absurd (show false = true from hs) Bool.false_ne_true
  | str i =>
    obtain ⟨t, rfl⟩ := rx
    cases y with
    | non => cases ry; exact PySem.EqNone.eq_str_none (fin_bl I q (by simp))
    | bl j => cases ry; exact PySem.EqMixed.eq_str_bool (fin_bl I q (by simp))
    | int j => obtain ⟨t', rfl⟩ := ry; exact PySem.EqMixed.eq_str_int (fin_bl I q (by simp))
    | str j => obtain ⟨t', rfl⟩ := ry; exact eq_str (fin_bl I q dec_str)
    | _ => exact absurd (show false = true from hs) Bool.false_ne_true
  | byt i =>
    obtain ⟨t, rfl⟩ := rx
    cases y with
    | byt j => obtain ⟨t', rfl⟩ := ry; exact PySem.W.eq_bytes (fin_bl I q dec_byt)
    | _ => exact absurd (show false = true from hs) Bool.false_ne_true
  | _ => cases y <;> exact absurd (show false = true from hs) Bool.false_ne_true
theorem op_ne : OpR X (compareOp .NotEq) rNe := by
  intro pins s σ H x y v u Q I rx ry h
  obtain ⟨hs, q⟩ := h
  cases x with
  | non =>
    cases rx
    cases y with
    | non => cases ry; exact PySem.EqNone.ne_none_none (fin_bl I q (by simp))
    | bl j => cases ry; exact PySem.EqNone.ne_none_bool (fin_bl I q (by simp))
    | int j => obtain ⟨t', rfl⟩ := ry; exact PySem.EqNone.ne_none_int (fin_bl I q (by simp))
    | str j => obtain ⟨t', rfl⟩ := ry; exact PySem.EqNone.ne_none_str (fin_bl I q (by simp))
    | _ => exact absurd (show false = true from hs) Bool.false_ne_true
  | bl i =>
    cases rx
    cases y with
    | non => cases ry; exact PySem.EqNone.ne_bool_none (fin_bl I q (by simp))
    | bl j => cases ry; exact ne_bool (fin_bl I q (congrArg not dec_bl))
    | str j => obtain ⟨t', rfl⟩ := ry; exact PySem.EqMixed.ne_bool_str (fin_bl I q (by simp))
    | _ => exact absurd (show false = true from hs) Bool.false_ne_true
  | int i =>
    obtain ⟨t, rfl⟩ := rx
    cases y with
    | non => cases ry; exact PySem.EqNone.ne_int_none (fin_bl I q (by simp))
    | int j => obtain ⟨t', rfl⟩ := ry; exact ne_int (fin_bl I q (congrArg not dec_int))
    | str j => obtain ⟨t', rfl⟩ := ry; exact PySem.EqMixed.ne_int_str (fin_bl I q (by simp))
    | _ => exact absurd (show false = true from hs) Bool.false_ne_true
  | str i =>
    obtain ⟨t, rfl⟩ := rx
    cases y with
    | non => cases ry; exact PySem.EqNone.ne_str_none (fin_bl I q (by simp))
    | bl j => cases ry; exact PySem.EqMixed.ne_str_bool (fin_bl I q (by simp))
    | int j => obtain ⟨t', rfl⟩ := ry; exact PySem.EqMixed.ne_str_int (fin_bl I q (by simp))
    | str j => obtain ⟨t', rfl⟩ := ry; exact ne_str (fin_bl I q (congrArg not dec_str))
    | _ => exact absurd (show false = true from hs) Bool.false_ne_true
  | byt i =>
    obtain ⟨t, rfl⟩ := rx
    cases y with
    | byt j => obtain ⟨t', rfl⟩ := ry; exact PySem.W.ne_bytes (fin_bl I q (congrArg not dec_byt))
    | _ => exact absurd (show false = true from hs) Bool.false_ne_true
  | _ => cases y <;> exact absurd (show false = true from hs) Bool.false_ne_true

theorem op_lt : OpR X (compareOp .Lt) (rI0 fun i j => .bl (decide (i < j))) := opB0 fun _ _ _ _ _ _ _ q => lt_int q
theorem op_le : OpR X (compareOp .LtE) (rI0 fun i j => .bl (decide (i ≤ j))) := opB0 fun _ _ _ _ _ _ _ q => le_int q
theorem op_gt : OpR X (compareOp .Gt) (rI0 fun i j => .bl (decide (j < i))) := opB0 fun _ _ _ _ _ _ _ q => gt_int q
theorem nomark (b : Expr) {op : CmpOp} (h : op ≠ .In := by decide) (h2 : op ≠ .NotIn := by decide) : behindInMarks op b = false := by
  have e1 : (op == CmpOp.In) = false := by cases op <;> first | rfl | exact absurd rfl h
  have e2 : (op == CmpOp.NotIn) = false := by cases op <;> first | rfl | exact absurd rfl h2
  cases b <;> simp [behindInMarks, e1, e2]
/-- a comparison as a value; hm: nomark b, or (for in, not in) by with_unfolding_all rfl -/
theorem pe_cmpR {op : CmpOp} {r : R2} (ho : OpR X (compareOp op) r) (ha : PE X a ta) (hb : PE X b tb) (hm : behindInMarks op b = false) : PE X (.Compare a [op] [b] pos) (tOp r ta tb) := by
  intro pins s σ H Q I h
  exact wpAny_Compare1 (binT ha hb I h fun v u s2 x y H2 I2 rx ry q => ho pins s2 σ H2 x y v u Q I2 rx ry q) hm
/-- a reading of a value as a test -/
noncomputable def tTest (t : TE) : TT := fun σ H Q => t σ H fun x H' => ∃ k, x = .bl k ∧ Q k H'
theorem pt_cmpR {op : CmpOp} {r : R2} (ho : OpR X (compareOp op) r) (ha : PE X a ta) (hb : PE X b tb) (hm : behindInMarks op b = false) : PT X (.Compare a [op] [b] pos) (tTest (tOp r ta tb)) := by
  intro pins s σ H Q I h
  refine wpAny_isTrue_Compare1 (thn (ha pins s σ H _ I h) fun v s1 ⟨x, H1, I1, r1, q1⟩ => thn (hb pins s1 σ H1 _ I1 q1) fun u s2 ⟨y, H2, I2, r2, q2⟩ =>
    thn (ho pins s2 σ H2 x y v u _ I2 r1 r2 q2) fun c s3 ⟨z, H3, I3, r3, k, e, q3⟩ => ?_) hm
  subst e
  cases r3
  exact wpAny_truthy_bool ⟨H3, I3, q3⟩
/-- a op1 b op2 c -/
noncomputable def tChain (r r' : R2) (ta tb tc : TE) : TE := fun σ H Q => ta σ H fun x H1 => tb σ H1 fun y H2 => r x y H2 fun z H3 => ∃ k, z = .bl k ∧
  (if k = true then tc σ H3 fun w' H4 => r' y w' H4 Q else Q (.bl false) H3)
theorem pe_chain {op op' : CmpOp} {r r' : R2} (ho : OpR X (compareOp op) r) (ho' : OpR X (compareOp op') r') (ha : PE X a ta) (hb : PE X b tb) (hc : PE X c tc)
    (hm : lastMarks [op, op'] [b, c] = false := by with_unfolding_all rfl) : PE X (.Compare a [op, op'] [b, c] pos) (tChain r r' ta tb tc) := by
  intro pins s σ H Q I h
  refine Compare_chain (thn (ha pins s σ H _ I h) fun v s1 ⟨x, H1, I1, r1, q1⟩ => chain_link (thn (hb pins s1 σ H1 _ I1 q1) fun u s2 ⟨y, H2, I2, r2, q2⟩ =>
    thn (ho pins s2 σ H2 x y v u _ I2 r1 r2 q2) fun d s3 ⟨z, H3, I3, r3, k, e, q3⟩ => ?_)) hm
  subst e
  cases r3
  refine wpAny_truthy_bool ?_
  cases k with
  | false => exact ite_ff ⟨.bl false, H3, I3, rfl, q3⟩
  | true => exact ite_tt (chain_last (thn (hc pins s3 σ H3 _ I3 q3) fun w' s4 ⟨z', H4, I4, r4, q4⟩ => ho' pins s4 σ H4 y z' u w' Q I4 r2 r4 q4))
theorem pt_chain {op op' : CmpOp} {r r' : R2} (ho : OpR X (compareOp op) r) (ho' : OpR X (compareOp op') r') (ha : PE X a ta) (hb : PE X b tb) (hc : PE X c tc)
    (hm : lastMarks [op, op'] [b, c] = false := by with_unfolding_all rfl) : PT X (.Compare a [op, op'] [b, c] pos) (tTest (tChain r r' ta tb tc)) := by
  intro pins s σ H Q I h
  refine isTrue_chain (thn (ha pins s σ H _ I h) fun v s1 ⟨x, H1, I1, r1, q1⟩ => test_link (thn (hb pins s1 σ H1 _ I1 q1) fun u s2 ⟨y, H2, I2, r2, q2⟩ =>
    thn (ho pins s2 σ H2 x y v u _ I2 r1 r2 q2) fun d s3 ⟨z, H3, I3, r3, k, e, q3⟩ => ?_)) hm
  subst e
  cases r3
  refine wpAny_truthy_bool ?_
  cases k with
  | false =>
    obtain ⟨k', e', q'⟩ := q3
    cases e'
    exact ite_ff ⟨H3, I3, q'⟩
  | true =>
    refine ite_tt (test_last (thn (hc pins s3 σ H3 _ I3 q3) fun w' s4 ⟨z', H4, I4, r4, q4⟩ => thn (ho' pins s4 σ H4 y z' u w' _ I4 r2 r4 q4) fun d' s5 ⟨z2, H5, I5, r5, k2, e2, q5⟩ => ?_))
    subst e2
    cases r5
    exact wpAny_truthy_bool ⟨H5, I5, q5⟩

theorem line63 : (sizeLine : Nat) < 2 ^ 63 := by rw [sizeLine_eq]; decide
theorem vals1 {x : V} {us : List Value} (r : Vals [x] us) : ∃ u, us = [u] ∧ RelV x u := by
  cases r with
  | cons r1 r2 => cases r2; exact ⟨_, rfl, r1⟩
theorem call_abs : CallR X (.builtin "abs") (fun xs H Q => ∃ i, xs = [.int i] ∧ Q (.int (if i < 0 then -i else i)) H) := by
  intro pins s σ H xs us Q I r h
  obtain ⟨i, rfl, q⟩ := h
  obtain ⟨u, rfl, t, rfl⟩ := vals1 r
  exact call_abs_int fun u tk => ⟨.int (if i < 0 then -i else i), H, I.tok _, ⟨_, rfl⟩, q⟩
end
end L2

namespace L2
open PySem PySem.Spec PyProof.Rows

structure ObjM (h : Heap) (x dx C : Addr) (mA : Str → Option Value) : Prop where
  obj : h.get? x = some (PySem.W.instObj C dx)
  ns : h.Ns1 dx mA
  ne : dx ≠ x

theorem lookIn_ns {h : Heap} {dx : Addr} {mA : Str → Option Value} (n : h.Ns1 dx mA) : ∃ od, h.get? dx = some od ∧ ∀ name, PySem.W.lookIn name od = some (mA name) := by
  obtain ⟨o, es, ep, ho, hd, hk, _, hm⟩ := n
  refine ⟨o, ho, fun name => ?_⟩
  have e := hm name
  unfold nsFind findBy at e
  rw [← Array.find?_toList] at e
  unfold PySem.W.lookIn
  rw [hd]
  dsimp only
  split
  · rename_i y q
    rw [q] at e
    exact congrArg some e
  · rename_i q
    rw [q] at e
    have a : es.toList.any (·.refKey) = false := by
      rw [List.any_eq_false]
      intro y hy
      obtain ⟨z, t, hkey⟩ := hk y (Array.mem_toList_iff.mp hy)
      simp [DictEntry.refKey, hkey]
    have a' : ¬ es.toList.any (·.refKey) = true := by rw [a]; exact Bool.false_ne_true
    rw [if_neg a']
    exact congrArg some e

theorem ObjM.look {h : Heap} {x dx C : Addr} {mA : Str → Option Value} (I : ObjM h x dx C mA) : ∃ od, PySem.W.InstAt h x (PySem.W.instObj C dx) C (some od) ∧ ∀ name, PySem.W.lookIn name od = some (mA name) :=
  let ⟨od, ho, hl⟩ := lookIn_ns I.ns
  ⟨od, ⟨I.obj, rfl, rfl, ho⟩, hl⟩

section
variable {prog : Program} {w : World} {A : Around} {E : Value → Shared → Prop} {s : Shared} {K : PySem.W.Frag} {x dx C f : Addr} {mA : Str → Option Value} {name : Str} {v : Value}

theorem get_map {expr : Bool} {Q : Value → Shared → Prop} (X : K.In s.heap) (I : ObjM s.heap x dx C mA) (hg : PySem.W.plainGet K C name = true) (hh : PySem.W.hasDictIn K C = true)
    (ha : PySem.W.findIn K (.ref C) name = some none) (hv : mA name = some v) (hv' : PySem.W.handedIn v = true) (h : Q v { s with toks := s.toks + 1 }) :
    wpAny (model prog w) A (getAttr (.ref x) name expr) Q E s := by
  obtain ⟨od, J, hl⟩ := I.look
  exact PySem.W.get_value X J (PySem.W.plainGet_of hg).1 (PySem.W.findObj_own hh ha rfl (by rw [hl, hv])) hv' h

theorem set_map {ns : List Str} {Q : Unit → Shared → Prop} (X : K.In s.heap) (I : ObjM s.heap x dx C mA)
    (hs : PySem.W.findIn K (.ref C) "__setattr__" = some (some (.builtin "object.__setattr__"))) (hp : PySem.W.plainOver K C = true) (ht : PySem.W.takerIn K C name = some none) (hh : PySem.W.hasDictIn K C = true)
    (hw : PySem.Within mA ns) (hsz : ns.length ≤ sizeLine)
    (h : ∀ h', ObjM h' x dx C (fun y => if y = name then some v else mA y) → Heap.SameBut dx s.heap h' → Q () { s with heap := h', toks := s.toks + 2 }) :
    wpAny (model prog w) A (setAttr (.ref x) name v) Q E s := by
  obtain ⟨od, J, hl⟩ := I.look
  refine PySem.W.set_plain X J hs (PySem.W.osa_open (s := { s with toks := s.toks + 1 }) (r := none) X J hp ht fun b => ?_)
  obtain ⟨cd, hc, hd'⟩ := PySem.W.any_some hh
  have hx : s.heap.get? x = some ⟨.ref C, some dx, .plain, #[]⟩ := I.obj
  refine wpAny_bind (wpAny_pure (wpAny_bind (wpAny_bind (wpAny_loadPart hx (wpAny_bind (PySem.W.Looks.here (s := { s with toks := s.toks + 1 }) (PySem.W.looks_clsIn X hc) ?_))))))
  rw [hd']
  refine wpAny_pure (a := some dx) (wpAny_bind (wpAny_pure (wpAny_bind ?_)))
  refine wpAny_nsSet1 (s := { s with toks := s.toks + 1 }) I.ns fun h' hn2 hs2 => ?_
  obtain ⟨oD, esD, epD, hoD, hdD, hcD⟩ := hn2.count (PySem.Within.cons name v hw)
  refine wpAny_bind (wpAny_lookBehind hoD (by rw [hdD]; exact pastItsLine_dict (Nat.le_trans hcD (by rw [List.length_cons]; omega))) ?_)
  exact wpAny_pure (h _ ⟨(hs2.2 _ (Ne.symm I.ne)).trans I.obj, hn2, I.ne⟩ hs2)

/-- C(..): the dict at the heap's end, the instance behind it; then its __init__ -/
theorem make_map {R : Result → Shared → Prop} {vs : List Value} {kw : List (Str × Value)} (X : K.In s.heap) (hm : PySem.W.makesIn K C = true)
    (hi : PySem.W.findIn K (.ref C) "__init__" = some (some (.ref f))) (hf : PySem.W.typeIn K (.ref f) = some (.type "function"))
    (h : codeAny (model prog w) (A.under (.builtin "type.__call__" ⟨.ref C :: vs, kw⟩)) (.call (.ref f) ⟨.ref (s.heap.objs.size + 1) :: vs, kw⟩) (PySem.W.InitBack (s.heap.objs.size + 1) R)
      { s with heap := (s.heap.push PySem.W.emptyDict).push (PySem.W.instObj C s.heap.objs.size) }) :
    codeAny (model prog w) A (.call (.ref C) ⟨vs, kw⟩) R s := by
  obtain ⟨hh, g, d, t, os⟩ := s
  exact PySem.W.make_core (PySem.W.makes_of X hm) (PySem.W.looks_findIn X hi) (fun self => PySem.W.bind_fn X self hf) (.inl rfl) h
end

noncomputable def putF (f : Str) (v : V) : List (Str × V) → List (Str × V)
  | [] => [(f, v)]
  | (g, x) :: r => if g = f then (g, v) :: r else (g, x) :: putF f v r
theorem lookup_putF (f g : Str) (v : V) : ∀ fs : List (Str × V), (putF f v fs).lookup g = if g = f then some v else fs.lookup g
  | [] => by
    show List.lookup g [(f, v)] = _
    by_cases h : g = f
    · have hb : (g == f) = true := beq_iff_eq.mpr h
      simp only [List.lookup, hb, if_pos h]
    · have hb : (g == f) = false := beq_eq_false_iff_ne.mpr h
      simp only [List.lookup, hb, if_neg h]
  | (k, x) :: r => by
    have ih := lookup_putF f g v r
    rw [show putF f v ((k, x) :: r) = (if k = f then (k, v) :: r else (k, x) :: putF f v r) from rfl]
    by_cases hk : k = f
    · rw [if_pos hk]
      by_cases h : g = k
      · have hb : (g == k) = true := beq_iff_eq.mpr h
        simp only [List.lookup, hb, if_pos (h.trans hk)]
      · have hb : (g == k) = false := beq_eq_false_iff_ne.mpr h
        simp only [List.lookup, hb, if_neg (fun e : g = f => h (e.trans hk.symm))]
    · rw [if_neg hk]
      by_cases h : g = k
      · have hb : (g == k) = true := beq_iff_eq.mpr h
        simp only [List.lookup, hb, if_neg (fun e : g = f => hk (h.symm.trans e))]
      · have hb : (g == k) = false := beq_eq_false_iff_ne.mpr h
        simp only [List.lookup, hb]
        exact ih
theorem keys_putF (f : Str) (v : V) : ∀ fs : List (Str × V), f ∈ (putF f v fs).map (·.1) ∧ ∀ g, g ∈ fs.map (·.1) → g ∈ (putF f v fs).map (·.1)
  | [] => ⟨by simp [putF], fun g h => by simp at h⟩
  | (k, x) :: r => by
    obtain ⟨i1, i2⟩ := keys_putF f v r
    rw [show putF f v ((k, x) :: r) = (if k = f then (k, v) :: r else (k, x) :: putF f v r) from rfl]
    by_cases hk : k = f
    · rw [if_pos hk]
      subst hk
      exact ⟨by simp, fun g h => by simpa using h⟩
    · rw [if_neg hk]
      refine ⟨?_, fun g h => ?_⟩
      · rw [List.map_cons]
        exact List.mem_cons_of_mem _ i1
      · rw [List.map_cons] at h ⊢
        rcases List.mem_cons.mp h with e | e
        · exact List.mem_cons.mpr (.inl e)
        · exact List.mem_cons_of_mem _ (i2 g e)
theorem length_putF (f : Str) (v : V) : ∀ fs : List (Str × V), (putF f v fs).length ≤ fs.length + 1
  | [] => by simp [putF]
  | (k, x) :: r => by
    have ih := length_putF f v r
    rw [show putF f v ((k, x) :: r) = (if k = f then (k, v) :: r else (k, x) :: putF f v r) from rfl]
    by_cases hk : k = f
    · rw [if_pos hk, List.length_cons, List.length_cons]; omega
    · rw [if_neg hk, List.length_cons, List.length_cons]; omega

theorem RelO.some_of {v : V} {o : Option Value} (r : RelO (some v) o) : ∃ u, o = some u ∧ RelV v u := by
  cases o with
  | none => exact (show False from r).elim
  | some u => exact ⟨u, rfl, r⟩
theorem handed_of {v : V} {u : Value} (r : RelV v u) : PySem.W.handedIn u = true := by
  cases v with
  | non => cases (show u = Value.none from r); rfl
  | bl b => cases (show u = Value.bool b from r); rfl
  | int i => obtain ⟨t, e⟩ := (show ∃ t, u = Value.int i t from r); cases e; rfl
  | str x => obtain ⟨t, e⟩ := (show ∃ t, u = Value.str x t from r); cases e; rfl
  | byt b => obtain ⟨t, e⟩ := (show ∃ t, u = Value.bytes b t from r); cases e; rfl
  | flt b => obtain ⟨t, e⟩ := (show ∃ t, u = Value.float b t from r); cases e; rfl
  | ref a => cases (show u = Value.ref a from r); rfl
  | ty n => cases (show u = Value.type n from r); rfl

section
variable {P : Program} {w : World} {H H' : Hp} {h h' : Heap} {a C dx : Addr} {fs fs' : List (Str × V)}
theorem ins_get (hok : HOk P w H h) (e : H a = some (.ins C dx fs)) : ∃ mA, ObjM h a dx C mA ∧ (∀ f, RelO (fs.lookup f) (mA f)) ∧ PySem.Within mA (fs.map (·.1)) ∧ fs.length ≤ 1000 ∧ H dx = some (.own a) := by
  obtain ⟨d, z, ne, ob, mA, n, r, q⟩ := (show ObjOk P w H h a (.ins C dx fs) from hok a _ e)
  exact ⟨mA, ⟨ob, n, ne⟩, r, q, z, d⟩
end

structure Cls (K : PySem.W.Frag) (C : Addr) : Prop where
  pg : PySem.W.plainGet K C Str.empty = true
  hd : PySem.W.hasDictIn K C = true
  po : PySem.W.plainOver K C = true
  sa : PySem.W.findIn K (.ref C) "__setattr__" = some (some (.builtin "object.__setattr__"))
theorem Cls.get {K : PySem.W.Frag} {C : Addr} (c : Cls K C) (f : Str) : PySem.W.plainGet K C f = true := c.pg
/-- no class of it has the name -/
noncomputable def NoAttr (K : PySem.W.Frag) (C : Addr) (f : Str) : Prop := PySem.W.findIn K (.ref C) f = some none
theorem NoAttr.taker {K : PySem.W.Frag} {C : Addr} {f : Str} (n : NoAttr K C f) : PySem.W.takerIn K C f = some none := by
  unfold PySem.W.takerIn
  rw [show PySem.W.findIn K (.ref C) f = some none from n]
  rfl
section
variable {X : Cx} {pins : List (Addr × Obj)} {σ : St} {H : Hp} {s : Shared} {a C dx : Addr} {fs : List (Str × V)} {f : Str} {v : V} {A : Around} {E : Value → Shared → Prop}

theorem getattr_ok {b : Bool} {Q : Value → Shared → Prop} (I : Inv X pins σ H s) (e : H a = some (.ins C dx fs)) (c : Cls X.K C) (n : NoAttr X.K C f) (l : fs.lookup f = some v)
    (h : ∀ u s', Inv X pins σ H s' → RelV v u → Q u s') : wpAny (model X.prog X.w) A (getAttr (.ref a) f b) Q E s := by
  obtain ⟨mA, O, r, _, _, _⟩ := ins_get I.hok e
  obtain ⟨u, hu, ru⟩ := RelO.some_of (v := v) (o := mA f) (by rw [← l]; exact r f)
  exact get_map I.kIn O (c.get f) c.hd n hu (handed_of ru) (h u _ (I.tok _) ru)

theorem setattr_ok {y : V} {u : Value} {Q : Unit → Shared → Prop} (I : Inv X pins σ H s) (e : H a = some (.ins C dx fs)) (c : Cls X.K C) (n : NoAttr X.K C f) (hl : fs.length < 1000) (ry : RelV y u)
    (h : ∀ s', Inv X pins σ (upd H a (.ins C dx (putF f y fs))) s' → Q () s') : wpAny (model X.prog X.w) A (setAttr (.ref a) f u) Q E s := by
  obtain ⟨mA, O, r, wi, _, ho⟩ := ins_get I.hok e
  have hz : (fs.map (·.1)).length ≤ sizeLine := by rw [List.length_map, sizeLine_eq]; omega
  refine set_map I.kIn O c.sa c.po n.taker c.hd wi hz fun h' O' sb => h _ ?_
  have hd : ∃ o, h'.get? dx = some o := let ⟨o, _, _, e', _⟩ := O'.ns; ⟨o, e'⟩
  refine I.write (x := a) (e := dx) (by rw [e]; exact True.intro) (.inr ho) (fun b q hb z => (sb.2 b hb).trans z) hd ?_
  refine ⟨by rw [upd_ne O.ne]; exact ho, ?_, O.ne, O'.obj, _, O'.ns, fun g => ?_, fun g hg => ?_⟩
  · have := length_putF f y fs; omega
  · show RelO ((putF f y fs).lookup g) (if g = f then some u else mA g)
    rw [lookup_putF]
    by_cases q : g = f
    · rw [if_pos q, if_pos q]; exact ry
    · rw [if_neg q, if_neg q]; exact r g
  · by_cases q : g = f
    · rw [q]; exact (keys_putF f y fs).1
    · refine (keys_putF f y fs).2 g (wi g fun z => hg ?_)
      show (if g = f then some u else mA g) = none
      rw [if_neg q]; exact z

/-- a new instance, tracked, without attributes -/
theorem Inv.made (I : Inv X pins σ H s) : Inv X pins σ (upd (upd H s.heap.objs.size (.own (s.heap.objs.size + 1))) (s.heap.objs.size + 1) (.ins C s.heap.objs.size []))
    { s with heap := (s.heap.push PySem.W.emptyDict).push (PySem.W.instObj C s.heap.objs.size) } := by
  have e1 : (s.heap.push PySem.W.emptyDict).get? s.heap.objs.size = some PySem.W.emptyDict := Heap.get?_push_size s.heap rfl
  have e2 : ((s.heap.push PySem.W.emptyDict).push (PySem.W.instObj C s.heap.objs.size)).get? (s.heap.objs.size + 1) = some (PySem.W.instObj C s.heap.objs.size) := by
    have := Heap.get?_push_size (s.heap.push PySem.W.emptyDict) (o := PySem.W.instObj C s.heap.objs.size) rfl
    rwa [Heap.size_push] at this
  have e3 : (s.heap.push PySem.W.emptyDict).Ns s.heap.objs.size (fun _ => none) := ⟨PySem.W.emptyDict, #[], _, e1, rfl, (fun e he => absurd he (by simp)), fun _ => rfl⟩
  have I1 := I.laid (a := s.heap.objs.size) (o := .own (s.heap.objs.size + 1)) (h' := s.heap.push PySem.W.emptyDict) (t' := s.toks) (fun b u q => Heap.get?_push_of_some _ q) (Nat.le_refl _) ⟨_, e1⟩
  refine I1.laid (a := s.heap.objs.size + 1) (o := .ins C s.heap.objs.size []) (t' := s.toks) (fun b u q => Heap.get?_push_of_some _ q) (Nat.le_of_eq (Heap.size_push _ _)) ?_
  have ne : s.heap.objs.size ≠ s.heap.objs.size + 1 := Nat.ne_of_lt (Nat.lt_succ_self _)
  refine ⟨by rw [upd_ne ne, upd_same], Nat.zero_le _, ne, e2, fun _ => none, (Heap.Ns1.of_empty e3).at fun o q => Heap.get?_push_of_some _ q, fun _ => True.intro, fun y hy => absurd rfl hy⟩

/-- e.f where nothing but the object is asked: through attributeBase (super) and the last hold -/
theorem attr_of {prog : Program} {w : World} {env : Env} {e : Expr} {f : Str} {pos : Pos} {s : Shared} {Q : Value → Shared → Prop} (hb : attributeBase e f env (eval e env) = eval e env)
    (h : wpAny (model prog w) A (eval e env) (fun o s₁ => wpAny (model prog w) A (getAttr o f true) Q E s₁) E s) : wpAny (model prog w) A (eval (.Attribute e f pos) env) Q E s :=
  Attribute_any_ h (by rw [arm_eval_Attribute, hb])
end

/-- e.f, an attribute of the instance -/
noncomputable def tFld (K : PySem.W.Frag) (ta : TE) (f : Str) : TE := fun σ H Q => ta σ H fun x H1 => ∃ a C dx fs v, x = .ref a ∧ H1 a = some (.ins C dx fs) ∧ Cls K C ∧ NoAttr K C f ∧ fs.lookup f = some v ∧ Q v H1
/-- e.f = value -/
noncomputable def sFld (K : PySem.W.Frag) (ta tv : TE) (f : Str) : TS := fun D σ H => tv σ H fun y H1 => ta σ H1 fun x H2 => ∃ a C dx fs, x = .ref a ∧ H2 a = some (.ins C dx fs) ∧ Cls K C ∧ NoAttr K C f ∧ fs.length < 1000 ∧
  D.nx σ (upd H2 a (.ins C dx (putF f y fs)))
section
variable {X : Cx} {o e value : Expr} {f : Str} {pos pos' tpos : Pos} {ta tv : TE}
theorem pe_fld (he : PE X e ta) (hb : attributeBase e f X.env (eval e X.env) = eval e X.env) : PE X (.Attribute e f pos) (tFld X.K ta f) := by
  intro pins s σ H Q I h
  refine attr_of hb (thn (he pins s σ H _ I h) fun u s1 ⟨x, H1, I1, rx, a, C, dx, fs, v, ex, ea, c, n, l, q⟩ => ?_)
  subst ex
  obtain rfl : u = Value.ref a := rx
  exact getattr_ok I1 ea c n l fun u' s2 I2 ru => ⟨v, H1, I2, ru, q⟩
theorem ps_fld (ha : PE X o ta) (hv : PE X value tv) (hs : swapsWith value (some (.Attribute o f pos')) pos.line X.env = pure false) : PS X (.Assign [.Attribute o f pos'] value pos) (sFld X.K ta tv f) := by
  intro pins s σ H D I h
  refine plainObj_wpAny_Assign_Attribute (thn (hv pins s σ H _ I h) fun u s1 ⟨y, H1, I1, ry, q⟩ => thn (ha pins s1 σ H1 _ I1 q) fun ov s2 ⟨x, H2, I2, rx, a, C, dx, fs, ex, ea, c, n, l, q2⟩ => ?_) hs
  subst ex
  obtain rfl : ov = Value.ref a := rx
  exact setattr_ok I2 ea c n l ry fun s3 I3 => ⟨σ, _, I3, q2⟩
end

section
variable {X : Cx} {pins : List (Addr × Obj)} {σ : St} {H : Hp} {s : Shared} {A : Around} {E : Value → Shared → Prop} {Q : Value → Shared → Prop} {c : Value} {b : Bool}
end
end L2

namespace L2
open PySem PySem.Spec PyProof.Rows

structure Room (k : Nat) (A : Around) : Prop where
  hd : A.handled = none
  dp : A.depth + 3 * k + 5 < recursionLimit
  un : A.units + 16 * k + 200 < cLine
theorem Room.mono {j k : Nat} {A : Around} (r : Room k A) (h : j ≤ k) : Room j A := ⟨r.hd, by have := r.dp; omega, by have := r.un; omega⟩
theorem Room.deeper {k : Nat} {A : Around} (r : Room (k + 1) A) (env : Env) : Room k (A.deeper env) :=
  ⟨r.hd, by have := r.dp; show A.depth + 1 + 3 * k + 5 < _; omega, by have := r.un; show A.units + 3 + 16 * k + 200 < _; omega⟩
theorem make_depth {A : Around} {C : Addr} {us : List Value} {kw : List (Str × Value)} : (A.under (.builtin "type.__call__" ⟨.ref C :: us, kw⟩)).depth = A.depth + 1 := by
  first | rfl | simp [Around.under, Code.weight, Code.isCreation, Code.isGuard, Code.isCaller, Code.frames, Code.isFrame, guardIds]
theorem make_units {A : Around} {C : Addr} {us : List Value} {kw : List (Str × Value)} : (A.under (.builtin "type.__call__" ⟨.ref C :: us, kw⟩)).units = A.units + 1 := by
  first | rfl | simp [Around.under, Code.cUnits, Code.frames, Code.isFrame]
theorem Room.make {k : Nat} {A : Around} (r : Room (k + 1) A) (C : Addr) (us : List Value) (kw : List (Str × Value)) : Room k (A.under (.builtin "type.__call__" ⟨.ref C :: us, kw⟩)) :=
  ⟨r.hd, by have := r.dp; rw [make_depth]; omega, by have := r.un; rw [make_units]; omega⟩
theorem Room.depth {k : Nat} {A : Around} (r : Room k A) : A.depth < recursionLimit := by have := r.dp; omega
noncomputable def tNil : TA := fun _ H Q => Q [] H
noncomputable def tCons (ta : TE) (tr : TA) : TA := fun σ H Q => ta σ H fun x H1 => tr σ H1 fun xs H2 => Q (x :: xs) H2
section
variable {X : Cx} {e : Expr} {es : List Expr} {te : TE} {t : TA} {pos : Pos}
theorem pa_nil : PA X [] tNil := fun _ _ _ _ H Q I h => Calls.spliced_nil ⟨[], H, I, .nil, h⟩
theorem pa_cons (ha : PE X e te) (hr : PA X es t) (hs : starEach (e :: es) X.env = (false, eval e X.env) :: starEach es X.env := by rfl) : PA X (e :: es) (tCons te t) := by
  intro pos pins s σ H Q I h
  rw [hs]
  show wpAny _ _ (spliced ((false, eval e X.env) :: backTo pos (starEach es X.env))) _ _ s
  refine Calls.spliced_cons (thn (ha pins s σ H _ I h) fun u s1 ⟨x, H1, I1, r1, q1⟩ => ?_)
  exact thn (hr pos pins s1 σ H1 _ I1 q1) fun us s2 ⟨xs, H2, I2, r2, q2⟩ => ⟨x :: xs, H2, I2, .cons r1 r2, q2⟩

/-- a tuple, a list of written items -/
noncomputable def tTup (t : TA) : TE := fun σ H Q => t σ H fun xs H1 => xs.length ≤ sizeLine ∧ ∀ p, H1 p = none → Q (.ref p) (upd H1 p (.tup xs))
noncomputable def tLst (t : TA) : TE := fun σ H Q => t σ H fun xs H1 => xs.length ≤ sizeLine ∧ ∀ p, H1 p = none → Q (.ref p) (upd H1 p (.lst xs))
theorem pe_tup {x1} (h : PA X es t) : PE X (.Tuple es x1 pos) (tTup t) := by
  intro pins s σ H Q I hq
  refine wpAny_Tuple_spliced (thn (h pos pins s σ H _ I hq) fun us s1 ⟨xs, H1, I1, r, z, q⟩ => ⟨by rw [← r.length]; exact z, ?_⟩)
  have hf : H1 s1.heap.objs.size = none := I1.hok.fresh (Nat.le_refl _)
  refine ⟨.ref s1.heap.objs.size, upd H1 s1.heap.objs.size (.tup xs), I1.laid (t' := s1.toks) (fun b u e => Heap.get?_push_of_some _ e) (Nat.le_refl _) ?_, rfl, q _ hf⟩
  exact ⟨z, us, r, ⟨_, Heap.get?_push_size _ rfl, rfl, _, rfl⟩⟩
theorem pe_lst (h : PA X es t) : PE X (.List es pos) (tLst t) := by
  intro pins s σ H Q I hq
  refine wpAny_List_spliced (thn (h pos pins s σ H _ I hq) fun us s1 ⟨xs, H1, I1, r, z, q⟩ => ⟨by rw [← r.length]; exact z, ?_⟩)
  have hf : H1 s1.heap.objs.size = none := I1.hok.fresh (Nat.le_refl _)
  refine ⟨.ref s1.heap.objs.size, upd H1 s1.heap.objs.size (.lst xs), I1.laid (t' := s1.toks) (fun b u e => Heap.get?_push_of_some _ e) (Nat.le_refl _) ?_, rfl, q _ hf⟩
  exact ⟨z, us, 0, r, Heap.get?_push_size _ rfl⟩
end

/-- a def's promise: the bound arguments in the parameters' order, the heap, the wanted end, the wanted exception -/
noncomputable abbrev Sp := List V → Hp → VK → XK → Prop
/-- how an exception lies behind a call (file 08 gives it): the callers' frames, abstract heap and state ahead of the call, the wish, the exception, the state -/
noncomputable abbrev CXT := List Env → Hp → Shared → XK → Value → Shared → Prop

/-- the state at a call -/
structure Env0 (P : Program) (w : World) (K : PySem.W.Frag) (mg : Str → Option Value) (base : Heap) (A : Around) (outer : List Env) (s : Shared) (H : Hp) : Prop where
  frames : A.frames = some outer
  mod : Mod K mg base
  bs : ∀ b o, base.get? b = some o → s.heap.get? b = some o ∧ H b = none
  bsz : base.objs.size ≤ s.heap.objs.size
  funs : s.heap.FunFrames base outer
  frf : ∀ b ∈ frs outer, H b = none
  hok : HOk P w H s.heap
  bare : AllBare s.gens
/-- a call's end -/
noncomputable def CE (outer : List Env) (P : Program) (w : World) (H : Hp) (s : Shared) (Q : VK) (u : Value) (s' : Shared) : Prop :=
  ∃ v H', s'.os = s.os ∧ AllBare s'.gens ∧ Un (frs outer) [] H H' s.heap s'.heap ∧ HOk P w H' s'.heap ∧ RelV v u ∧ Q v H'
noncomputable def CR (CX : CXT) (outer : List Env) (P : Program) (w : World) (H : Hp) (s : Shared) (Q : VK) (E : XK) (r : Result) (s' : Shared) : Prop :=
  match r with
  | .ok (.ret u) => CE outer P w H s Q u s'
  | .ok _ => False
  | .error e => CX outer H s E e s'
structure FnOk (P : Program) (w : World) (K : PySem.W.Frag) (mg : Str → Option Value) (base : Heap) (CX : CXT) (k : Nat) (f : Addr) (fd : FuncData) (ps : List Str) (sp : Sp) : Prop where
  len : ∀ vs H Q E, sp vs H Q E → vs.length = ps.length
  run : ∀ (A : Around) (outer : List Env) (s : Shared) (H : Hp) (args : Args) (us : List Value) (vs : List V) (Q : VK) (E : XK), Room k A → Env0 P w K mg base A outer s H → BindsTo s fd args (ps.zip us) → Vals vs us → sp vs H Q E →
    codeAny (model P w) A (.call (.ref f) args) (CR CX outer P w H s Q E) s
theorem Env0.make {P : Program} {w : World} {K : PySem.W.Frag} {mg : Str → Option Value} {base : Heap} {A : Around} {outer : List Env} {s : Shared} {H : Hp} (e : Env0 P w K mg base A outer s H) (C : Addr) (us : List Value) (kw : List (Str × Value)) :
    Env0 P w K mg base (A.under (.builtin "type.__call__" ⟨.ref C :: us, kw⟩)) outer s H := ⟨by first | exact e.frames | (simpa [Around.under, Code.envs, Code.isFrame, pushEnvs] using e.frames), e.mod, e.bs, e.bsz, e.funs, e.frf, e.hok, e.bare⟩
section
variable {X : Cx} {pins : List (Addr × Obj)} {σ : St} {H : Hp} {s s' : Shared}
/-- from a body: what a callee wants -/
theorem Inv.env0 (I : Inv X pins σ H s) : Env0 X.prog X.w X.K X.mg X.base X.A X.stack s H :=
  ⟨I.ok.frames, I.ok.mod, I.bs, Nat.le_trans I.ok.bsz I.sz, I.stack, I.stkFree, I.hok, I.bare⟩
/-- behind a call -/
theorem Inv.after {Q : VK} {u : Value} (I : Inv X pins σ H s) (h : CE X.stack X.prog X.w H s Q u s') : EP X pins σ Q u s' := by
  obtain ⟨v, H', os, bare, un, hok, r, q⟩ := h
  obtain ⟨hh, g, d, t, os'⟩ := s'
  obtain rfl : os' = s.os := os
  exact ⟨v, H', I.call (h' := hh) (g' := g) (d' := d) (t' := t) (ch := []) un hok bare (fun b z => absurd z (by simp)), r, q⟩
end

/-- f(..): the written arguments, then the defaults dvs; E: what is wanted of an exception -/
noncomputable def tCall (sp : Sp) (dvs : List V) (E : XK) (t : TA) : TE := fun σ H Q => t σ H fun vs H1 => sp (vs ++ dvs) H1 Q E
/-- C(..): a new instance and its dict, then __init__ -/
noncomputable def tMake (C : Addr) (sp : Sp) (dvs : List V) (E : XK) (t : TA) : TE := fun σ H Q => t σ H fun vs H1 => ∀ x dx, H1 x = none → H1 dx = none → dx ≠ x →
  sp (.ref x :: (vs ++ dvs)) (upd (upd H1 dx (.own x)) x (.ins C dx [])) (fun v H2 => v = .non ∧ Q (.ref x) H2) E

/-- how the parameters are bound: us the positional arguments, kw the keywords' values by name, ds the defaults that fill up -/
noncomputable def Binds (K : PySem.W.Frag) (fd : FuncData) (ps : List Str) (ds : List Value) : Prop :=
  ∀ (s : Shared) (us : List Value), K.In s.heap → (us ++ ds).length = ps.length → BindsTo s fd ⟨us, []⟩ (ps.zip (us ++ ds))
/-- every parameter is given -/
theorem Binds.all {K : PySem.W.Frag} {fd : FuncData} {ps : List Str} (h : ∀ us : List Value, us.length = ps.length → bindArgs fd ⟨us, []⟩ = pure (ps.zip us)) : Binds K fd ps [] := fun s us _ hl => by
  rw [List.append_nil] at hl ⊢
  exact .of_eq (h us hl)

/-- an exception of a callee reaches what this body wants of exceptions -/
noncomputable def Passes (CX : CXT) (X : Cx) (E : XK) : Prop := ∀ (pins : List (Addr × Obj)) (σ : St) (H : Hp) (s : Shared) (e : Value) (s' : Shared), Inv X pins σ H s → CX X.stack H s E e s' → X.xe e s'

section
variable {X : Cx} {CX : CXT} {k : Nat} {f C : Addr} {fd : FuncData} {ps : List Str} {sp : Sp} {dvs : List V} {ds : List Value} {E : XK} {x m : Str} {p pos apos : Pos} {e o : Expr} {es : List Expr} {ta : TE} {t : TA}

/-- the callee runs -/
theorem run_fn {pins : List (Addr × Obj)} {σ : St} {H : Hp} {s : Shared} {Q : VK} {us : List Value} {vs : List V} (F : FnOk X.prog X.w X.K X.mg X.base CX k f fd ps sp) (hr : Room k X.A) (hb : Binds X.K fd ps ds) (hd : Vals dvs ds) (hx : Passes CX X E)
    (I : Inv X pins σ H s) (r : Vals vs us) (h : sp (vs ++ dvs) H Q E) : wpAny (model X.prog X.w) X.A (call (.ref f) us) (EP X pins σ Q) X.xe s := by
  have r2 : Vals (vs ++ dvs) (us ++ ds) := r.append hd
  have hl : (us ++ ds).length = ps.length := by rw [← r2.length]; exact F.len _ _ _ _ h
  refine wpAny_call (codeAny_mono (F.run X.A X.stack s H ⟨us, []⟩ (us ++ ds) (vs ++ dvs) Q E hr I.env0 (hb s us I.kIn hl) r2 h) fun r s' hq => ?_)
  cases r with
  | error e => exact hx pins σ H s e s' I hq
  | ok fl =>
    cases fl with
    | ret u => exact I.after hq
    | next => exact False.elim hq
    | brk => exact False.elim hq
    | cont => exact False.elim hq

theorem pe_call (F : FnOk X.prog X.w X.K X.mg X.base CX k f fd ps sp) (hr : Room k X.A) (hg : Gl X x) (hm : X.mg x = some (.ref f)) (hk : PySem.W.keepIn X.K (.ref f) = true) (hb : Binds X.K fd ps ds) (hd : Vals dvs ds) (hx : Passes CX X E)
    (ha : PA X (e :: es) t) (hdb : (x == ("__debug__" : Str)) = false := by decide) (he : starEach (e :: es) X.env = (false, eval e X.env) :: starEach es X.env := by rfl) (hpl : (backTo pos (starEach es X.env)).any (·.1) = false := by rfl) :
    PE X (.Call (.Name x p) (e :: es) [] pos) (tCall sp dvs E t) := by
  intro pins s σ H Q I h
  refine wpAny_Call_Name_kw (ld_glob I hg hm ?_ hdb)
  refine PySem.W.callWith_K (h₀ := X.base) I.ok.mod.kin hk (thn (ha pos pins s σ H _ I h) fun us s1 ⟨vs, H1, I1, r, q⟩ => ⟨I1.kIn, ?_⟩) he hpl
  exact run_fn F hr hb hd hx I1 r q
/-- what a class must have to be made -/
structure Mk (K : PySem.W.Frag) (C f : Addr) : Prop where
  makes : PySem.W.makesIn K C = true
  init : PySem.W.findIn K (.ref C) "__init__" = some (some (.ref f))
  fn : PySem.W.isFn K (.ref f) = true
  kp : PySem.W.keepIn K (.ref C) = true

theorem run_make {pins : List (Addr × Obj)} {σ : St} {H : Hp} {s : Shared} {Q : VK} {us : List Value} {vs : List V} (M : Mk X.K C f) (F : FnOk X.prog X.w X.K X.mg X.base CX k f fd ps sp) (hr : Room (k + 1) X.A) (hb : Binds X.K fd ps ds) (hd : Vals dvs ds)
    (hx : Passes CX X E) (I : Inv X pins σ H s) (r : Vals vs us)
    (h : ∀ x dx, H x = none → H dx = none → dx ≠ x → sp (.ref x :: (vs ++ dvs)) (upd (upd H dx (.own x)) x (.ins C dx [])) (fun v H2 => v = .non ∧ Q (.ref x) H2) E) :
    wpAny (model X.prog X.w) X.A (call (.ref C) us) (EP X pins σ Q) X.xe s := by
  have hq := h (s.heap.objs.size + 1) s.heap.objs.size (I.hok.fresh (Nat.le_succ _)) (I.hok.fresh (Nat.le_refl _)) (Nat.ne_of_lt (Nat.lt_succ_self _))
  have I2 := Inv.made (C := C) I
  have r2 : Vals (V.ref (s.heap.objs.size + 1) :: (vs ++ dvs)) (Value.ref (s.heap.objs.size + 1) :: (us ++ ds)) := .cons rfl (r.append hd)
  have hl : (Value.ref (s.heap.objs.size + 1) :: us ++ ds).length = ps.length := by
    have e := r2.length
    rw [F.len _ _ _ _ hq] at e
    exact e.symm
  refine wpAny_call (make_map (f := f) I.kIn M.makes M.init (beq_iff_eq.mp M.fn) (codeAny_mono (F.run _ X.stack _ _ ⟨Value.ref (s.heap.objs.size + 1) :: us, []⟩ (Value.ref (s.heap.objs.size + 1) :: (us ++ ds)) _ _ E (hr.make C us [])
    (I2.env0.make C us []) (hb _ (Value.ref (s.heap.objs.size + 1) :: us) I2.kIn hl) r2 hq) fun r s' hq' => ?_))
  cases r with
  | error e => exact hx pins σ _ _ e s' I2 hq'
  | ok fl =>
    cases fl with
    | ret u =>
      obtain ⟨v, H', I3, rv, ev, q3⟩ := I2.after hq'
      subst ev
      exact ⟨rv, ⟨V.ref (s.heap.objs.size + 1), H', I3, rfl, q3⟩⟩
    | next => exact False.elim hq'
    | brk => exact False.elim hq'
    | cont => exact False.elim hq'
theorem pe_make (M : Mk X.K C f) (F : FnOk X.prog X.w X.K X.mg X.base CX k f fd ps sp) (hr : Room (k + 1) X.A) (hg : Gl X x) (hm : X.mg x = some (.ref C)) (hb : Binds X.K fd ps ds) (hd : Vals dvs ds) (hx : Passes CX X E)
    (ha : PA X (e :: es) t) (hdb : (x == ("__debug__" : Str)) = false := by decide) (he : starEach (e :: es) X.env = (false, eval e X.env) :: starEach es X.env := by rfl) (hpl : (backTo pos (starEach es X.env)).any (·.1) = false := by rfl) :
    PE X (.Call (.Name x p) (e :: es) [] pos) (tMake C sp dvs E t) := by
  intro pins s σ H Q I h
  refine wpAny_Call_Name_kw (ld_glob I hg hm ?_ hdb)
  refine PySem.W.callWith_K (h₀ := X.base) I.ok.mod.kin M.kp (thn (ha pos pins s σ H _ I h) fun us s1 ⟨vs, H1, I1, r, q⟩ => ⟨I1.kIn, ?_⟩) he hpl
  exact run_make M F hr hb hd hx I1 r q
theorem pe_make0 (M : Mk X.K C f) (F : FnOk X.prog X.w X.K X.mg X.base CX k f fd ps sp) (hr : Room (k + 1) X.A) (hg : Gl X x) (hm : X.mg x = some (.ref C)) (hb : Binds X.K fd ps ds) (hd : Vals dvs ds) (hx : Passes CX X E)
    (hdb : (x == ("__debug__" : Str)) = false := by decide) : PE X (.Call (.Name x p) [] [] pos) (tMake C sp dvs E tNil) := by
  intro pins s σ H Q I h
  refine wpAny_Call_Name_kw (ld_glob I hg hm ?_ hdb)
  exact PySem.W.callWith_K0 I.kIn M.kp (run_make (us := []) M F hr hb hd hx I .nil h)
end

section
variable {X : Cx} {CX : CXT} {k : Nat} {f C : Addr} {fd : FuncData} {ps ks : List Str} {sp : Sp} {E : XK} {x m : Str} {p pos apos kpos : Pos} {e o : Expr} {es : List Expr} {kws : List Keyword} {te ta : TE} {t tk : TA} {nm : Option Str}
variable {g : List Value → List Value → List Value} {gV : List V → List V → List V}
end

/-- names: the parameters first -/
structure FnScope (N P : List Str) (sc : Scope) : Prop where
  kind : sc.kind = .function
  co : sc.isCoroutine = false
  gen : sc.isGenerator = false
  nd : N.Nodup
  pre : N.take P.length = P
  par : ∀ x ∈ P, sc.names.lookup x = some .local ∨ sc.names.lookup x = some .cell
  nofree : ∀ y ∈ sc.names, y.2 ≠ .free

theorem bindL_out {kindOf : Str → Option NameKind} {x : Str} : ∀ {binds : List (Str × Value)} {m : Str → Option Value}, (∀ v, (x, v) ∉ binds) → bindL kindOf binds m x = m x
  | [], _, _ => rfl
  | (n, v) :: r, m, h => by
    unfold bindL
    rw [bindL_out fun w hw => h w (List.mem_cons_of_mem _ hw)]
    split
    · have : x ≠ n := by rintro rfl; exact h v List.mem_cons_self
      simp [this]
    · rfl
theorem bindC_out {kindOf : Str → Option NameKind} {x : Str} : ∀ {binds : List (Str × Value)} {m : Str → Option Value}, (∀ v, (x, v) ∉ binds) → bindC kindOf binds m x = m x
  | [], _, _ => rfl
  | (n, v) :: r, m, h => by
    unfold bindC
    rw [bindC_out fun w hw => h w (List.mem_cons_of_mem _ hw)]
    split
    · rfl
    · have : x ≠ n := by rintro rfl; exact h v List.mem_cons_self
      simp [this]
theorem bindL_get {kindOf : Str → Option NameKind} {x : Str} {v : Value} : ∀ {P : List Str} {vs : List Value} {i : Nat} {m : Str → Option Value}, P.Nodup → P[i]? = some x → vs[i]? = some v → kindOf x = some .local →
    bindL kindOf (P.zip vs) m x = some v
  | [], _, _, _, _, h, _, _ => by simp at h
  | _ :: _, [], _, _, _, _, h, _ => by simp at h
  | p :: P, w :: vs, 0, m, nd, h1, h2, hk => by
    simp at h1 h2; subst h1; subst h2
    show bindL kindOf ((p, w) :: P.zip vs) m p = _
    unfold bindL
    rw [bindL_out fun v hv => (List.nodup_cons.mp nd).1 (List.of_mem_zip hv).1, if_pos hk]
    simp
  | p :: P, w :: vs, i + 1, m, nd, h1, h2, hk => by
    show bindL kindOf ((p, w) :: P.zip vs) m x = _
    unfold bindL
    exact bindL_get (i := i) (List.nodup_cons.mp nd).2 (by simpa using h1) (by simpa using h2) hk
theorem bindC_get {kindOf : Str → Option NameKind} {x : Str} {v : Value} : ∀ {P : List Str} {vs : List Value} {i : Nat} {m : Str → Option Value}, P.Nodup → P[i]? = some x → vs[i]? = some v → kindOf x ≠ some .local →
    bindC kindOf (P.zip vs) m x = some v
  | [], _, _, _, _, h, _, _ => by simp at h
  | _ :: _, [], _, _, _, _, h, _ => by simp at h
  | p :: P, w :: vs, 0, m, nd, h1, h2, hk => by
    simp at h1 h2; subst h1; subst h2
    show bindC kindOf ((p, w) :: P.zip vs) m p = _
    unfold bindC
    rw [bindC_out fun v hv => (List.nodup_cons.mp nd).1 (List.of_mem_zip hv).1, if_neg hk]
    simp
  | p :: P, w :: vs, i + 1, m, nd, h1, h2, hk => by
    show bindC kindOf ((p, w) :: P.zip vs) m x = _
    unfold bindC
    exact bindC_get (i := i) (List.nodup_cons.mp nd).2 (by simpa using h1) (by simpa using h2) hk

/-- the names' values at the entry -/
noncomputable def start (N : List Str) (vs : List V) : St := vs.map some ++ List.replicate (N.length - vs.length) none

/-- the context of a def's body, at its entry; an exception leaves the frame, then lies as CX says -/
noncomputable def cxOf (CX : CXT) (P : Program) (w : World) (K : PySem.W.Frag) (mg : Str → Option Value) (base : Heap) (N : List Str) (qual : Str) (scope : Scope) (f : Addr) (cd : Value) (A : Around) (outer : List Env) (s : Shared) (H : Hp) (E : XK) : Cx where
  prog := P
  w := w
  K := K
  mg := mg
  base := base
  A := A.deeper (envOfC qual scope s.heap.objs.size f cd)
  N := N
  s_0 := s
  H_0 := H
  env := envOfC qual scope s.heap.objs.size f cd
  outer := outer
  stack := envOfC qual scope s.heap.objs.size f cd :: outer
  ex := []
  calm := true
  fn := fun _ => true
  pn := []
  xe := fun e s' => wpAny (model P w) (A.deeper (envOfC qual scope s.heap.objs.size f cd)) (leaving (envOfC qual scope s.heap.objs.size f cd) e) (fun _ s'' => CX outer H s E e s'') (fun e' s'' => CX outer H s E e' s'') s'

theorem cell_has {sc : Scope} {n : Nat} {x : Str} (h : sc.names.lookup x = some .cell) : ∃ c, (cellsFrom n sc.names []).lookup x = some c := by
  have q := PySem.W.cellsFrom_some sc.names n [] (.inl h)
  exact Option.isSome_iff_exists.mp q

theorem inv_start {CX : CXT} {P : Program} {w : World} {K : PySem.W.Frag} {mg : Str → Option Value} {base : Heap} {N ps : List Str} {qual : Str} {scope : Scope} {f : Addr} {cd : Value} {A : Around} {outer : List Env} {s s1 : Shared} {H : Hp} {E : XK} {us : List Value} {vs : List V}
    (S : FnScope N ps scope) (hd : A.handled = none) (e0 : Env0 P w K mg base A outer s H) (hl : vs.length = ps.length) (r : Vals vs us)
    (x : InCallC s s.heap.objs.size (bindL (envOfC qual scope s.heap.objs.size f cd).kindOf (ps.zip us) fun _ => none) (cellsFrom (s.heap.objs.size + 1) scope.names []) (bindC (envOfC qual scope s.heap.objs.size f cd).kindOf (ps.zip us) fun _ => none) s1) :
    Inv (cxOf CX P w K mg base N qual scope f cd A outer s H E) [] (start N vs) H s1 := by
  have hpl : ps.length ≤ N.length := by have := congrArg List.length S.pre; rw [List.length_take] at this; omega
  obtain ⟨h1, tk, rfl, hk⟩ := x.done
  have noA : ∀ b : Addr, b ∉ (cxOf CX P w K mg base N qual scope f cd A outer s H E).ex := fun b z => absurd (show b ∈ ([] : List Addr) from z) (by simp)
  refine ⟨⟨e0.mod, S.kind, rfl, rfl, Nat.le_refl _, fun y z c h1 h2 => ?_, fun y hy => ?_, fun y c _ h => ?_, fun _ => hd, Around.frames_deeper e0.frames, .inr ⟨rfl, rfl⟩, fun b z => absurd z (noA b), e0.bs, e0.bsz, fun b _ _ => noA b, fun b z => absurd z (noA b), e0.funs, e0.frf⟩,
    rfl, e0.bare, Un.kept hk, ⟨_, x.toInCall.ns, fun i y v h1 h2 h3 => ?_⟩, fun y c h => ⟨_, x.cell y c h⟩, e0.hok.fresh (Nat.le_refl _), fun y c h => ?_, fun p hp => absurd (show p ∈ ([] : List (Addr × Obj)) from hp) (by simp), e0.hok.kept hk, ?_⟩
  · exact name_of_addr x.apart (PySem.mem_of_lookup h1) (PySem.mem_of_lookup h2)
  · have hy : scope.names.lookup y = some .cell ∨ scope.names.lookup y = some .free := hy
    rcases hy with hy | hy
    · exact cell_has hy
    · exact absurd rfl (S.nofree _ (PySem.mem_of_lookup hy))
  · exact Nat.le_of_lt (x.above y c (PySem.mem_of_lookup h))
  · have hi : i < vs.length := by
      unfold start at h2
      by_cases hi : i < vs.length
      · exact hi
      · rw [List.getElem?_append_right (by simpa using hi)] at h2
        rw [List.getElem?_replicate] at h2
        split at h2 <;> cases h2
    have ha : vs[i]? = some v := by
      unfold start at h2
      rw [List.getElem?_append_left (by simpa using hi), List.getElem?_map] at h2
      cases e : vs[i]? with
      | none => rw [e] at h2; cases h2
      | some a => rw [e] at h2; cases h2; rfl
    obtain ⟨u, hu, rv⟩ := r.get ha
    have hp : ps[i]? = some y := by
      rw [← S.pre, List.getElem?_take_of_lt (by omega)]; exact h1
    have ndP : ps.Nodup := by rw [← S.pre]; exact S.nd.sublist (List.take_sublist _ _)
    refine ⟨u, rv, ?_⟩
    rcases S.par y (List.mem_of_getElem? hp) with k | k
    · exact .inl ⟨k, bindL_get ndP hp hu k⟩
    · obtain ⟨c, e⟩ := cell_has (n := s.heap.objs.size + 1) k
      refine .inr ⟨.inl k, c, e, ?_⟩
      have q := x.cell y c e
      rw [bindC_get ndP hp hu (by show scope.names.lookup y ≠ _; rw [k]; decide)] at q
      exact q
  · exact e0.hok.fresh (Nat.le_of_lt (x.above y c (PySem.mem_of_lookup h)))
  · unfold start
    show _ = N.length
    rw [List.length_append, List.length_map, List.length_replicate]
    omega

/-- THE RULE: a def (or a method) of the text, by its body. The body's reading t is chosen for each entry; it is run at the parameters' values -/
theorem fn_of {CX : CXT} {P : Program} {w : World} {K : PySem.W.Frag} {mg : Str → Option Value} {base : Heap} {k : Nat} {f : Addr} {name qual : Str} {params : Arguments} {body : List Stmt} {scope : Scope} {dV kV doc pm cdv ct oc : Value} {an od : Option Addr}
    {osl : Array (Option Value)} {N ps : List Str} {sp : Sp} (lk : K.lookup f = some ⟨oc, od, .func (PySem.W.fnOf name qual params body scope dV kV doc pm an cdv ct), osl⟩) (hcd : PySem.W.codeIn K cdv qual = true) (S : FnScope N ps scope)
    (len : ∀ vs H Q E, sp vs H Q E → vs.length = ps.length)
    (hbody : ∀ (A : Around) (outer : List Env) (s : Shared) (H : Hp) (vs : List V) (Q : VK) (E : XK), Room k (A.deeper (envOfC qual scope s.heap.objs.size f cdv)) → sp vs H Q E →
      ∃ t, PSs (cxOf CX P w K mg base N qual scope f cdv A outer s H E) body t ∧ t { nx := fun _ H' => Q .non H', rt := Q } (start N vs) H) :
    FnOk P w K mg base CX (k + 1) f (PySem.W.fnOf name qual params body scope dV kV doc pm an cdv ct) ps sp := by
  refine ⟨len, fun A outer s H args us vs Q E hr e0 hb r hsp => ?_⟩
  have hl := len _ _ _ _ hsp
  have KX : K.In s.heap := e0.mod.kin.keeps fun b o e => (e0.bs b o e).1
  have lim : s.heap.NoLimit := e0.mod.nolimit.keeps fun b o e => (e0.bs b o e).1
  have hkind : ∀ y ∈ ps.zip us, scope.names.lookup y.1 = some .local ∨ (scope.names.lookup y.1 = some .cell ∧ ((cellsFrom (s.heap.objs.size + 1) scope.names []).lookup y.1).isSome = true) := fun ⟨n, v⟩ hy => by
    rcases S.par n (List.of_mem_zip hy).1 with q | q
    · exact .inl q
    · exact .inr ⟨q, PySem.W.cellsFrom_some _ _ _ (.inl q)⟩
  refine codeAny_call_function hr.depth (KX _ _ lk) rfl S.co S.gen rfl (PySem.W.codeRec_of KX hcd) (hb _ _ _ _ ?_)
  refine wpAny_newFunctionEnv_cells S.kind hkind fun env he s1 x => ?_
  subst he
  refine ⟨lim.keeps x.toInCall.keep, codeAny_func ?_⟩
  obtain ⟨t, ht, hq⟩ := hbody A outer s H vs Q E (hr.deeper _) hsp
  have I : Inv (cxOf CX P w K mg base N qual scope f cdv A outer s H E) [] (start N vs) H s1 := inv_start S hr.hd e0 hl r x
  refine wpAny_mono (ht [] s1 (start N vs) H _ I hq) (fun fl s' hs => ?_) fun e s' hs => hs
  have fin : ∀ {σ' : St} {H' : Hp} {v : V} {u : Value}, Inv (cxOf CX P w K mg base N qual scope f cdv A outer s H E) [] σ' H' s' → RelV v u → Q v H' → CE outer P w H s Q u s' :=
    fun {σ' H' v u} J rv q => ⟨v, H', J.os, J.bare, J.base, J.hok, rv, q⟩
  cases fl with
  | ret u =>
    obtain ⟨v, σ', H', J, rv, q⟩ := hs
    exact fin J rv q
  | next =>
    obtain ⟨σ', H', J, q⟩ := hs
    exact fin (v := V.non) (u := Value.none) J rfl q
  | brk =>
    obtain ⟨_, _, _, q⟩ := hs
    exact False.elim q
  | cont =>
    obtain ⟨_, _, _, q⟩ := hs
    exact False.elim q
end L2

namespace L2
open PySem PySem.Spec PyProof.Rows
section
variable {X : Cx} {x : Str} {p pos : Pos} {e : Expr} {es : List Expr} {t : TA} {id T : String} {r : List V → Hp → VK → Prop}

noncomputable def tCB (r : List V → Hp → VK → Prop) (t : TA) : TE := fun σ H Q => t σ H fun vs H1 => r vs H1 Q
/-- f(e, ..), f a built-in function -/
theorem pe_callB (hc : CallR X (.builtin id) r) (hg : Gl X x) (hm : X.mg x = none) (hv : bootBuiltins x = some (.builtin id)) (ha : PA X (e :: es) t) (hn : x ≠ "__name__" := by decide) (hdb : (x == ("__debug__" : Str)) = false := by decide)
    (he : starEach (e :: es) X.env = (false, eval e X.env) :: starEach es X.env := by rfl) (hpl : (backTo pos (starEach es X.env)).any (·.1) = false := by rfl) : PE X (.Call (.Name x p) (e :: es) [] pos) (tCB r t) := by
  intro pins s σ H Q I h
  refine wpAny_Call_Name_kw (ld_blt I hg hm hv ?_ hn hdb)
  exact PyProof.Rows.callWith_builtin1 (thn (ha pos pins s σ H _ I h) fun us s1 ⟨vs, H1, I1, r1, q1⟩ => hc pins s1 σ H1 vs us Q I1 r1 q1) he hpl
/-- T(e, ..), T a built-in type -/
theorem pe_callTy (hc : CallR X (.type T) r) (hg : Gl X x) (hm : X.mg x = none) (hv : bootBuiltins x = some (.type T)) (ha : PA X (e :: es) t) (hn : x ≠ "__name__" := by decide) (hdb : (x == ("__debug__" : Str)) = false := by decide)
    (he : starEach (e :: es) X.env = (false, eval e X.env) :: starEach es X.env := by rfl) (hpl : (backTo pos (starEach es X.env)).any (·.1) = false := by rfl) : PE X (.Call (.Name x p) (e :: es) [] pos) (tCB r t) := by
  intro pins s σ H Q I h
  refine wpAny_Call_Name_kw (ld_blt I hg hm hv ?_ hn hdb)
  exact PyProof.Rows.callWith_type1 (thn (ha pos pins s σ H _ I h) fun us s1 ⟨vs, H1, I1, r1, q1⟩ => hc pins s1 σ H1 vs us Q I1 r1 q1) he hpl
end
end L2

namespace HT
open PySem PyProof.Rows

section
open PySem.SeqAt
open PySem.AutoSeq1 (wpAny_loadPart')
open PySem.MeetsSeq PySem.MeetsSeq2 PySem.MeetsSeq3

end

section
variable {prog : Program} {w : World} {A : Around} {E : Value → Shared → Prop} {s : Shared}

/-- a slice's bound as a place among n (d where it is left out) -/
noncomputable def sIx (n d : Nat) : Option Int → Nat
  | none => d
  | some v => if v < 0 then (v + (n : Int)).toNat else min v.toNat n
theorem sIx_none (n d : Nat) : sIx n d none = d := rfl
theorem sIx_nat (n d k : Nat) : sIx n d (some (k : Int)) = min k n := by
  show (if (k : Int) < 0 then ((k : Int) + (n : Int)).toNat else min (k : Int).toNat n) = min k n
  rw [if_neg (by omega), Int.toNat_natCast]
end
end HT

namespace L2
open PySem PySem.Spec PyProof.Rows

noncomputable abbrev TO := St → Hp → (Option Int → Hp → Prop) → Prop
/-- a slice's part (left out, or an int) -/
noncomputable def PO (X : Cx) (e : Option Expr) (t : TO) : Prop :=
  ∀ (pins : List (Addr × Obj)) (s : Shared) (σ : St) (H : Hp) (Q : Option Int → Hp → Prop), Inv X pins σ H s → t σ H Q →
    wpAny (model X.prog X.w) X.A (evalPart e X.env) (fun u s' => ∃ o H', Inv X pins σ H' s' ∧ IsPart u o ∧ Q o H') X.xe s
noncomputable def tNoPart : TO := fun _ H Q => Q none H
noncomputable def tPart (t : TE) : TO := fun σ H Q => t σ H fun x H1 => ∃ i, x = .int i ∧ Q (some i) H1

section
variable {X : Cx} {e : Expr} {te : TE} {lo hi : Option Expr} {tl th : TO} {pos p2 : Pos}

theorem po_none : PO X none tNoPart := by
  intro pins s σ H Q I h
  rw [evalPart_none]
  exact wpAny_pure ⟨none, H, I, .none, h⟩
theorem po_some (h : PE X e te) : PO X (some e) (tPart te) := by
  intro pins s σ H Q I hw
  rw [evalPart_some]
  refine thn (h pins s σ H _ I hw) fun u s1 ⟨x, H1, I1, r1, q1⟩ => ?_
  obtain ⟨i, rfl, q⟩ := q1
  obtain ⟨t, rfl⟩ := r1
  exact ⟨some i, H1, I1, .int i t, q⟩

/-- what a slice of a value is, by values: the slice object stands at sl -/
noncomputable def SlR (X : Cx) (r : V → Option Int → Option Int → Hp → VK → Prop) : Prop :=
  ∀ (pins : List (Addr × Obj)) (s : Shared) (σ : St) (H : Hp) (x : V) (v vl vu : Value) (lo hi : Option Int) (sl : Addr) (Q : VK), Inv X pins σ H s → RelV x v → s.heap.IsSliceOf sl vl vu .none → IsPart vl lo → IsPart vu hi → r x lo hi H Q →
    ∃ T id, typeLookup (.type T) "__getitem__" = pure (some (.builtin id)) ∧ s.TypeIs v T ∧ wpAny (model X.prog X.w) X.A (getItem v (.ref sl)) (EP X pins σ Q) X.xe s
noncomputable def tSl (r : V → Option Int → Option Int → Hp → VK → Prop) (te : TE) (tl th : TO) : TE := fun σ H Q => te σ H fun x H1 => tl σ H1 fun l H2 => th σ H2 fun u H3 => r x l u H3 Q
/-- a[lo:hi], any a -/
theorem pe_slice {r : V → Option Int → Option Int → Hp → VK → Prop} (hr : SlR X r) (he : PE X e te) (hl : PO X lo tl) (hu : PO X hi th) : PE X (.Subscript e (.Slice lo hi none p2) pos) (tSl r te tl th) := by
  intro pins s σ H Q I h
  refine Subscript_ (thn (he pins s σ H _ I h) fun v s1 ⟨x, H1, I1, r1, q1⟩ => ?_)
  refine wpAny_Slice (thn (hl pins s1 σ H1 _ I1 q1) fun vl s2 ⟨l, H2, I2, pl, q2⟩ => thn (hu pins s2 σ H2 _ I2 q2) fun vu s3 ⟨u, H3, I3, pu, q3⟩ => ?_)
  rw [evalPart_none]
  refine wpAny_pure ?_
  have I4 : Inv X pins σ H3 { s3 with heap := s3.heap.push { cls := .type "slice", data := .fields #[vl, vu, .none] } } := I3.kept (t' := s3.toks) fun b ob q => Heap.get?_push_of_some _ q
  obtain ⟨T, id, hT, ht, hg⟩ := hr pins { s3 with heap := s3.heap.push { cls := .type "slice", data := .fields #[vl, vu, .none] } } σ H3 x v vl vu l u s3.heap.objs.size Q I4 r1 (Heap.IsSliceOf.new ..) pl pu q3
  show wpAny (model X.prog X.w) X.A (subscriptTail e (.Slice lo hi none p2) v (.ref s3.heap.objs.size)) (EP X pins σ Q) X.xe { s3 with heap := s3.heap.push { cls := .type "slice", data := .fields #[vl, vu, .none] } }
  exact tail_any (ops := [.ref s3.heap.objs.size, v]) ht hT hg (by with_unfolding_all rfl)

/-- the items of xs[lo:hi] -/
noncomputable def cutV (xs : List V) (lo hi : Option Int) : List V := (xs.drop (HT.sIx xs.length 0 lo)).take (HT.sIx xs.length xs.length hi - HT.sIx xs.length 0 lo)
theorem cutV_length (xs : List V) (lo hi : Option Int) : (cutV xs lo hi).length ≤ xs.length := by
  unfold cutV
  rw [List.length_take, List.length_drop]
  omega
end
end L2

namespace L2
open PySem PySem.Spec PyProof.Rows

/-- the place that an index of any sign means -/
noncomputable def ixN (n : Nat) (i : Int) : Option Nat := if 0 ≤ i then (if i < n then some i.toNat else none) else if -(n : Int) ≤ i then some (i + n).toNat else none
noncomputable def atI {α : Type} (xs : List α) (i : Int) : Option α := (ixN xs.length i).bind fun j => xs[j]?
theorem ixN_seq {n : Nat} {i : Int} {j : Nat} (h : ixN n i = some j) : seqIndex? i n = some j ∧ j < n ∧ -(n : Int) ≤ i ∧ i < n := by
  unfold ixN at h
  by_cases h0 : 0 ≤ i
  · rw [if_pos h0] at h
    by_cases h1 : i < n
    · rw [if_pos h1] at h
      have e : i.toNat = j := Option.some.inj h
      exact ⟨by rw [seqIndex_of h0 h1, e], by omega, by omega, h1⟩
    · rw [if_neg h1] at h; cases h
  · rw [if_neg h0] at h
    by_cases h1 : -(n : Int) ≤ i
    · rw [if_pos h1] at h
      have e : (i + n).toNat = j := Option.some.inj h
      exact ⟨by rw [seqIndex_neg (by omega) h1, e], by omega, h1, by omega⟩
    · rw [if_neg h1] at h; cases h
theorem atI_get {α : Type} {xs : List α} {i : Int} {v : α} (h : atI xs i = some v) : ∃ j, seqIndex? i xs.length = some j ∧ xs[j]? = some v ∧ j < xs.length ∧ -(xs.length : Int) ≤ i ∧ i < xs.length := by
  unfold atI at h
  cases e : ixN xs.length i with
  | none => rw [e] at h; cases h
  | some j =>
    rw [e] at h
    obtain ⟨h1, h2, h3, h4⟩ := ixN_seq e
    exact ⟨j, h1, h, h2, h3, h4⟩
theorem atI_nat {α : Type} {xs : List α} {j : Nat} {v : α} (h : xs[j]? = some v) : atI xs (j : Int) = some v := by
  have hj : j < xs.length := (List.getElem?_eq_some_iff.mp h).1
  have e : ixN xs.length (j : Int) = some j := by
    unfold ixN
    rw [if_pos (by omega), if_pos (by omega)]; simp
  unfold atI; rw [e]; exact h
/-- what stands as an index of a plain subscript -/
noncomputable def PlainIx (b : Expr) : Prop := ∀ o i, subscripted b false o i = operate [o, i] (getItem o i)
/-- a subscript by values -/
noncomputable def IxR (X : Cx) (r : R2) : Prop :=
  ∀ (value slice : Expr) (pins : List (Addr × Obj)) (s : Shared) (σ : St) (H : Hp) (x y : V) (v u : Value) (Q : VK), Inv X pins σ H s → RelV x v → RelV y u → r x y H Q →
    subscripted slice false v u = operate [v, u] (getItem v u) → wpAny (model X.prog X.w) X.A (subscriptTail value slice v u) (EP X pins σ Q) X.xe s
/-- a call of a builtin's method by values: the receiver, the arguments -/
noncomputable def MtR (X : Cx) (id : String) (r : V → List V → Hp → VK → Prop) : Prop :=
  ∀ (pins : List (Addr × Obj)) (s : Shared) (σ : St) (H : Hp) (x : V) (xs : List V) (v : Value) (us : List Value) (Q : VK), Inv X pins σ H s → RelV x v → Vals xs us → r x xs H Q →
    wpAny (model X.prog X.w) X.A (call (.builtin id) (v :: us)) (EP X pins σ Q) X.xe s
section
variable {X : Cx} {a b : Expr} {ta tb : TE} {pos : Pos}
/-- a[b] -/
theorem pe_ix {r : R2} (hr : IxR X r) (ha : PE X a ta) (hb : PE X b tb) (hs : PlainIx b) : PE X (.Subscript a b pos) (tOp r ta tb) := by
  intro pins s σ H Q I h
  exact Subscript_ (binT ha hb I h fun v u s2 x y H2 I2 rx ry q => hr a b pins s2 σ H2 x y v u Q I2 rx ry q (hs _ _))

noncomputable def rIxL (K : PySem.W.Frag) : R2 := fun x y H Q => ∃ p xs i v, x = .ref p ∧ y = .int i ∧ SqL K H p xs ∧ atI xs i = some v ∧ Q v H
noncomputable def rIxT (K : PySem.W.Frag) : R2 := fun x y H Q => ∃ p xs i v, x = .ref p ∧ y = .int i ∧ SqT K H p xs ∧ atI xs i = some v ∧ Q v H
theorem ix_list : IxR X (rIxL X.K) := by
  intro value slice pins s σ H x y v u Q I rx ry h hs
  obtain ⟨p, xs, i, z, rfl, rfl, hq, he, q⟩ := h
  cases rx
  obtain ⟨t, rfl⟩ := ry
  obtain ⟨its, r, pl, hz⟩ := I.list hq
  obtain ⟨j, h1, h2, h3, h4, h5⟩ := atI_get he
  obtain ⟨w, ew, rw'⟩ := r.get h2
  have hl := r.length
  have hn := line63
  have fin : EP X pins σ Q w s := ⟨z, H, I, rw', q⟩
  by_cases h0 : 0 ≤ i
  · have hj : i.toNat = j := by
      rw [seqIndex_of h0 h5] at h1
      exact Option.some.inj h1
    exact item_listR pl.isList h0 (by omega) (by rw [hj]; simpa using ew) fin hs
  · have hj : (i + (its.toArray.size : Int)).toNat = j := by
      rw [seqIndex_neg (by omega) h4] at h1
      rw [List.size_toArray, ← hl]
      exact Option.some.inj h1
    exact subscriptTail_builtinR (x := w) pl.isList.typeIs slot_list_getitem.lookup
      (wpAny_getItem_list_neg (Q := fun r s' => r = w ∧ EP X pins σ Q r s') pl.isList (by omega) (by rw [List.size_toArray] <;> omega) (by omega) (by rw [hj]; simpa using ew) ⟨rfl, fin⟩) hs
theorem ix_tup : IxR X (rIxT X.K) := by
  intro value slice pins s σ H x y v u Q I rx ry h hs
  obtain ⟨p, xs, i, z, rfl, rfl, hq, he, q⟩ := h
  cases rx
  obtain ⟨t, rfl⟩ := ry
  obtain ⟨its, r, pl, hz⟩ := I.tuple hq
  obtain ⟨j, h1, h2, h3, h4, h5⟩ := atI_get he
  obtain ⟨w, ew, rw'⟩ := r.get h2
  have hl := r.length
  have hn := line63
  have fin : EP X pins σ Q w s := ⟨z, H, I, rw', q⟩
  exact subscriptTail_builtinR (x := w) pl.typeIs slot_tuple_getitem.lookup
    (getItem_tuple (j := j) (Q := fun r s' => r = w ∧ EP X pins σ Q r s') pl (by omega) (by omega) (by rw [List.size_toArray, ← hl]; exact h1) (by simpa using ew) ⟨rfl, fin⟩) hs
theorem slice_bounds (lo hi : Option Int) (n : Nat) : (sliceBounds lo hi none n).1 = ((HT.sIx n 0 lo : Nat) : Int) ∧ (sliceBounds lo hi none n).2.1 = ((HT.sIx n n hi : Nat) : Int) ∧ (sliceBounds lo hi none n).2.2 = 1 := by
  refine ⟨?_, ?_, rfl⟩
  · cases lo with
    | none => simp [sliceBounds, HT.sIx]
    | some i =>
      simp only [sliceBounds, HT.sIx, Option.getD_none, show (1 : Int) > 0 by decide, if_true]
      by_cases h : i < 0
      · simp only [h, if_true] <;> omega
      · simp only [h, if_false] <;> omega
  · cases hi with
    | none => simp [sliceBounds, HT.sIx]
    | some i =>
      simp only [sliceBounds, HT.sIx, Option.getD_none, show (1 : Int) > 0 by decide, if_true]
      by_cases h : i < 0
      · simp only [h, if_true] <;> omega
      · simp only [h, if_false] <;> omega
theorem slicePick_cut (its : List Value) (lo hi : Option Int) : slicePick its.toArray lo hi none = ((its.drop (HT.sIx its.length 0 lo)).take (HT.sIx its.length its.length hi - HT.sIx its.length 0 lo)).toArray := by
  obtain ⟨h1, h2, h3⟩ := slice_bounds lo hi its.toArray.size
  unfold slicePick
  rw [h1, h2, h3]
  simp only [sliceRange_one, pick_run, List.size_toArray] <;> rfl
/-- xs[lo:hi] of a list: a new list -/
noncomputable def rSlL (K : PySem.W.Frag) : V → Option Int → Option Int → Hp → VK → Prop := fun x lo hi H Q => ∃ a xs, x = .ref a ∧ SqL K H a xs ∧ ∀ p, H p = none → Q (.ref p) (upd H p (.lst (cutV xs lo hi)))
theorem sl_list : SlR X (rSlL X.K) := by
  intro pins s σ H x v vl vu lo hi sl Q I rx hs pl pu h
  obtain ⟨a, xs, rfl, hx, q⟩ := h
  cases rx
  obtain ⟨its, r, ht, hz⟩ := I.list hx
  have hlen := r.length
  refine ⟨"list", _, slot_list_getitem.lookup, ht.isList.typeIs, ?_⟩
  refine wpAny_getItem_list_slice ht.isList hs pl pu .none (by simp) ?_ (by rw [List.size_toArray] <;> omega)
  rw [slicePick_cut, ← hlen]
  refine ⟨.ref s.heap.objs.size, _, I.laid (t' := s.toks) (o := .lst (cutV xs lo hi)) (fun b ob q => Heap.get?_push_of_some _ q) (Nat.le_refl _) ?_, rfl, q _ (I.hok.fresh (Nat.le_refl _))⟩
  exact ⟨Nat.le_trans (cutV_length xs lo hi) hz, _, 0, (r.drop (HT.sIx xs.length 0 lo)).take (HT.sIx xs.length xs.length hi - HT.sIx xs.length 0 lo), Heap.get?_push_size _ rfl⟩

noncomputable def flatV : V → Bool
  | .non => true
  | .bl _ => true
  | .int _ => true
  | .str _ => true
  | _ => false
/-- == of flat values -/
noncomputable def eqV : V → V → Bool
  | .non, .non => true
  | .bl a, .bl b => a == b
  | .bl a, .int b => (if a then 1 else 0) == b
  | .int a, .bl b => a == (if b then 1 else 0)
  | .int a, .int b => a == b
  | .str a, .str b => a == b
  | _, _ => false
theorem eqAt_V {A : Around} {s : Shared} {y x : V} {u v : Value} (ry : RelV y u) (rx : RelV x v) (fy : flatV y = true) (fx : flatV x = true) : SeqAt.EqAt A s u v (eqV y x) := by
  cases y with
  | non =>
    cases ry
    cases x with
    | non => cases rx; exact SeqAt.EqAt.same _
    | bl b => cases rx; exact SeqAt.EqAt.none_bool b
    | int b => obtain ⟨t, rfl⟩ := rx; exact SeqAt.EqAt.none_int b t
    | str b => obtain ⟨t, rfl⟩ := rx; exact SeqAt.EqAt.none_str b t
    | _ => exact absurd (show false = true from fx) Bool.false_ne_true
  | bl a =>
    cases ry
    cases x with
    | non => cases rx; exact SeqAt.EqAt.bool_none a
    | bl b => cases rx; exact SeqAt.EqAt.bool_bool a b
    | int b => obtain ⟨t, rfl⟩ := rx; exact SeqAt.EqAt.bool_int a b t
    | str b => obtain ⟨t, rfl⟩ := rx; exact SeqAt.EqAt.bool_str a b t
    | _ => exact absurd (show false = true from fx) Bool.false_ne_true
  | int a =>
    obtain ⟨t', rfl⟩ := ry
    cases x with
    | non => cases rx; exact SeqAt.EqAt.int_none a t'
    | bl b => cases rx; exact SeqAt.EqAt.int_bool a t' b
    | int b => obtain ⟨t, rfl⟩ := rx; exact SeqAt.EqAt.int_int a t' b t
    | str b => obtain ⟨t, rfl⟩ := rx; exact SeqAt.EqAt.int_str a t' b t
    | _ => exact absurd (show false = true from fx) Bool.false_ne_true
  | str a =>
    obtain ⟨t', rfl⟩ := ry
    cases x with
    | non => cases rx; exact SeqAt.EqAt.str_none a t'
    | bl b => cases rx; exact SeqAt.EqAt.str_bool a t' b
    | int b => obtain ⟨t, rfl⟩ := rx; exact SeqAt.EqAt.str_int a t' b t
    | str b => obtain ⟨t, rfl⟩ := rx; exact SeqAt.EqAt.str_str a t' b t
    | _ => exact absurd (show false = true from fx) Bool.false_ne_true
  | _ => exact absurd (show false = true from fy) Bool.false_ne_true
/-- the items' answers, read off the values (a value's own answer does not lean on its token) -/
noncomputable def eqU (x : V) (u : Value) : Bool := match u with
  | .none => eqV .non x
  | .bool b => eqV (.bl b) x
  | .int i _ => eqV (.int i) x
  | .str z _ => eqV (.str z) x
  | _ => false
theorem eqU_of {x y : V} {u : Value} (r : RelV y u) (f : flatV y = true) : eqU x u = eqV y x := by
  cases y with
  | non => cases r; rfl
  | bl b => cases r; rfl
  | int i => obtain ⟨t, rfl⟩ := r; rfl
  | str z => obtain ⟨t, rfl⟩ := r; rfl
  | _ => exact absurd (show false = true from f) Bool.false_ne_true
theorem any_eqU {x : V} : ∀ {xs : List V} {us : List Value}, Vals xs us → xs.all flatV = true → us.any (eqU x) = xs.any fun y => eqV y x
  | _, _, .nil, _ => rfl
  | y :: xs, u :: us, .cons r t, f => by
    rw [List.all_cons, Bool.and_eq_true] at f
    rw [List.any_cons, List.any_cons, eqU_of r f.1, any_eqU t f.2]
theorem mem_eqAt {A : Around} {s : Shared} {x : V} {v : Value} (rx : RelV x v) (fx : flatV x = true) : ∀ {xs : List V} {us : List Value}, Vals xs us → xs.all flatV = true → ∀ u ∈ us, SeqAt.EqAt A s u v (eqU x u)
  | _, _, .nil, _ => fun u hu => by cases hu
  | y :: xs, u :: us, .cons r t, f => fun u' hu => by
    rw [List.all_cons, Bool.and_eq_true] at f
    rcases List.mem_cons.mp hu with rfl | hu
    · rw [eqU_of r f.1]; exact eqAt_V r rx f.1 fx
    · exact mem_eqAt rx fx t f.2 u' hu
noncomputable def inV (x : V) (xs : List V) : Bool := xs.any fun y => eqV y x
/-- x in a list or tuple of flat items -/
noncomputable def rIn (K : PySem.W.Frag) (neg : Bool) : R2 := fun x y H Q => ∃ p xs, y = .ref p ∧ (SqL K H p xs ∨ SqT K H p xs) ∧ flatV x = true ∧ xs.all flatV = true ∧ Q (.bl (if neg then !inV x xs else inV x xs)) H
theorem op_in_seq : OpR X (compareOp .In) (rIn X.K false) := by
  intro pins s σ H x y v u Q I rx ry h
  obtain ⟨p, xs, rfl, hq, fx, fs, q⟩ := h
  cases ry
  rcases hq with hq | hq
  · obtain ⟨its, r, pl, hz⟩ := I.list hq
    refine SeqAt.in_listAt (eqU x) pl.isList (fun w hw => mem_eqAt rx fx r fs w (by simpa using hw)) ⟨.bl _, H, I, rfl, ?_⟩
    rw [show its.toArray.any (eqU x) = its.any (eqU x) by simp, any_eqU r fs]
    exact q
  · obtain ⟨its, r, pl, hz⟩ := I.tuple hq
    refine SeqAt.in_tupleAt (eqU x) pl (fun w hw => mem_eqAt rx fx r fs w (by simpa using hw)) ⟨.bl _, H, I, rfl, ?_⟩
    rw [show its.toArray.any (eqU x) = its.any (eqU x) by simp, any_eqU r fs]
    exact q
theorem call_len_seq : CallR X (.builtin "len") (fun xs H Q => ∃ p ys, xs = [.ref p] ∧ (SqL X.K H p ys ∨ SqT X.K H p ys) ∧ Q (.int ys.length) H) := by
  intro pins s σ H xs us Q I r h
  obtain ⟨p, ys, rfl, hq, q⟩ := h
  obtain ⟨u, rfl, rx⟩ := vals1 r
  cases rx
  have hn := line63
  rcases hq with hq | hq
  · obtain ⟨its, r', pl, hz⟩ := I.list hq
    have hlen := r'.length
    exact Calls.call_len_list pl.isList (by simp only [List.size_toArray] <;> omega) ⟨.int ys.length, H, I.tok _, ⟨s.toks + 1, by rw [List.size_toArray, hlen]⟩, q⟩
  · obtain ⟨its, r', pl, hz⟩ := I.tuple hq
    have hlen := r'.length
    exact len_tuple pl (by simp only [List.size_toArray] <;> omega) ⟨.int ys.length, H, I.tok _, ⟨s.toks + 1, by rw [List.size_toArray, hlen]⟩, q⟩
theorem call_list_of : CallR X (.type "list") (fun xs H Q => ∃ p ys, xs = [.ref p] ∧ (SqL X.K H p ys ∨ SqT X.K H p ys) ∧ ∀ l, H l = none → Q (.ref l) (upd H l (.lst ys))) := by
  intro pins s σ H xs us Q I r h
  obtain ⟨p, ys, rfl, hq, q⟩ := h
  obtain ⟨u, rfl, rx⟩ := vals1 r
  cases rx
  have fin : ∀ (its : List Value), Vals ys its → ys.length ≤ sizeLine → ∀ (h' : Heap) (c' : Nat), (∀ b o', s.heap.get? b = some o' → h'.get? b = some o') →
      h'.get? s.heap.objs.size = some { cls := .type "list", dict := none, data := .seq its.toArray c', slots := #[] } → EP X pins σ Q (.ref s.heap.objs.size) { s with heap := h' } := fun its r' hz h' c' kp e =>
    ⟨.ref s.heap.objs.size, _, I.laid (t' := s.toks) kp (Nat.le_refl _) (show ObjOk X.prog X.w _ h' _ (.lst ys) from ⟨hz, its, c', r', e⟩), rfl, q _ (I.hok.fresh (Nat.le_refl _))⟩
  rcases hq with hq | hq
  · obtain ⟨its, r', pl, hz⟩ := I.list hq
    have hlen := r'.length
    obtain ⟨o, ho, hc, n, hd⟩ := pl.isList
    exact call_list_seq p (.inl rfl) ho hc hd (fun h' c' kp e => fin its r' hz h' c' kp e) (by simp only [List.size_toArray] <;> omega)
  · obtain ⟨its, r', pl, hz⟩ := I.tuple hq
    have hlen := r'.length
    obtain ⟨o, ho, hc, n, hd⟩ := pl
    exact call_list_seq p (.inr rfl) ho hc hd (fun h' c' kp e => fin its r' hz h' c' kp e) (by simp only [List.size_toArray] <;> omega)
/-- the value is of that builtin type -/
noncomputable def tyV (K : PySem.W.Frag) (T : String) (x : V) (H : Hp) : Prop := match x with
  | .str _ => T = "str"
  | .int _ => T = "int"
  | .ref p => (T = "list" ∧ ∃ xs, SqL K H p xs) ∨ (T = "tuple" ∧ ∃ o, K.lookup p = some o ∧ o.cls = .type "tuple" ∧ o.dict = none) ∨
      (T = "dict" ∧ ((∃ kvs, H p = some (.dK kvs)) ∨ ∃ kvs, H p = some (.dT kvs))) ∨ (T = "set" ∧ ∃ S n, H p = some (.set S n))
  | _ => False
theorem tyV_is {pins : List (Addr × Obj)} {σ : St} {H : Hp} {s : Shared} {T : String} {x : V} {v : Value} (I : Inv X pins σ H s) (r : RelV x v) (ty : tyV X.K T x H) :
    s.TypeIs v T ∧ ∀ a, v = .ref a → ∃ ob, s.heap.get? a = some ob ∧ ob.dict = none := by
  cases x with
  | str z =>
    obtain ⟨t, rfl⟩ := r
    cases (show T = "str" from ty)
    exact ⟨typeIs_str s z t, fun _ e => nomatch e⟩
  | int i =>
    obtain ⟨t, rfl⟩ := r
    cases (show T = "int" from ty)
    exact ⟨typeIs_int s i t, fun _ e => nomatch e⟩
  | ref p =>
    cases r
    rcases ty with ⟨rfl, xs, hq⟩ | ⟨rfl, o, hk, hc, hd⟩ | ⟨rfl, hk⟩ | ⟨rfl, S, n, hk⟩
    · obtain ⟨its, _, pl, _⟩ := I.list hq
      refine ⟨pl.isList.typeIs, fun a e => ?_⟩
      cases e
      obtain ⟨o, n, e, c, hd, _⟩ := pl
      exact ⟨o, e, hd⟩
    · refine ⟨⟨o, I.kIn p o hk, hc⟩, fun a e => ?_⟩
      cases e
      exact ⟨o, I.kIn _ o hk, hd⟩
    · have z : ∃ o, s.heap.get? p = some o ∧ o.ExactDict := by
        rcases hk with ⟨kvs, hk⟩ | ⟨kvs, hk⟩
        · obtain ⟨_, _, _, _, o, _, _, e, ex, _⟩ := I.hok p _ hk
          exact ⟨o, e, ex⟩
        · obtain ⟨_, _, _, _, o, _, _, e, ex, _⟩ := I.hok p _ hk
          exact ⟨o, e, ex⟩
      obtain ⟨o, e, ex⟩ := z
      refine ⟨⟨o, e, ex.1⟩, fun a e2 => ?_⟩
      cases e2
      exact ⟨o, e, ex.2.1⟩
    · obtain ⟨o, _, _, _, e, ex, _⟩ := I.hok p _ hk
      refine ⟨⟨o, e, ex.1⟩, fun a e2 => ?_⟩
      cases e2
      exact ⟨o, e, ex.2.1⟩
  | _ => exact False.elim ty
noncomputable def tBM (K : PySem.W.Frag) (T : String) (r : V → List V → Hp → VK → Prop) (to : TE) (t : TA) : TE := fun σ H Q => to σ H fun x H1 => tyV K T x H1 ∧ t σ H1 fun xs H2 => r x xs H2 Q
variable {o e : Expr} {es : List Expr} {to : TE} {t : TA} {name : Str} {apos cpos : Pos} {T id : String} {r : V → List V → Hp → VK → Prop}
theorem pe_bm (pa : PlainAttrs T) (slot : Slot T name id) (hty : typeOf (.builtin id) = pure (.type "method_descriptor")) (hm : MtR X id r) (ho : PE X o to) (ha : PA X (e :: es) t)
    (hbase : attributeBase o name X.env (eval o X.env) = eval o X.env := by rfl)
    (hfew : ((backTo cpos (starEach (e :: es) X.env)).all (fun x => !x.1) && (backToKw cpos (keywordEach [] X.env)).all (fun x => x.1.isSome)
      && decide ((e :: es).length + ([] : List Keyword).length + (if ([] : List Keyword).isEmpty then 0 else 1) < 30)) = true := by rfl)
    (hline : (apos.endLine == cpos.line) = true := by rfl) (hs : starEach (e :: es) X.env = (false, eval e X.env) :: starEach es X.env := by rfl) (hplain : (backTo cpos (starEach es X.env)).any (·.1) = false := by rfl) :
    PE X (.Call (.Attribute o name apos) (e :: es) [] cpos) (tBM X.K T r to t) := by
  intro pins s σ H Q I h
  refine wpAny_Call_method_late hbase hfew hline rfl (thn (ho pins s σ H _ I h) fun v s1 ⟨x, H1, I1, r1, ty, q1⟩ => ?_)
  obtain ⟨h1, h2⟩ := tyV_is I1 r1 ty
  refine ⟨T, id, pa, slot, hty, h1, h2, ?_⟩
  have hA := ha cpos pins s1 σ H1 _ I1 q1
  rw [hs] at hA ⊢
  refine Calls.callWith_builtin (by show (false || (backTo cpos (starEach es X.env)).any (·.1)) = false; rw [hplain] <;> rfl) (Calls.evalArgs_plain ?_)
  exact thn hA fun us s2 ⟨vs, H2, I2, r2, q2⟩ => hm pins s2 σ H2 x vs v us Q I2 r1 r2 q2
end
end L2

namespace L2
open PySem PySem.Spec PyProof.Rows

noncomputable def MtM (X : Cx) (id : String) (r : V → List V → Hp → VK → Prop) : Prop :=
  ∀ (pins : List (Addr × Obj)) (s : Shared) (σ : St) (H : Hp) (x : V) (xs : List V) (v : Value) (us : List Value) (Q : VK), Inv X pins σ H s → RelV x v → Vals xs us → r x xs H Q →
    wpAny (model X.prog X.w) X.A (call (.builtin id) (v :: us)) (EP X pins σ Q) X.xe s

theorem Vals.one : ∀ {x : V} {us : List Value}, Vals [x] us → ∃ u, us = [u] ∧ RelV x u
  | _, _, .cons r .nil => ⟨_, rfl, r⟩
section
variable {X : Cx} {pins : List (Addr × Obj)} {σ : St} {H : Hp} {s : Shared} {l b : Addr} {xs ys zs : List V}

theorem Inv.lset {its its' : List Value} {n : Nat} {f : Array Value → Array Value} {t' : Nat} (I : Inv X pins σ H s) (hH : H l = some (.lst xs))
    (e : s.heap.get? l = some { cls := .type "list", data := .seq its.toArray n }) (hf : f its.toArray = its'.toArray) (hv : Vals ys its') (hz : ys.length ≤ sizeLine) :
    Inv X pins σ (upd H l (.lst ys)) { s with heap := s.heap.update l (Obj.mapSeq f), toks := t' } := by
  have q := PySem.IsL.update e f
  rw [hf] at q
  refine I.write (x := l) (e := l) (by rw [hH]; exact trivial) (.inl rfl) (fun b' u hb hu => (Heap.get?_update_other s.heap (Obj.mapSeq f) (Ne.symm hb)).trans hu) ⟨_, q⟩ ?_
  exact ⟨hz, its', _, hv, q⟩
theorem Inv.lnew {its : List Value} {t' : Nat} (I : Inv X pins σ H s) (hv : Vals ys its) (hz : ys.length ≤ sizeLine) :
    Inv X pins σ (upd H s.heap.objs.size (.lst ys)) { s with heap := s.heap.push { cls := .type "list", data := .seq its.toArray }, toks := t' } :=
  I.laid (fun _ _ q => Heap.get?_push_of_some _ q) (Nat.le_refl _) ⟨hz, its, 0, hv, Heap.get?_push_size _ rfl⟩
theorem Inv.fresh (I : Inv X pins σ H s) : H s.heap.objs.size = none := I.hok.fresh (Nat.le_refl _)
theorem Inv.lstM (I : Inv X pins σ H s) (hH : H l = some (.lst xs)) : xs.length ≤ sizeLine ∧ ∃ (its : List Value) (n : Nat), Vals xs its ∧ xs.length = its.length ∧ s.heap.get? l = some { cls := .type "list", data := .seq its.toArray n } := by
  obtain ⟨z, its, n, r, e⟩ := I.hok l _ hH
  exact ⟨z, its, n, r, r.length, e⟩

theorem notLongL {n : Nat} (h : n ≤ sizeLine) : Builtin.List.listTooLong n = false := by
  unfold Builtin.List.listTooLong
  exact decide_eq_false (by omega)
end

section
variable {X : Cx}

noncomputable def rAppend : V → List V → Hp → VK → Prop := fun x vs H Q => ∃ l xs y, x = .ref l ∧ vs = [y] ∧ H l = some (.lst xs) ∧ xs.length < sizeLine ∧ Q .non (upd H l (.lst (xs ++ [y])))
theorem mt_append : MtM X "list.append" rAppend := by
  intro pins s σ H x vs v us Q I rx rv h
  obtain ⟨l, xs, y, rfl, rfl, hH, hz, q⟩ := h
  cases rx
  obtain ⟨u, rfl, ru⟩ := rv.one
  obtain ⟨z, its, n, r, hl, e⟩ := I.lstM hH
  refine call_meets F.slot_list_append ⟨_, e, rfl⟩ F.entry_list_append (F.args_list_append_2 _ _) (PySem.list_append l its.toArray n u (by rw [List.size_toArray]; omega)) ⟨e, ?_⟩
  refine ⟨.non, _, I.lset (its' := its ++ [u]) hH e (by simp) (r.append (.cons ru .nil)) ?_, rfl, q⟩
  rw [List.length_append, List.length_singleton]
  omega

noncomputable def rExtend : V → List V → Hp → VK → Prop := fun x vs H Q => ∃ l b xs zs, x = .ref l ∧ vs = [.ref b] ∧ H l = some (.lst xs) ∧ H b = some (.lst zs) ∧ xs.length + zs.length ≤ sizeLine ∧ Q .non (upd H l (.lst (xs ++ zs)))
theorem mt_extend : MtM X "list.extend" rExtend := by
  intro pins s σ H x vs v us Q I rx rv h
  obtain ⟨l, b, xs, zs, rfl, rfl, hH, hB, hz, q⟩ := h
  cases rx
  obtain ⟨u, rfl, ru⟩ := rv.one
  cases ru
  obtain ⟨z, its, n, r, hl, e⟩ := I.lstM hH
  obtain ⟨z2, its2, n2, r2, hl2, e2⟩ := I.lstM hB
  have hsz : its.toArray.size + its2.toArray.size ≤ sizeLine := by rw [List.size_toArray, List.size_toArray]; omega
  have hlong : ¬ (!its.toArray.isEmpty && Builtin.List.listTooLong (its.toArray.size + its2.toArray.size)) = true := by
    rw [notLongL hsz, Bool.and_false]
    exact Bool.false_ne_true
  refine call_meets F.slot_list_extend ⟨_, e, rfl⟩ F.entry_list_extend (F.args_list_extend_2 _ _)
    (AutoSeq1.list_extend_list_list_0 l its.toArray n b its2.toArray n2 hlong (by rw [List.size_toArray]; omega) (by omega)) ⟨e, e2, ?_⟩
  refine ⟨.non, _, I.lset (its' := its ++ its2) hH e (by simp) (r.append r2) ?_, rfl, q⟩
  rw [List.length_append]
  omega

noncomputable def rCat : R2 := fun x y H Q => ∃ l b xs zs, x = .ref l ∧ y = .ref b ∧ H l = some (.lst xs) ∧ H b = some (.lst zs) ∧ xs.length + zs.length ≤ sizeLine ∧ ∀ p, H p = none → Q (.ref p) (upd H p (.lst (xs ++ zs)))
theorem op_cat : OpR X (binaryOp .Add) rCat := by
  intro pins s σ H x y v u Q I rx ry h
  obtain ⟨l, b, xs, zs, rfl, rfl, hH, hB, hz, q⟩ := h
  cases rx
  cases ry
  obtain ⟨z, its, n, r, hl, e⟩ := I.lstM hH
  obtain ⟨z2, its2, n2, r2, hl2, e2⟩ := I.lstM hB
  refine PySem.P.add_list e e2 ?_ (by rw [List.size_toArray, List.size_toArray]; omega)
  have ea : its.toArray ++ its2.toArray = (its ++ its2).toArray := by simp
  rw [ea]
  exact ⟨.ref _, _, I.lnew (t' := s.toks) (r.append r2) (by rw [List.length_append]; omega), rfl, q _ I.fresh⟩
end

section
variable {prog : Program} {w : World} {A : Around} {E : Value → Shared → Prop} {s : Shared}
set_option maxRecDepth 100000 in
end

section
variable {X : Cx}
end
end L2

namespace L2
open PySem PySem.Spec PyProof.Rows

theorem Vals.ints : ∀ {ns : List Int} {us : List Value}, Vals (ns.map V.int) us → IntsAre us ns
  | [], us, h => by
    rw [List.map_nil] at h
    cases h
    exact IntsAre.nil
  | n :: ns, us, h => by
    rw [List.map_cons] at h
    cases h with
    | cons r t =>
      obtain ⟨k, rfl⟩ := r
      exact IntsAre.cons n k (Vals.ints t)
theorem vals_of_ints : ∀ {us : List Value} {ns : List Int}, IntsAre us ns → Vals (ns.map V.int) us
  | _, _, .nil => by rw [List.map_nil]; exact Paired.nil
  | _, _, .cons n t h => by rw [List.map_cons]; exact Paired.cons (show RelV (V.int n) (Value.int n t) from ⟨t, rfl⟩) (vals_of_ints h)
theorem Vals.bls : ∀ {bs : List Bool} {us : List Value}, Vals (bs.map V.bl) us → us = bs.map Value.bool
  | [], us, h => by
    rw [List.map_nil] at h
    cases h
    rfl
  | b :: bs, us, h => by
    rw [List.map_cons] at h
    cases h with
    | cons r t =>
      cases r
      rw [Vals.bls t, List.map_cons]
theorem Vals.ref1 {a : Addr} {us : List Value} (r : Vals [V.ref a] us) : us = [Value.ref a] := by
  cases r with
  | cons r t =>
    cases t
    cases r
    rfl
section
variable {prog : Program} {w : World} {A : Around} {E : Value → Shared → Prop} {s : Shared} {l : Addr} {its : List Value} {ns : List Int} {Q : Value → Shared → Prop}
theorem sum_raw (hh : A.handled = none) (hl : s.heap.IsList l its.toArray) (hi : IntsAre its ns)
    (h : ∀ h' tk t', (∀ b o, s.heap.get? b = some o → h'.get? b = some o) → Q (.int ns.sum t') { s with heap := h', toks := tk }) : wpAny (model prog w) A (call (.builtin "sum") [.ref l]) Q E s := by
  obtain ⟨xs, e⟩ := hi.allInts.items
  have hn : numsOf (intItems xs).toList = ns := by rw [← e]; exact hi.numsOf
  rw [nums_intItems] at hn
  rw [e] at hl
  refine PySem.sum_intListG hh hl fun h' tk t' hk => ?_
  have := h h' tk t' hk
  rw [preSum_eq, List.take_of_length_le (by simp), hn]; exact this
end

section
variable {X : Cx}
/-- sum(xs) of a list of ints -/
noncomputable def rSum (K : PySem.W.Frag) : List V → Hp → VK → Prop := fun vs H Q => ∃ (a : Addr) (ns : List Int), vs = [V.ref a] ∧ SqL K H a (ns.map V.int) ∧ Q (.int ns.sum) H
theorem cr_sum (hc : X.calm = true) : CallR X (.builtin "sum") (rSum X.K) := by
  intro pins s σ H vs us Q I r h
  obtain ⟨a, ns, rfl, hs, q⟩ := h
  obtain ⟨its, rv, hl, _⟩ := I.list hs
  rw [Vals.ref1 r]
  exact sum_raw (I.ok.hd hc) hl.isList rv.ints fun h' tk t' hk => ⟨.int _, H, I.kept hk, ⟨_, rfl⟩, q⟩
noncomputable def rSorted (K : PySem.W.Frag) : List V → Hp → VK → Prop := fun vs H Q => ∃ (a : Addr) (ns : List Int), vs = [V.ref a] ∧ SqL K H a (ns.map V.int) ∧ ns.length < 64 ∧
  ∀ (ns' : List Int) (p : Addr), ns'.Perm ns → ns'.Pairwise (· ≤ ·) → H p = none → Q (.ref p) (upd H p (.lst (ns'.map V.int)))
theorem small64 {n : Nat} (h : n < 64) : n ≤ sizeLine := by rw [sizeLine_eq]; omega
theorem cr_sorted : CallR X (.builtin "sorted") (rSorted X.K) := by
  intro pins s σ H vs us Q I r h
  obtain ⟨a, ns, rfl, hs, h64, q⟩ := h
  obtain ⟨its, rv, hl, _⟩ := I.list hs
  rw [Vals.ref1 r]
  have hi := rv.ints
  refine PyProof.Rows.sorted_ints hl.isList hi (by rw [hi.length]; exact h64) fun out ns' h1 h2 h3 => ?_
  obtain ⟨ep, he'⟩ := PyProof.Rows.sortedAll_at s.heap its out
  have hlen : (ns'.map V.int).length ≤ sizeLine := by rw [List.length_map, h2.length_eq]; exact small64 h64
  exact ⟨.ref _, upd H (s.heap.objs.size + 1) (.lst (ns'.map V.int)), I.laid (t' := s.toks) (fun _ _ => PyProof.Rows.sortedAll_old) (Nat.le_succ _) ⟨hlen, out.toList, ep, vals_of_ints h1, he'⟩, rfl, q ns' _ h2 h3 (I.hok.fresh (Nat.le_succ _))⟩
end

section
variable {X : Cx}
end

section
variable {X : Cx}
end

theorem iter_any {prog : Program} {w : World} {A : Around} {E : Value → Shared → Prop} {s : Shared} {l : Addr} {items : Array Value} {Q : Value → Shared → Prop} (hl : s.heap.IsList l items)
    (h : ∀ s₂ : Shared, s₂ = { s with heap := s.heap.push { cls := .type "list_iterator", data := .fields #[.ref l, .int 0 0] } } →
      (s₂.heap.IsListIter s.heap.objs.size l 0 ∧ s₂.heap.IsList l items) → l ≠ s.heap.objs.size → Q (.ref s.heap.objs.size) s₂) : wpAny (model prog w) A (pyIter (.ref l)) Q E s := by
  have hlt : l < s.heap.objs.size := by obtain ⟨_, e, _⟩ := hl; exact Heap.lt_size e
  exact wpAny_pyIter_list hl (h _ rfl ⟨⟨_, Heap.get?_push_size _ rfl, rfl, rfl⟩, hl.push _⟩ (Nat.ne_of_lt hlt))
theorem truth_bools {prog : Program} {w : World} {A : Around} {bs : List Bool} {its : List Value} (e : its = bs.map Value.bool) :
    TruthOf prog w A (fun i v => its.toArray[i]? = some v) (fun i => bs.getD i false) := fun i v s Q E hv hq => by
  have hv' : its[i]? = some v := by simpa using hv
  rw [e, List.getElem?_map] at hv'
  obtain ⟨b, hb, rfl⟩ := Option.map_eq_some_iff.mp hv'
  have hg : bs.getD i false = b := by rw [List.getD_eq_getElem?_getD, hb] <;> rfl
  have hq' : Q (bs.getD i false) s := hq
  rw [hg] at hq'
  exact wpAny_truthy_bool hq'
theorem any_range : ∀ bs : List Bool, (List.range bs.length).any (fun i => bs.getD i false) = bs.any id
  | [] => rfl
  | b :: bs => by
    rw [List.length_cons, List.range_succ_eq_map, List.any_cons, List.any_map, List.any_cons, ← any_range bs]
    all_goals rfl
theorem all_range : ∀ bs : List Bool, (List.range bs.length).all (fun i => bs.getD i false) = bs.all id
  | [] => rfl
  | b :: bs => by
    rw [List.length_cons, List.range_succ_eq_map, List.all_cons, List.all_map, List.all_cons, ← all_range bs]
    all_goals rfl
section
variable {X : Cx}
noncomputable def rAll (K : PySem.W.Frag) : List V → Hp → VK → Prop := fun vs H Q => ∃ (a : Addr) (bs : List Bool), vs = [V.ref a] ∧ SqL K H a (bs.map V.bl) ∧ Q (.bl (bs.all id)) H
theorem cr_all (hc : X.calm = true) : CallR X (.builtin "all") (rAll X.K) := by
  intro pins s σ H vs us Q I r h
  obtain ⟨a, bs, rfl, hs, q⟩ := h
  obtain ⟨its, rv, hl, _⟩ := I.list hs
  rw [Vals.ref1 r]
  have hb := rv.bls
  refine call_all_walk (iter_any hl.isList fun s₂ e2 st hne => ?_)
  subst e2
  refine ⟨_, _, _, _, _, _, _, rfl, Walks.list (A := X.A.in1) (I.ok.hd hc) _ a hne its.toArray, st, truth_bools hb, fun h' tk hk => ?_⟩
  refine ⟨.bl _, H, I.kept fun b o eo => hk b o (fun hmem => ?_) (Heap.get?_push_of_some _ eo), ?_, q⟩
  · rcases List.mem_cons.mp hmem with e1 | hmem
    · exact absurd (e1 ▸ Heap.lt_size eo) (Nat.lt_irrefl _)
    · cases hmem
  · show Value.bool _ = Value.bool _
    rw [← all_range, hb, List.size_toArray, List.length_map]
end

section
variable {X : Cx} {pins : List (Addr × Obj)} {σ : St} {H : Hp} {s : Shared}
end
section
variable {X : Cx}
end
end L2

namespace L2
open PySem PySem.Spec PyProof.Rows
noncomputable abbrev CellAt (h : Heap) (c : Addr) (v : Option Value) : Prop := h.IsCell c v
noncomputable def relS (scope sc : Scope) : Scope :=
  { scope with names := scope.names.map fun (n, k) => if (k == .free && sc.kind == .function && sc.names.lookup n == some .cell) then (n, .cell) else (n, k) }

noncomputable def cloFrom (cells : List (Str × Addr)) : List (Str × NameKind) → List (Str × Addr) → List (Str × Addr)
  | [], acc => acc
  | (n, k) :: r, acc => if k == .free then cloFrom cells r ((n, (cells.lookup n).getD 0) :: acc) else cloFrom cells r acc

theorem closure_loop (env : Env) (f : Str × NameKind → List (Str × Addr) → Sem (ForInStep (List (Str × Addr))))
    (hf : ∀ n k c, f (n, k) c = if k == .free then (do let a ← cellOf env n; pure (.yield ((n, a) :: c))) else pure (.yield c)) :
    ∀ (names : List (Str × NameKind)) (acc : List (Str × Addr)), (∀ y ∈ names, y.2 = .free → ∃ c, env.cells.lookup y.1 = some c) → forIn names acc f = pure (cloFrom env.cells names acc)
  | [], acc, _ => by rw [List.forIn_nil]; rfl
  | (n, k) :: r, acc, h => by
    rw [List.forIn_cons, hf]
    have ih := fun acc => closure_loop env f hf r acc fun y hy => h y (List.mem_cons_of_mem _ hy)
    unfold cloFrom
    by_cases hk : (k == NameKind.free) = true
    · rw [if_pos hk, if_pos hk]
      obtain ⟨c, hc⟩ := h (n, k) List.mem_cons_self (by simpa using hk)
      have e : cellOf env n = pure c := by unfold cellOf; rw [hc]
      rw [e]
      have e2 : (env.cells.lookup n).getD 0 = c := by rw [hc]; rfl
      rw [e2]
      exact ih _
    · rw [if_neg hk, if_neg hk]
      exact ih _
theorem closure_ok {scope : Scope} {env : Env} (h : ∀ y ∈ scope.names, y.2 = .free → ∃ c, env.cells.lookup y.1 = some c) : closureFor scope env = pure (cloFrom env.cells scope.names []) := by
  simp only [closureFor]
  rw [closure_loop env _ (fun n k c => rfl) scope.names [] h]
  rfl

theorem mem_lookup {α : Type} : ∀ {l : List (Str × α)} {n : Str} {c : α}, (n, c) ∈ l → ∃ c', l.lookup n = some c'
  | (k, v) :: r, n, c, h => by
    rw [List.lookup_cons]
    cases hb : n == k with
    | true => exact ⟨_, rfl⟩
    | false =>
      rcases List.mem_cons.mp h with e | h
      · cases e; simp at hb
      · exact mem_lookup h

theorem cloFrom_mem {cells : List (Str × Addr)} : ∀ {names : List (Str × NameKind)} {acc : List (Str × Addr)} {n : Str} {c : Addr}, (n, c) ∈ cloFrom cells names acc → (n, c) ∈ acc ∨ ((n, .free) ∈ names ∧ c = (cells.lookup n).getD 0)
  | [], _, _, _, h => .inl h
  | (m, k) :: r, acc, n, c, h => by
    unfold cloFrom at h
    split at h
    · rename_i hk
      have hk : k = .free := by simpa using hk
      rcases cloFrom_mem h with h | ⟨h1, h2⟩
      · rcases List.mem_cons.mp h with e | h
        · cases e; exact .inr ⟨hk ▸ List.mem_cons_self, rfl⟩
        · exact .inl h
      · exact .inr ⟨List.mem_cons_of_mem _ h1, h2⟩
    · rcases cloFrom_mem h with h | ⟨h1, h2⟩
      · exact .inl h
      · exact .inr ⟨List.mem_cons_of_mem _ h1, h2⟩
theorem cloFrom_acc {cells : List (Str × Addr)} : ∀ {names : List (Str × NameKind)} {acc : List (Str × Addr)} {p : Str × Addr}, p ∈ acc → p ∈ cloFrom cells names acc
  | [], _, _, h => h
  | (m, k) :: r, acc, p, h => by
    unfold cloFrom
    split
    · exact cloFrom_acc (List.mem_cons_of_mem _ h)
    · exact cloFrom_acc h
theorem cloFrom_has {cells : List (Str × Addr)} : ∀ {names : List (Str × NameKind)} {acc : List (Str × Addr)} {n : Str}, (n, .free) ∈ names → (n, (cells.lookup n).getD 0) ∈ cloFrom cells names acc
  | (m, k) :: r, acc, n, h => by
    unfold cloFrom
    rcases List.mem_cons.mp h with e | h
    · cases e
      exact cloFrom_acc List.mem_cons_self
    · split
      · exact cloFrom_has h
      · exact cloFrom_has h

theorem cells_mem : ∀ {names : List (Str × NameKind)} {h : Heap} {acc : List (Str × Addr)} {x : Str} {c : Addr}, (x, c) ∈ cellsFrom h.objs.size names acc →
    (x, c) ∈ acc ∨ ((x, .cell) ∈ names ∧ h.objs.size ≤ c ∧ CellAt (pushCells h names) c none)
  | [], _, _, _, _, h => .inl h
  | (n, k) :: r, h, acc, x, c, hm => by
    unfold cellsFrom at hm
    unfold pushCells
    split at hm
    · rename_i hk
      rw [if_pos hk]
      have hk : k = .cell := by simpa using hk
      rw [← Heap.size_push h { cls := .type "cell", data := .cell none }] at hm
      rcases cells_mem hm with hm | ⟨h1, h2, h3⟩
      · rcases List.mem_cons.mp hm with e | hm
        · cases e
          exact .inr ⟨hk ▸ List.mem_cons_self, Nat.le_refl _, _, pushCells_keeps r _ _ _ (Heap.get?_push_size _ rfl), rfl⟩
        · exact .inl hm
      · rw [Heap.size_push] at h2
        exact .inr ⟨List.mem_cons_of_mem _ h1, Nat.le_of_succ_le h2, h3⟩
    · rename_i hk
      rw [if_neg hk]
      rcases cells_mem hm with hm | ⟨h1, h2, h3⟩
      · exact .inl hm
      · exact .inr ⟨List.mem_cons_of_mem _ h1, h2, h3⟩
theorem cells_acc : ∀ {names : List (Str × NameKind)} {n : Nat} {acc : List (Str × Addr)} {p : Str × Addr}, p ∈ acc → p ∈ cellsFrom n names acc
  | [], _, _, _, h => h
  | (m, k) :: r, n, acc, p, h => by
    unfold cellsFrom
    split
    · exact cells_acc (List.mem_cons_of_mem _ h)
    · exact cells_acc h
theorem cells_has : ∀ {names : List (Str × NameKind)} {n : Nat} {acc : List (Str × Addr)} {x : Str}, (x, .cell) ∈ names → ∃ c, (x, c) ∈ cellsFrom n names acc
  | (m, k) :: r, n, acc, x, h => by
    unfold cellsFrom
    rcases List.mem_cons.mp h with e | h
    · cases e
      exact ⟨n, cells_acc List.mem_cons_self⟩
    · split
      · exact cells_has h
      · exact cells_has h
theorem cells_inj : ∀ {names : List (Str × NameKind)} {h : Heap} {acc : List (Str × Addr)} {x y : Str} {c : Addr}, (∀ p ∈ acc, p.2 < h.objs.size) → (∀ x y c, (x, c) ∈ acc → (y, c) ∈ acc → x = y) →
    (x, c) ∈ cellsFrom h.objs.size names acc → (y, c) ∈ cellsFrom h.objs.size names acc → x = y
  | [], _, _, _, _, _, _, hi, h1, h2 => hi _ _ _ h1 h2
  | (n, k) :: r, h, acc, x, y, c, hl, hi, h1, h2 => by
    unfold cellsFrom at h1 h2
    split at h1
    · rename_i hk
      rw [if_pos hk] at h2
      rw [← Heap.size_push h { cls := .type "cell", data := .cell none }] at h1 h2
      refine cells_inj (h := h.push _) (fun p hp => ?_) (fun x y c a b => ?_) h1 h2
      · rw [Heap.size_push]
        rcases List.mem_cons.mp hp with rfl | hp
        · exact Nat.lt_succ_self _
        · exact Nat.lt_succ_of_lt (hl p hp)
      · rcases List.mem_cons.mp a with e | a <;> rcases List.mem_cons.mp b with e' | b
        · cases e; cases e'; rfl
        · cases e; exact absurd (hl _ b) (Nat.lt_irrefl _)
        · cases e'; exact absurd (hl _ a) (Nat.lt_irrefl _)
        · exact hi _ _ _ a b
    · rename_i hk
      rw [if_neg hk] at h2
      exact cells_inj hl hi h1 h2

theorem newEnv_comp {M : Model} {A : Around} {E : Value → Shared → Prop} {s : Shared} {scope : Scope} {globals : Addr} {closure : List (Str × Addr)} {qual : Str} {func : Option Addr} {code : Value} {around : Env} {builtins : Addr} {Q : Env → Shared → Prop}
    (h : Q (newEnv scope s.heap.objs.size globals (cellsFrom (s.heap.objs.size + 1) scope.names closure) qual func code (some around) builtins)
      { s with heap := pushCells (s.heap.push { cls := .type "dict", data := .dict #[] }) scope.names }) :
    wpAny M A (newFunctionEnv scope globals closure [] qual func code (some around) builtins) Q E s := by
  simp only [newFunctionEnv, Option.isSome_some, if_true]
  refine wpAny_bind (wpAny_alloc ?_)
  refine wpAny_bind (wpAny_layCells _ (fun n k c => rfl) scope.names closure _ _ ?_)
  rw [show ({ s with heap := s.heap.push { cls := .type "dict", data := .dict #[] } } : Shared).heap.objs.size = s.heap.objs.size + 1 from Heap.size_push ..]
  rw [List.forIn_nil]
  exact wpAny_bind (wpAny_pure (wpAny_pure h))

/-- every name of the written scope, in the scope that runs -/
theorem lookup_relS {sc : Scope} : ∀ {names : List (Str × NameKind)} {x : Str} {k : NameKind},
    (names.map fun (n, k) => if (k == NameKind.free && sc.kind == .function && sc.names.lookup n == some .cell) then (n, NameKind.cell) else (n, k)).lookup x = some k →
    ∃ k', names.lookup x = some k' ∧ (k = k' ∨ (k' = .free ∧ k = .cell))
  | [], _, _, h => by simp at h
  | (n, k₀) :: r, x, k, h => by
    have ih := @lookup_relS sc r x k
    have h' : List.lookup x ((if (k₀ == NameKind.free && sc.kind == .function && sc.names.lookup n == some .cell) = true then (n, NameKind.cell) else (n, k₀)) :: (r.map _)) = some k := h
    cases hx : x == n with
    | true =>
      simp only [List.lookup_cons, hx]
      by_cases hc : (k₀ == NameKind.free && sc.kind == .function && sc.names.lookup n == some .cell) = true
      · rw [if_pos hc] at h'
        simp only [List.lookup_cons, hx] at h'
        cases h'
        simp only [Bool.and_eq_true, beq_iff_eq] at hc
        exact ⟨k₀, rfl, .inr ⟨hc.1.1, rfl⟩⟩
      · rw [if_neg hc] at h'
        simp only [List.lookup_cons, hx] at h'
        cases h'
        exact ⟨_, rfl, .inl rfl⟩
    | false =>
      simp only [List.lookup_cons, hx]
      by_cases hc : (k₀ == NameKind.free && sc.kind == .function && sc.names.lookup n == some .cell) = true
      · rw [if_pos hc] at h'
        simp only [List.lookup_cons, hx] at h'
        exact ih h'
      · rw [if_neg hc] at h'
        simp only [List.lookup_cons, hx] at h'
        exact ih h'
/-- the names of a comprehension's block: its own (with their places in N), or captured -/
structure BlkOk (N : List Str) (sc scope : Scope) (own : List (Str × Nat)) : Prop where
  kind : scope.kind = .function
  uniq : ∀ y ∈ scope.names, scope.names.lookup y.1 = some y.2
  ix : ∀ p ∈ own, N[p.2]? = some p.1
  free : ∀ y ∈ scope.names, y.2 = .free → sc.names.lookup y.1 = some .cell ∨ sc.names.lookup y.1 = some .free
  own : ∀ y ∈ scope.names, y.2 = .local ∨ y.2 = .cell → y.1 ∈ own.map (·.1) ∨ y.1 ∉ N
/-- the slots of the block's own names forgotten -/
noncomputable def wipe (σ : St) : List Nat → St
  | [] => σ
  | v :: vs => (wipe σ vs).set v none
theorem wipe_length (σ : St) : ∀ vs : List Nat, (wipe σ vs).length = σ.length
  | [] => rfl
  | v :: vs => by unfold wipe; rw [List.length_set, wipe_length σ vs]
theorem wipe_some {σ : St} {i : Nat} {x : V} : ∀ {vs : List Nat}, (wipe σ vs)[i]? = some (some x) → σ[i]? = some (some x) ∧ i ∉ vs
  | [], h => ⟨h, by simp⟩
  | v :: vs, h => by
    unfold wipe at h
    by_cases hi : v = i
    · subst hi
      by_cases hv : v < (wipe σ vs).length
      · rw [List.getElem?_set_self hv] at h; cases h
      · rw [List.getElem?_eq_none (by simpa using hv)] at h; cases h
    · rw [List.getElem?_set_ne hi] at h
      obtain ⟨h1, h2⟩ := wipe_some h
      exact ⟨h1, by simp only [List.mem_cons, not_or]; exact ⟨fun e => hi e.symm, h2⟩⟩

/-- the context of a block that starts at s, its iterator's objects at fp -/
noncomputable abbrev Cx.blk (X : Cx) (s : Shared) (H : Hp) (scope : Scope) (cenv : Env) (fp : List Addr) : Cx := { X with s_0 := s, H_0 := H, env := cenv, outer := X.stack, ex := fp, fn := fun x => scope.names.lookup x == some .cell, pn := [], xe := fun _ _ => False }
section
variable {X : Cx} {pins : List (Addr × Obj)} {σ : St} {H : Hp} {s : Shared}
theorem block_start {scope : Scope} {own : List (Str × Nat)} {fp : List Addr} (I : Inv X pins σ H s) (ok : BlkOk X.N X.env.scope scope own) (hN : X.N.Nodup) (hfp : ∀ b ∈ fp, FpOk X pins H b ∧ b < s.heap.objs.size) :
    Inv (X.blk s H scope (compEnvC scope (cellsFrom (s.heap.objs.size + 1) scope.names (cloFrom X.env.cells scope.names [])) s.heap.objs.size X.env) fp) [] (wipe σ (own.map (·.2))) H { s with heap := pushCells (s.heap.push { cls := .type "dict", data := .dict #[] }) scope.names } := by
  have hfree : ∀ y ∈ scope.names, y.2 = .free → ∃ c, X.env.cells.lookup y.1 = some c := fun y hy e => by
    rcases ok.free y hy e with k | k
    · exact I.ok.has _ (.inl k)
    · exact I.ok.has _ (.inr k)
  generalize hcenv : compEnvC scope (cellsFrom (s.heap.objs.size + 1) scope.names (cloFrom X.env.cells scope.names [])) s.heap.objs.size X.env = cenv
  have kp : ∀ b o, s.heap.get? b = some o → (pushCells (s.heap.push { cls := .type "dict", data := .dict #[] }) scope.names).get? b = some o := fun b o e => pushCells_keeps _ _ _ _ (Heap.get?_push_of_some _ e)
  have hL : cenv.locals = s.heap.objs.size := by rw [← hcenv]; rfl
  have hcl : cenv.cells = cellsFrom (s.heap.objs.size + 1) scope.names (cloFrom X.env.cells scope.names []) := by rw [← hcenv]; rfl
  have hsc : cenv.scope = relS scope X.env.scope := by rw [← hcenv]; rfl
  rw [← Heap.size_push s.heap { cls := .type "dict", data := .dict #[] }] at hcl
  have cm : ∀ {y c}, (y, c) ∈ cloFrom X.env.cells scope.names [] → X.env.cells.lookup y = some c ∧ c < s.heap.objs.size := fun {y c} hm => by
    rcases cloFrom_mem hm with hm | ⟨h1, rfl⟩
    · cases hm
    · obtain ⟨c, hc⟩ := hfree _ h1 rfl
      rw [hc]
      obtain ⟨w, z⟩ := I.cell _ _ hc
      exact ⟨rfl, z.lt⟩
  have mem : ∀ {y c}, cenv.cells.lookup y = some c → (X.env.cells.lookup y = some c ∧ c < s.heap.objs.size) ∨ (s.heap.objs.size + 1 ≤ c ∧ CellAt (pushCells (s.heap.push { cls := .type "dict", data := .dict #[] }) scope.names) c none) := fun {y c} e => by
    rw [hcl] at e
    rcases cells_mem (PySem.mem_of_lookup e) with hm | ⟨_, h2, h3⟩
    · exact .inl (cm hm)
    · rw [Heap.size_push] at h2; exact .inr ⟨h2, h3⟩
  have look : ∀ {y}, scope.names.lookup y = some .free → ∃ c, cenv.cells.lookup y = some c ∧ X.env.cells.lookup y = some c := fun {y} hl => by
    have hy : (y, NameKind.free) ∈ scope.names := PySem.mem_of_lookup hl
    obtain ⟨c', e'⟩ := mem_lookup (cells_acc (names := scope.names) (n := (s.heap.push { cls := .type "dict", data := .dict #[] }).objs.size) (cloFrom_has (cells := X.env.cells) (acc := []) hy))
    rw [← hcl] at e'
    refine ⟨c', e', ?_⟩
    rw [hcl] at e'
    rcases cells_mem (PySem.mem_of_lookup e') with hm | ⟨h1, _, _⟩
    · exact (cm hm).1
    · have := ok.uniq _ h1
      rw [hl] at this; cases this
  have okB : (X.blk s H scope cenv fp).Ok := by
    refine ⟨I.ok.mod, by show cenv.scope.kind = _; rw [hsc]; exact ok.kind, by show cenv.globals = _; rw [← hcenv]; exact I.ok.glob, by show cenv.builtins = _; rw [← hcenv]; exact I.ok.blt, by show s.heap.objs.size ≤ cenv.locals; rw [hL]; exact Nat.le_refl _,
      fun y z c e1 e2 => ?_, fun y hy => ?_, fun y c z e => ?_, I.ok.hd, I.ok.frames, .inl rfl, fun b hb => ⟨?_, fun y c e z => ?_⟩, I.bs, Nat.le_trans I.ok.bsz I.sz, fun b o e hb => ?_, fun b hb z => ?_, I.stack, I.stkFree⟩
    · have e1 : cenv.cells.lookup y = some c := e1
      have e2 : cenv.cells.lookup z = some c := e2
      rw [hcl] at e1 e2
      refine cells_inj (fun p hp => ?_) (fun y z c a b => I.ok.inj y z c (cm a).1 (cm b).1) (PySem.mem_of_lookup e1) (PySem.mem_of_lookup e2)
      rw [Heap.size_push]
      exact Nat.lt_succ_of_lt (cm (y := p.1) (c := p.2) hp).2
    · show ∃ c, cenv.cells.lookup y = some c
      have key : ∀ k, cenv.kindOf y = some k → (k = .cell ∨ k = .free) → ∃ c, cenv.cells.lookup y = some c := fun k hk hk' => by
        unfold Env.kindOf at hk
        rw [hsc] at hk
        obtain ⟨k', e, r⟩ := lookup_relS hk
        have : k' = .cell ∨ k' = .free := by
          rcases r with rfl | ⟨rfl, _⟩
          · exact hk'
          · exact .inr rfl
        rcases this with rfl | rfl
        · obtain ⟨c, hm⟩ := cells_has (n := (s.heap.push { cls := .type "dict", data := .dict #[] }).objs.size) (acc := cloFrom X.env.cells scope.names []) (PySem.mem_of_lookup e)
          obtain ⟨c', e'⟩ := mem_lookup hm
          exact ⟨c', by rw [hcl]; exact e'⟩
        · obtain ⟨c, h1, _⟩ := look e
          exact ⟨c, h1⟩
      rcases hy with hy | hy
      · exact key _ hy (.inl rfl)
      · exact key _ hy (.inr rfl)
    · have z : (scope.names.lookup y == some NameKind.cell) = true := z
      have z : scope.names.lookup y = some .cell := by simpa using z
      have e : cenv.cells.lookup y = some c := e
      rw [hcl] at e
      rcases cells_mem (PySem.mem_of_lookup e) with hm | ⟨_, h2, _⟩
      · rcases cloFrom_mem hm with hm | ⟨h1, _⟩
        · cases hm
        · have q := ok.uniq _ h1
          rw [z] at q; cases q
      · rw [Heap.size_push] at h2
        exact Nat.le_of_succ_le h2
    · show b ≠ cenv.locals
      rw [hL]; exact Nat.ne_of_lt (hfp b hb).2
    · have e : cenv.cells.lookup y = some c := e
      rcases mem e with ⟨h1, _⟩ | ⟨h1, _⟩
      · exact (hfp b hb).1.2.2.2.2.1 y c h1 z
      · have h2 : s.heap.objs.size + 1 ≤ b := by rw [← z]; exact h1
        exact absurd (Nat.lt_of_lt_of_le (hfp b hb).2 (Nat.le_of_succ_le h2)) (Nat.lt_irrefl _)
    · rcases (hfp b hb).1.2.2.2.1 with z | z
      · exact I.ok.noex b o e z
      · exact absurd (Nat.lt_of_lt_of_le (Heap.lt_size e) (Nat.le_trans I.ok.bsz z)) (Nat.lt_irrefl _)
    · rcases List.mem_cons.mp (I.stkSub b z) with z | z
      · exact (hfp b hb).1.2.1 z
      · exact (hfp b hb).1.2.2.1 z
  refine ⟨okB, rfl, I.bare, Un.kept kp, ⟨fun _ => none, ?_, fun i y av e1 e2 e3 => ?_⟩, fun y c e => ?_, ?_, fun y c e => ?_, fun p hp => ?_, I.hok.kept kp, by rw [wipe_length]; exact I.len⟩
  · show Heap.Ns _ cenv.locals _
    rw [hL]
    exact Heap.Ns.keeps (Heap.Ns.new ..) fun b o e => pushCells_keeps _ _ _ _ e
  · obtain ⟨e2, hne⟩ := wipe_some e2
    have hfr : scope.names.lookup y = some .free ∧ (cenv.kindOf y = some .cell ∨ cenv.kindOf y = some .free) := by
      have key : ∀ k, cenv.scope.names.lookup y = some k → k = .local ∨ k = .cell ∨ k = .free → scope.names.lookup y = some .free ∧ (cenv.kindOf y = some .cell ∨ cenv.kindOf y = some .free) := fun k hk hk' => by
        have hk0 := hk
        rw [hsc] at hk
        obtain ⟨k', e, r⟩ := lookup_relS hk
        have no : ¬ (k' = .local ∨ k' = .cell) := fun hh => by
          rcases ok.own _ (PySem.mem_of_lookup e) hh with e' | e'
          · obtain ⟨p, hp, hpy⟩ := List.mem_map.mp e'
            have e3 := ok.ix p hp
            have : p.1 = y := hpy
            rw [this] at e3
            exact hne (List.mem_map.mpr ⟨p, hp, nodup_ix hN e3 e1⟩)
          · exact e' (List.mem_of_getElem? e1)
        rcases r with rfl | ⟨rfl, rfl⟩
        · rcases hk' with rfl | rfl | rfl
          · exact absurd (.inl rfl) no
          · exact absurd (.inr rfl) no
          · exact ⟨e, .inr hk0⟩
        · exact ⟨e, .inl hk0⟩
      have e3 : Vis cenv.scope y := e3
      rcases e3 with e3 | e3 | e3
      · exact key _ e3 (.inl rfl)
      · exact key _ e3 (.inr (.inl rfl))
      · exact key _ e3 (.inr (.inr rfl))
    obtain ⟨m, hn, hl⟩ := I.loc
    have hvis : Vis X.env.scope y := (ok.free _ (PySem.mem_of_lookup hfr.1) rfl).elim (fun k => .inr (.inl k)) (fun k => .inr (.inr k))
    obtain ⟨w, r, q⟩ := hl i y av e1 e2 hvis
    refine ⟨w, r, .inr ⟨hfr.2, ?_⟩⟩
    obtain ⟨c, h1, h2⟩ := look hfr.1
    rcases q with ⟨k, _⟩ | ⟨_, c', e', z⟩
    · have k : X.env.scope.names.lookup y = some .local := k
      rcases ok.free _ (PySem.mem_of_lookup hfr.1) rfl with k' | k' <;> rw [show X.env.scope.names.lookup y = _ from k'] at k <;> cases k
    · rw [h2] at e'; cases e'
      exact ⟨c, h1, z.keeps kp⟩
  · have e : cenv.cells.lookup y = some c := e
    rcases mem e with ⟨h1, _⟩ | ⟨_, z⟩
    · obtain ⟨w, z⟩ := I.cell y c h1
      exact ⟨w, z.keeps kp⟩
    · exact ⟨_, z⟩
  · show H cenv.locals = none
    rw [hL]; exact I.hok.fresh (Nat.le_refl _)
  · have e : cenv.cells.lookup y = some c := e
    rcases mem e with ⟨h1, _⟩ | ⟨h1, _⟩
    · exact I.freeC y c h1
    · exact I.hok.fresh (Nat.le_of_succ_le h1)
  · exact absurd (show p ∈ ([] : List (Addr × Obj)) ++ [] from hp) (by simp)

/-- an item appended to a tracked list -/
theorem app_ok {E : Value → Shared → Prop} {D : Addr} {xs : List V} {y : V} {v : Value} {Q : Value → Shared → Prop} (I : Inv X pins σ H s) (hD : H D = some (.lst xs)) (hz : xs.length < sizeLine) (r : RelV y v)
    (h : ∀ s', Inv X pins σ (upd H D (.lst (xs ++ [y]))) s' → Q .none s') : wpAny (model X.prog X.w) X.A (call (.builtin "list.append") [.ref D, v]) Q E s := by
  obtain ⟨hz', its, n, ri, e⟩ := I.hok D _ hD
  have hl := ri.length
  refine append_at (hsz := by rw [List.size_toArray]; omega) e fun h' sb ho' => ?_
  refine h { s with heap := h' } (I.write (t' := s.toks) (by rw [hD]; trivial) (.inl rfl) (fun b u hb q => (sb.2 b hb).trans q) ⟨_, ho'⟩ ⟨by rw [List.length_append]; exact hz, its ++ [v], n + 1, ri.append (.cons r .nil), ?_⟩)
  rw [ho']
  simp

/-- a clause's tests -/
noncomputable def PTs (X : Cx) (ifs : List Expr) (t : TT) : Prop :=
  ∀ (pins : List (Addr × Obj)) (s : Shared) (σ : St) (H : Hp) (Q : Bool → Hp → Prop), Inv X pins σ H s → t σ H Q →
    wpAny (model X.prog X.w) X.A (forIn ifs true fun c r => if r = true then do let ok ← isTrue c X.env (eval c X.env); pure (ForInStep.yield ok) else pure (ForInStep.yield r)) (TP X pins σ Q) X.xe s
noncomputable def tYes : TT := fun _ H Q => Q true H
theorem pts_nil : PTs X [] tYes := fun _ _ _ H _ I h => wpAny_tests_nil ⟨H, I, h⟩
theorem pts_one {c : Expr} {t : TT} (h : PT X c t) : PTs X [c] t := fun pins s σ H Q I hw => wpAny_tests_one (h pins s σ H Q I hw)
end

theorem thnF {α : Type} {t : Sem α} {Q Q' : α → Shared → Prop} {M : Model} {A : Around} {E : Value → Shared → Prop} {s : Shared} (h : wpAny M A t Q (fun _ _ => False) s) (hQ : ∀ a s, Q a s → Q' a s) : wpAny M A t Q' E s := wpAny_mono h hQ fun _ _ z => False.elim z

/-- the loop of a list comprehension's block, the target of any form (codeAny_compLoop_tests asks a target that no tuple goes to; statement and proof follow it, PyProof/CompMap.lean:41-61, with the step letOwnedTupleGo kept) -/
theorem compLoop_any {prog : Program} {w : World} {A : Around} {R : Result → Shared → Prop} {s : Shared} {elt target iter : Expr} {ifs : List Expr} {scope : Scope} {pos : Pos} {it acc : Value} {env : Env} (I : Nat → Shared → Prop)
    (turn : ∀ n s, I n s → wpAny (model prog w) A (pyNext it) (fun r s₁ => match r with
      | none => R (.ok .next) s₁
      | some v => wpAny (model prog w) A (letOwnedTupleGo target it v) (fun _ s₁' => wpAny (model prog w) A (assign target env v) (fun _ s₂ =>
          wpAny (model prog w) A (forIn ifs true fun c r => if r = true then do let ok ← isTrue c env (eval c env); pure (ForInStep.yield ok) else pure (ForInStep.yield r)) (fun ok s₃ =>
            if ok = true then wpAny (model prog w) A (eval elt env) (fun x s₄ =>
              wpAny (model prog w) A (call (.builtin "list.append") [acc, x]) (fun _ s₅ => ∃ m, m < n ∧ I m s₅) (notedBy (model prog w) A env fun e s' => R (.error e) s') s₄) (notedBy (model prog w) A env fun e s' => R (.error e) s') s₃
            else ∃ m, m < n ∧ I m s₃) (notedBy (model prog w) A env fun e s' => R (.error e) s') s₂) (notedBy (model prog w) A env fun e s' => R (.error e) s') s₁') (notedBy (model prog w) A env fun e s' => R (.error e) s') s₁) (notedBy (model prog w) A env fun e s' => R (.error e) s') s)
    (n : Nat) (h : I n s) :
    codeAny (model prog w) A (.compLoop (.ListComp elt [⟨target, iter, ifs, 0⟩] scope pos) 0 it acc env) R s := by
  refine codeAny_loop rfl I (fun n s hI => ?_) n h
  show wpAny _ A ((compTurn (.ListComp elt [⟨target, iter, ifs, 0⟩] scope pos) 0 it acc env).onRaise (fun x => do noteFrame x env; theTreesLotGoes x)) _ _ s
  refine wpAny_noted ?_
  rw [compTurn_list]
  refine wpAny_bind (wpAny_standAt (wpAny_bind (wpAny_mono (turn n s hI) (fun r s₁ h₁ => ?_) fun _ _ h' => h')))
  cases r with
  | none => exact wpAny_pure h₁
  | some v =>
    refine wpAny_bind (wpAny_mono h₁ (fun _ s₁' h₁' => ?_) fun _ _ h' => h')
    refine wpAny_bind (wpAny_mono h₁' (fun _ s₂ h₂ => wpAny_bind (wpAny_mono h₂ (fun ok s₃ h₃ => ?_) fun _ _ h' => h')) fun _ _ h' => h')
    cases ok with
    | false => exact wpAny_pure ⟨rfl, h₃⟩
    | true =>
      exact wpAny_bind (wpAny_bind (wpAny_mono h₃ (fun x s₄ h₄ => wpAny_bind (wpAny_mono h₄ (fun _ s₅ h₅ => wpAny_pure (wpAny_pure ⟨rfl, h₅⟩)) fun _ _ h' => h')) fun _ _ h' => h'))

section
variable {X : Cx}
/-- [elt for target in iter if ..]: D the new list; W by the turn and a measure, Nx what a turn is to reach -/
noncomputable def tLc (wi : TI) (g : TG) (tt : TT) (te : TE) (vs : List Nat) : TE := fun σ H Q => wi σ H fun J H1 => ∀ D, H1 D = none → ∃ W : Nat → Nat → Hp → Prop, (∃ m, W 0 m (upd H1 D (.lst []))) ∧ ∀ i m H, W i m H →
  (J.stop i H ∧ Q (.ref D) H) ∨ (J.go i H ∧ ∃ Nx : Hp → Prop, (∀ H', Nx H' → ∃ m', m' < m ∧ W (i + 1) m' H') ∧ ∀ x H', J.yld i H x H' → g x (wipe σ vs) H' fun σ2 H2 => wipe σ2 vs = wipe σ vs ∧ tt σ2 H2 fun b H3 =>
    if b = true then te σ2 H3 fun y H4 => ∃ acc, H4 D = some (.lst acc) ∧ acc.length < sizeLine ∧ Nx (upd H4 D (.lst (acc ++ [y]))) else Nx H3)
theorem lc_core {pins : List (Addr × Obj)} {s : Shared} {σ : St} {H : Hp} {Q : VK} {elt tg iter : Expr} {ifs : List Expr} {scope : Scope} {own : List (Str × Nat)} {pos pos' : Pos} {wi : TI} {g : TG} {tt : TT} {te : TE} {use : Option (Value → Sem Unit)} {Qf : Value → Shared → Prop}
    (hc : X.calm = true) (hN : X.N.Nodup) (I : Inv X pins σ H s) (hi : PI X tg iter wi) (ok : BlkOk X.N X.env.scope scope own)
    (hg : ∀ (s : Shared) (H : Hp) (C : Addr) (cl : List (Str × Addr)) (fp : List Addr), PG (X.blk s H scope (compEnvC scope cl C X.env) fp) tg g) (ht : ∀ (s : Shared) (H : Hp) (C : Addr) (cl : List (Str × Addr)) (fp : List Addr), PTs (X.blk s H scope (compEnvC scope cl C X.env) fp) ifs tt)
    (he : ∀ (s : Shared) (H : Hp) (C : Addr) (cl : List (Str × Addr)) (fp : List Addr), PE (X.blk s H scope (compEnvC scope cl C X.env) fp) elt te) (hs : ∀ x, foldedSetIterable iter X.env x = pure x)
    (h : tLc wi g tt te (own.map (·.2)) σ H Q)
    (hRR : ∀ D C s' m H', Inv X pins σ H' s' → Q (.ref D) H' → s'.heap.Ns C m → FpOk X pins H' C → compPost (model X.prog X.w) X.A X.xe use Qf (.ref D) C (.ok .next) s') :
    wpAny (model X.prog X.w) X.A (comprehension (.ListComp elt [⟨tg, iter, ifs, 0⟩] scope pos) scope X.env pos' (newList []) false (eval iter X.env) use) Qf X.xe s := by
  have hfree : ∀ y ∈ scope.names, y.2 = .free → ∃ c, X.env.cells.lookup y.1 = some c := fun y hy e => by
    rcases ok.free y hy e with k | k
    · exact I.ok.has _ (.inl k)
    · exact I.ok.has _ (.inr k)
  refine wpAny_comprehension_free (use := use) rfl hs (closure_ok hfree) ok.kind (fun y hy e => by rw [ok.uniq y hy, e])
    (thn (hi pins s σ H _ I h) fun xv s1 hx => thn hx fun itv s2 h2 => ?_)
  obtain ⟨it, fp, tn, J, H2, e, I2, T, st2, f2, q⟩ := h2
  subst e
  refine wpAny_newObj_type (newEnv_comp ?_) (by show 0 ≤ sizeLine; decide)
  generalize hD : s2.heap.objs.size = D
  have hDn : H2 D = none := I2.hok.fresh (Nat.le_of_eq hD)
  obtain ⟨W, ⟨m0, w0⟩, turn⟩ := q D hDn
  -- the new list
  generalize hs3 : ({ s2 with heap := s2.heap.push { cls := .type "list", data := .seq ([] : List Value).toArray } } : Shared) = s3
  have I3 : Inv X pins σ (upd H2 D (.lst [])) s3 := by
    rw [← hs3]
    refine I2.laid (t' := s2.toks) (fun b o e => Heap.get?_push_of_some _ e) (Nat.le_of_eq hD) ⟨Nat.zero_le _, [], 0, .nil, ?_⟩
    rw [← hD]
    exact Heap.get?_push_size _ rfl
  have h3 : s3.heap = s2.heap.push { cls := .type "list", data := .seq ([] : List Value).toArray } := by rw [← hs3]
  have sz : ∀ b ∈ fp, b < s2.heap.objs.size := fun b hb => by
    obtain ⟨o, e, _⟩ := T.obj _ _ st2 b hb
    exact Heap.lt_size e
  have f3 : ∀ b ∈ fp, FpOk X pins (upd H2 D (.lst [])) b ∧ b < s3.heap.objs.size := fun b hb => by
    have hlt := sz b hb
    refine ⟨⟨?_, (f2 b hb).2⟩, by rw [h3, Heap.size_push]; exact Nat.lt_succ_of_lt hlt⟩
    rw [upd_ne (by rw [← hD]; exact Nat.ne_of_lt hlt)]
    exact (f2 b hb).1
  have st3 : tn 0 s3.heap := T.keep _ _ _ st2 fun b _ o e => by rw [h3]; exact Heap.get?_push_of_some _ e
  have I4 := block_start I3 ok hN f3
  have pg := hg s3 (upd H2 D (.lst [])) s3.heap.objs.size (cellsFrom (s3.heap.objs.size + 1) scope.names (cloFrom X.env.cells scope.names [])) fp
  have pt := ht s3 (upd H2 D (.lst [])) s3.heap.objs.size (cellsFrom (s3.heap.objs.size + 1) scope.names (cloFrom X.env.cells scope.names [])) fp
  have pe := he s3 (upd H2 D (.lst [])) s3.heap.objs.size (cellsFrom (s3.heap.objs.size + 1) scope.names (cloFrom X.env.cells scope.names [])) fp
  show codeAny _ _ (.compStart (.ListComp elt [⟨tg, iter, ifs, 0⟩] scope pos) 0 (.ref it) (.ref D) (compEnvC scope (cellsFrom (s3.heap.objs.size + 1) scope.names (cloFrom X.env.cells scope.names [])) s3.heap.objs.size X.env)) (compPost (model X.prog X.w) X.A X.xe use Qf (.ref D) s3.heap.objs.size) { s3 with heap := pushCells (s3.heap.push { cls := .type "dict", data := .dict #[] }) scope.names }
  have nfp : ∀ b ∈ fp, (upd H2 D (.lst [])) b = none := fun b hb => (f3 b hb).1.1
  generalize hce : compEnvC scope (cellsFrom (s3.heap.objs.size + 1) scope.names (cloFrom X.env.cells scope.names [])) s3.heap.objs.size X.env = ce at I4 pg pt pe ⊢
  have cL : ce.locals = s3.heap.objs.size := by subst hce; rfl
  generalize hH3 : upd H2 D (.lst []) = H3 at I3 I4 pg pt pe w0 nfp f3
  generalize hs4 : ({ s3 with heap := pushCells (s3.heap.push { cls := .type "dict", data := .dict #[] }) scope.names } : Shared) = s4 at I4 ⊢
  have st4 : tn 0 s4.heap := T.keep _ _ _ st3 fun b _ o e => by rw [← hs4]; exact pushCells_keeps _ _ _ _ (Heap.get?_push_of_some _ e)
  have stat : ∀ {σ' : St} {H' : Hp} {s' : Shared}, Inv (X.blk s3 H3 scope ce fp) [] σ' H' s' → (∀ b ∈ fp, H' b = none) → ∀ b ∈ fp, FpOk (X.blk s3 H3 scope ce fp) [] H' b := fun {σ' H' s'} I' hn b hb =>
    ⟨hn b hb, (I'.ok.exf b hb).1, I'.ok.exfs b hb, .inl hb, fun x c e => (I'.ok.exf b hb).2 x c e, fun p hp => absurd (show p ∈ ([] : List (Addr × Obj)) ++ [] from hp) (by simp)⟩
  have loop : codeAny (model X.prog X.w) X.A (.compLoop (.ListComp elt [⟨tg, iter, ifs, 0⟩] scope pos) 0 (.ref it) (.ref D) ce) (compPost (model X.prog X.w) X.A X.xe use Qf (.ref D) s3.heap.objs.size) s4 := by
    refine compLoop_any (fun n s' => ∃ i H', Inv (X.blk s3 H3 scope ce fp) [] (wipe σ (own.map (·.2))) H' s' ∧ tn i s'.heap ∧ (∀ b ∈ fp, H' b = none) ∧ W i n H') ?_ m0 ⟨0, H3, I4, st4, nfp, w0⟩
    rintro n s5 ⟨i, H5, I5, st5, n5, w5⟩
    rcases turn i n H5 w5 with ⟨stop, qq⟩ | ⟨go, Nx, hNx, step⟩
    · have td := T.done (X.blk s3 H3 scope ce fp) rfl rfl rfl hc i [] s5 _ H5 (fun _ _ => False) I5 (stat I5 n5) st5 stop
      refine thnF td fun r s6 ⟨hr, I6⟩ => ?_
      subst hr
      -- back in the def's context
      have I7 : Inv X pins σ H5 s6 := I3.call' (ch := fp) I6.os I6.base I6.hok I6.bare fun b hb => ⟨(f3 b hb).1.2.2.2.1, (f3 b hb).1.2.1, (f3 b hb).1.2.2.2.2.1, (f3 b hb).1.2.2.2.2.2⟩
      have nC : H5 s3.heap.objs.size = none := by
        have z : H5 ce.locals = none := I6.free
        rw [cL] at z
        exact z
      obtain ⟨m, hn, _⟩ := I6.loc
      have hn : s6.heap.Ns ce.locals m := hn
      rw [cL] at hn
      exact hRR D s3.heap.objs.size s6 m H5 I7 qq hn (I3.fpOk (Nat.le_refl _) nC)
    · have ti := T.item (X.blk s3 H3 scope ce fp) rfl rfl rfl hc i [] s5 _ H5 (fun _ _ => False) I5 (stat I5 n5) st5 go
      refine thnF ti fun r s6 ⟨u, hr, h6⟩ => ?_
      subst hr
      refine thnF h6 fun _ s7 ⟨x, H7, I7, r7, y7, st7, n7⟩ => ?_
      have I7' := I7.pinned (stat I7 n7) (T.obj _ _ st7)
      refine thnF (pg _ s7 _ H7 x u _ I7' r7 (step x H7 y7)) fun _ s8 ⟨σ8, H8, I8, hw8, q8⟩ => ?_
      refine thnF (pt _ s8 σ8 H8 _ I8 q8) fun b s9 ⟨H9, I9, q9⟩ => ?_
      -- the turn's end
      have fin : ∀ {s' : Shared} {H' : Hp}, Inv (X.blk s3 H3 scope ce fp) ([] ++ pinsAt fp s7.heap) σ8 H' s' → Nx H' → ∃ m, m < n ∧ ∃ i H', Inv (X.blk s3 H3 scope ce fp) [] (wipe σ (own.map (·.2))) H' s' ∧ tn i s'.heap ∧ (∀ b ∈ fp, H' b = none) ∧ W i m H' := fun {s' H'} I' nx => by
        obtain ⟨m', hm, w'⟩ := hNx H' nx
        have pin' : ∀ b ∈ fp, ∀ o, s7.heap.get? b = some o → s'.heap.get? b = some o ∧ H' b = none := fun b hb o e =>
          let z := I'.pin (b, o) (List.mem_append_right _ (List.mem_append_right _ (mem_pinsAt hb e)))
          ⟨z.1, z.2.1⟩
        have hl : (wipe σ (own.map (·.2))).length = σ8.length := by rw [← hw8, wipe_length]
        refine ⟨m', hm, i + 1, H', (I'.unpinned (pins := [])).weak hl (fun j v e => ?_), T.keep _ _ _ st7 fun b hb o e => (pin' b hb o e).1, fun b hb => ?_, w'⟩
        · rw [← hw8] at e
          exact (wipe_some e).1
        · obtain ⟨o, e, _⟩ := T.obj _ _ st7 b hb
          exact (pin' b hb o e).2
      cases b with
      | false =>
        simp only [Bool.false_eq_true, if_false] at q9 ⊢
        exact fin I9 q9
      | true =>
        simp only [if_true] at q9 ⊢
        refine thnF (pe _ s9 σ8 H9 _ I9 q9) fun z s10 ⟨yv, H10, I10, r10, acc, hD10, hz10, nx⟩ => ?_
        exact app_ok (X := X.blk s3 H3 scope ce fp) I10 hD10 hz10 r10 fun s11 I11 => fin I11 nx
  exact codeAny_compStart_list loop (T.self X.A 0 _ _ _ st4 loop)
/-- as a value -/
theorem pe_lc {elt tg iter : Expr} {ifs : List Expr} {scope : Scope} {own : List (Str × Nat)} {pos : Pos} {wi : TI} {g : TG} {tt : TT} {te : TE} (hc : X.calm = true) (hN : X.N.Nodup) (hi : PI X tg iter wi) (ok : BlkOk X.N X.env.scope scope own)
    (hg : ∀ (s : Shared) (H : Hp) (C : Addr) (cl : List (Str × Addr)) (fp : List Addr), PG (X.blk s H scope (compEnvC scope cl C X.env) fp) tg g) (ht : ∀ (s : Shared) (H : Hp) (C : Addr) (cl : List (Str × Addr)) (fp : List Addr), PTs (X.blk s H scope (compEnvC scope cl C X.env) fp) ifs tt)
    (he : ∀ (s : Shared) (H : Hp) (C : Addr) (cl : List (Str × Addr)) (fp : List Addr), PE (X.blk s H scope (compEnvC scope cl C X.env) fp) elt te) (hs : ∀ x, foldedSetIterable iter X.env x = pure x := by intro _; rfl) :
    PE X (.ListComp elt [⟨tg, iter, ifs, 0⟩] scope pos) (tLc wi g tt te (own.map (·.2))) := by
  intro pins s σ H Q I h
  rw [eval_ListComp]
  refine lc_core hc hN I hi ok hg ht he hs h fun D C s' m H' I' q hn f => ⟨m, hn, fun h'' sb => ?_⟩
  obtain ⟨f0, f1, f2, f3, f4, f5⟩ := f
  exact ⟨.ref D, H', I'.turned (t' := s'.toks) (fun b o hb e => (sb.2 b hb).trans e) f0 f1 f3 f4 f5, rfl, q⟩
/-- name = [..] on one line, the name a local -/
theorem ps_setLc {i : Nat} {y : Str} {py : Pos} {elt tg iter : Expr} {ifs : List Expr} {scope : Scope} {own : List (Str × Nat)} {pos spos : Pos} {wi : TI} {g : TG} {tt : TT} {te : TE} (hc : X.calm = true) (hN : X.N.Nodup) (hy : X.N[i]? = some y) (hyl : X.env.scope.names.lookup y = some .local)
    (hsw : swapsWith (.ListComp elt [⟨tg, iter, ifs, 0⟩] scope pos) (some (.Name y py)) spos.line X.env = pure true) (hi : PI X tg iter wi) (ok : BlkOk X.N X.env.scope scope own)
    (hg : ∀ (s : Shared) (H : Hp) (C : Addr) (cl : List (Str × Addr)) (fp : List Addr), PG (X.blk s H scope (compEnvC scope cl C X.env) fp) tg g) (ht : ∀ (s : Shared) (H : Hp) (C : Addr) (cl : List (Str × Addr)) (fp : List Addr), PTs (X.blk s H scope (compEnvC scope cl C X.env) fp) ifs tt)
    (he : ∀ (s : Shared) (H : Hp) (C : Addr) (cl : List (Str × Addr)) (fp : List Addr), PE (X.blk s H scope (compEnvC scope cl C X.env) fp) elt te) (hs : ∀ x, foldedSetIterable iter X.env x = pure x := by intro _; rfl) :
    PS X (.Assign [.Name y py] (.ListComp elt [⟨tg, iter, ifs, 0⟩] scope pos) spos) (tAsg (tLc wi g tt te (own.map (·.2))) (gName i)) := by
  intro pins s σ H D I h
  rw [exec_Assign_Name_used _ _ _ _ hsw]
  refine wpAny_bind (wpAny_standAt (wpAny_bind ?_))
  show wpAny _ X.A (do let _ ← comprehension (.ListComp elt [⟨tg, iter, ifs, 0⟩] scope pos) scope X.env (firstIterPos [⟨tg, iter, ifs, 0⟩] pos) (newList []) false (eval iter X.env) (some (assign (.Name y py) X.env))) _ _ s
  have h : tLc wi g tt te (own.map (·.2)) σ H (fun x H1 => gName i x σ H1 D.nx) := h
  refine wpAny_bind (thn (lc_core (Qf := fun _ s' => SP X pins D .next s') hc hN I hi ok hg ht he hs h fun L C s' m H' I' q hn f => ?_) fun _ s' hq => wpAny_pure (wpAny_pure hq))
  show wpAny _ _ (assign (.Name y py) X.env (.ref L)) _ _ _
  refine wpAny_assign_Name (store_ok2 (v := V.ref L) I' hN hy (.inl hyl) rfl (fun s2 I2 ⟨a, sb, ha⟩ => ?_) (.inr hyl))
  obtain ⟨f0, f1, f2, f3, f4, f5⟩ := f
  have haC : C ≠ a := by
    rcases ha with z | z
    · rw [z]; exact f1
    · exact fun e => f4 y a z e.symm
  refine ⟨m, hn.sameBut sb haC, fun h3 sb3 => ?_⟩
  exact ⟨_, H', I2.turned (t' := s2.toks) (fun b o hb e => (sb3.2 b hb).trans e) f0 f1 f3 f4 f5, q⟩
theorem sw_true {elt : Expr} {gs : List Comprehension} {scope : Scope} {pos py : Pos} {y : Str} {l : Nat} {env : Env} (hk : env.scope.kind = .function) (hy : env.scope.names.lookup y = some .local) (hl : (py.line == pos.line) = true)
    (ha : (scope.names.any fun (n, k) => n == y && (k == .local || k == .cell)) = false) : swapsWith (.ListComp elt gs scope pos) (some (.Name y py)) l env = pure true := by
  have ky : env.kindOf y = some .local := hy
  have hb : env.blockKind = .function := by unfold Env.blockKind; rw [hk]; rfl
  unfold swapsWith
  simp only [hb, ky, ha, Expr.pos, hl]
  rfl
end

/-- over a range: Pv by the turn and the heap (the new list at D within) -/
theorem lc_range {lo : Int} {n : Nat} {g : TG} {tt : TT} {te : TE} {vs : List Nat} {σ : St} {H1 : Hp} {D : Addr} {Qd : Hp → Prop} (Pv : Nat → Hp → Prop) (h0 : Pv 0 (upd H1 D (.lst [])))
    (hs : ∀ i H, i < n → Pv i H → g (.int (lo + i)) (wipe σ vs) H fun σ2 H2 => wipe σ2 vs = wipe σ vs ∧ tt σ2 H2 fun b H3 =>
      if b = true then te σ2 H3 fun y H4 => ∃ acc, H4 D = some (.lst acc) ∧ acc.length < sizeLine ∧ Pv (i + 1) (upd H4 D (.lst (acc ++ [y]))) else Pv (i + 1) H3) (hd : ∀ H, Pv n H → Qd H) :
    ∃ W : Nat → Nat → Hp → Prop, (∃ m, W 0 m (upd H1 D (.lst []))) ∧ ∀ i m H, W i m H →
      ((Itr lo n).stop i H ∧ Qd H) ∨ ((Itr lo n).go i H ∧ ∃ Nx : Hp → Prop, (∀ H', Nx H' → ∃ m', m' < m ∧ W (i + 1) m' H') ∧ ∀ x H', (Itr lo n).yld i H x H' → g x (wipe σ vs) H' fun σ2 H2 => wipe σ2 vs = wipe σ vs ∧ tt σ2 H2 fun b H3 =>
        if b = true then te σ2 H3 fun y H4 => ∃ acc, H4 D = some (.lst acc) ∧ acc.length < sizeLine ∧ Nx (upd H4 D (.lst (acc ++ [y]))) else Nx H3) := by
  refine ⟨fun i m H => m = n - i ∧ i ≤ n ∧ Pv i H, ⟨n, by simp, Nat.zero_le _, h0⟩, ?_⟩
  rintro i m H ⟨rfl, hi, p⟩
  by_cases hlt : i < n
  · refine .inr ⟨hlt, Pv (i + 1), fun H' p' => ⟨n - (i + 1), by omega, rfl, hlt, p'⟩, fun x H' y => ?_⟩
    obtain ⟨e, y⟩ := y
    subst e y
    exact hs i _ hlt p
  · have e : i = n := by omega
    subst e
    exact .inl ⟨Nat.le_refl _, hd H p⟩
/-- over a list that the block leaves as it is -/
theorem lc_list {K : PySem.W.Frag} {a : Addr} {xs : List V} {g : TG} {tt : TT} {te : TE} {vs : List Nat} {σ : St} {H1 : Hp} {D : Addr} {Qd : Hp → Prop} (Pv : Nat → Hp → Prop) (h0 : Pv 0 (upd H1 D (.lst []))) (hl : ∀ i H, i ≤ xs.length → Pv i H → SqL K H a xs)
    (hs : ∀ i x H, xs[i]? = some x → Pv i H → g x (wipe σ vs) H fun σ2 H2 => wipe σ2 vs = wipe σ vs ∧ tt σ2 H2 fun b H3 =>
      if b = true then te σ2 H3 fun y H4 => ∃ acc, H4 D = some (.lst acc) ∧ acc.length < sizeLine ∧ Pv (i + 1) (upd H4 D (.lst (acc ++ [y]))) else Pv (i + 1) H3) (hd : ∀ H, Pv xs.length H → Qd H) :
    ∃ W : Nat → Nat → Hp → Prop, (∃ m, W 0 m (upd H1 D (.lst []))) ∧ ∀ i m H, W i m H →
      ((Itl K a).stop i H ∧ Qd H) ∨ ((Itl K a).go i H ∧ ∃ Nx : Hp → Prop, (∀ H', Nx H' → ∃ m', m' < m ∧ W (i + 1) m' H') ∧ ∀ x H', (Itl K a).yld i H x H' → g x (wipe σ vs) H' fun σ2 H2 => wipe σ2 vs = wipe σ vs ∧ tt σ2 H2 fun b H3 =>
        if b = true then te σ2 H3 fun y H4 => ∃ acc, H4 D = some (.lst acc) ∧ acc.length < sizeLine ∧ Nx (upd H4 D (.lst (acc ++ [y]))) else Nx H3) := by
  refine ⟨fun i m H => m = xs.length - i ∧ i ≤ xs.length ∧ Pv i H, ⟨xs.length, by simp, Nat.zero_le _, h0⟩, ?_⟩
  rintro i m H ⟨rfl, hi, p⟩
  have q := hl i H hi p
  by_cases hlt : i < xs.length
  · refine .inr ⟨⟨xs, xs[i], q, by simp [hlt]⟩, Pv (i + 1), fun H' p' => ⟨xs.length - (i + 1), by omega, rfl, hlt, p'⟩, fun x H' y => ?_⟩
    obtain ⟨e, y⟩ := y
    subst e
    exact hs i x _ (y xs q) p
  · have e : i = xs.length := by omega
    subst e
    exact .inl ⟨⟨xs, q, Nat.le_refl _⟩, hd H p⟩
noncomputable def blkC (N : List Str) (sc scope : Scope) (own : List (Str × Nat)) : Bool :=
  (match scope.kind with | .function => true | _ => false) && (scope.names.all fun y => decide (scope.names.lookup y.1 = some y.2)) && (own.all fun p => decide (N[p.2]? = some p.1)) &&
    (scope.names.all fun y => match y.2 with
      | .free => (match sc.names.lookup y.1 with | some .cell => true | some .free => true | _ => false)
      | .local => decide (y.1 ∈ own.map (·.1)) || decide (y.1 ∉ N)
      | .cell => decide (y.1 ∈ own.map (·.1)) || decide (y.1 ∉ N)
      | _ => true)
theorem blkOk_by {N : List Str} {sc scope : Scope} {own : List (Str × Nat)} (h : blkC N sc scope own = true) : BlkOk N sc scope own := by
  unfold blkC at h
  simp only [Bool.and_eq_true, List.all_eq_true, decide_eq_true_eq] at h
  obtain ⟨⟨⟨h1, h2⟩, h3⟩, h4⟩ := h
  refine ⟨?_, h2, h3, fun y hy e => ?_, fun y hy e => ?_⟩
  · split at h1
    · assumption
    · cases h1
  · have q := h4 y hy
    simp only [e] at q
    split at q <;> first | exact .inl (by assumption) | exact .inr (by assumption) | cases q
  · have q := h4 y hy
    rcases e with e | e <;> (simp only [e, Bool.or_eq_true, decide_eq_true_eq] at q; exact q)
end L2

namespace L2
open PySem PySem.Spec PyProof.Rows

section
variable {prog : Program} {w : World} {A : Around} {R : Result → Shared → Prop} {s : Shared} {elt t0 i0 t1 i1 : Expr} {ifs0 ifs1 : List Expr} {scope : Scope} {pos : Pos} {it acc : Value} {env : Env}
end

section
variable {X : Cx}
end
end L2

namespace L2
open PySem PySem.Spec PyProof.Rows

section
variable {κ : Type} [DecidableEq κ]
end


section
variable {P : Program} {w : World} {H : Hp} {h : Heap} {a : Addr}
end

section
variable {X : Cx} {pins : List (Addr × Obj)} {σ : St} {H : Hp} {s : Shared} {a : Addr} {y v : V} {u r : Value} {o : Option V} {A : Around} {E : Value → Shared → Prop}

end

section
variable {X : Cx} {pins : List (Addr × Obj)} {σ : St} {H : Hp} {s : Shared} {a : Addr} {kvs : List (Key × V)} {k : Key} {u : Value} {A : Around} {E : Value → Shared → Prop}
end


section
variable {X : Cx} {o i e value : Expr} {pos pos' tpos : Pos} {td ty tv : TE}
end


section
variable {X : Cx} {pos : Pos}
end

section
variable {X : Cx} {pins : List (Addr × Obj)} {σ : St} {H : Hp} {s : Shared} {a : Addr} {y d : V} {u r : Value} {o : Option V} {A : Around} {E : Value → Shared → Prop}
end

section
variable {X : Cx} {o e f : Expr} {apos cpos : Pos} {td ty tx : TE}
end

section
variable {X : Cx} {pins : List (Addr × Obj)} {σ : St} {H : Hp} {s : Shared} {a : Addr} {kvs : List (Key × V)} {A : Around} {E : Value → Shared → Prop}
end


section
variable {X : Cx} {pins : List (Addr × Obj)} {σ : St} {H : Hp} {s : Shared} {a : Addr} {y : V} {u : Value} {A : Around} {E : Value → Shared → Prop}
end
end L2

namespace L2
open PySem PySem.Spec PyProof.Rows

section
variable {prog : Program} {w : World} {A : Around} {E : Value → Shared → Prop}
end

section
variable {X : Cx}
end
end L2

namespace L2
open PySem PySem.Spec PyProof.Rows

section
variable {X : Cx} {pins : List (Addr × Obj)} {σ : St} {H : Hp} {s : Shared} {h' : Heap}
end
section
variable {X : Cx}
end

section
variable {X : Cx} {tg : Expr}
end
section
variable {X : Cx} {tg : Expr}
end

section
variable {prog : Program} {w : World} {A : Around} {E : Value → Shared → Prop} {s : Shared}
end

section
variable {X : Cx} {pins : List (Addr × Obj)} {σ : St} {H : Hp} {s : Shared} {d : Addr} {o : Obj}
end

section
variable {P : Program} {w : World} {K : PySem.W.Frag} {tg : Expr} {d : Addr} {o : Obj} {es : Array DictEntry} {ep : Nat}
end

section
variable {X : Cx} {tg e : Expr} {td : TE} {apos cpos : Pos}
end

end L2

section 
namespace Bits
open PySem PyProof.Rows

end Bits
end 

section 
namespace TL
open PySem PySem.Builtin PySem.Builtin.Str PySem.StrLaws

/-- S stands at the head of l -/
noncomputable def pre (S l : List Nat) : Bool := l.take S.length == S
/-- what stands before the first S, and behind it -/
noncomputable def par (S : List Nat) : List Nat → List Nat → Option (List Nat × List Nat)
  | _, [] => none
  | acc, c :: r => if pre S (c :: r) = true then some (acc, (c :: r).drop S.length) else par S (acc ++ [c]) r

end TL
end 

namespace L2
open PySem PySem.Spec PyProof.Rows

section
variable {X : Cx} {pins : List (Addr × Obj)} {σ : St} {H : Hp} {s : Shared} {Q : VK}
end

section
variable {X : Cx}

end

section
variable {X : Cx} {o e : Expr} {to te : TE}
end
end L2

namespace L2
open PySem PySem.Spec PyProof.Rows

section
variable {X : Cx}
end

end L2

namespace Att
open PySem PySem.W PySem.Calls PyProof.Rows

section
variable {prog : Program} {w : World} {A : Around} {E : Value → Shared → Prop} {s : Shared} {K : Frag}

end
end Att

namespace L2
open PySem PySem.Spec PyProof.Rows

end L2

namespace L2
open PySem PySem.Spec PyProof.Rows

end L2


namespace L2
open PySem PySem.Spec PyProof.Rows

/-- the j-th statement of a class's body -/
noncomputable def inClass (s : Stmt) (j : Nat) : Stmt := match s with
  | .ClassDef _ _ _ body _ _ _ _ _ _ _ => body.getD j (.Pass ⟨0, 0, 0, 0⟩)
  | _ => .Pass ⟨0, 0, 0, 0⟩
noncomputable def defArgs (s : Stmt) : Arguments := match s with
  | .FunctionDef _ a _ _ _ _ _ _ _ _ => a
  | _ => { posonlyargs := [], args := [], vararg := none, kwonlyargs := [], kw_defaults := [], kwarg := none, defaults := [] }
noncomputable def defBody (s : Stmt) : List Stmt := match s with
  | .FunctionDef _ _ b _ _ _ _ _ _ _ => b
  | _ => []
noncomputable def defScope (s : Stmt) : Scope := match s with
  | .FunctionDef _ _ _ _ _ _ sc _ _ _ => sc
  | _ => { kind := .function, names := [], isGenerator := false, isCoroutine := false }

noncomputable abbrev CX0 : CXT := fun _ _ _ _ _ _ => False
noncomputable abbrev E0 : XK := fun _ _ _ => False
theorem pass0 {X : Cx} : Passes CX0 X E0 := fun _ _ _ _ _ _ _ h => h.elim

structure Fun (K : PySem.W.Frag) (x qual : Str) (st : Stmt) (f : Addr) (fd : FuncData) : Prop where
  ex : ∃ (oc : Value) (od : Option Addr) (kV doc pm : Value) (an : Option Addr) (cdv ct : Value) (osl : Array (Option Value)),
    fd = PySem.W.fnOf x qual (defArgs st) (defBody st) (defScope st) .none kV doc pm an cdv ct ∧ K.lookup f = some ⟨oc, od, .func fd, osl⟩ ∧ PySem.W.codeIn K cdv qual = true
  kp : PySem.W.keepIn K (.ref f) = true
section
variable {P : Program} {w : World} {K : PySem.W.Frag} {mg : Str → Option Value} {base : Heap}
/-- THE RULE for a def: its body as a term of rules, and the reading of that term -/
theorem Fun.ok {x qual : Str} {st : Stmt} {f : Addr} {fd : FuncData} {N ps : List Str} {k : Nat} {sp : Sp} (F : Fun K x qual st f fd) (S : FnScope N ps (defScope st)) (len : ∀ vs H Q E, sp vs H Q E → vs.length = ps.length)
    (hbody : ∀ (cdv : Value) (A : Around) (outer : List Env) (s : Shared) (H : Hp) (vs : List V) (Q : VK) (E : XK), Room k (A.deeper (envOfC qual (defScope st) s.heap.objs.size f cdv)) → sp vs H Q E →
      ∃ t, PSs (cxOf CX0 P w K mg base N qual (defScope st) f cdv A outer s H E).nox (defBody st) t ∧ t { nx := fun _ H' => Q .non H', rt := Q } (start N vs) H) : FnOk P w K mg base CX0 (k + 1) f fd ps sp := by
  obtain ⟨oc, od, kV, doc, pm, an, cdv, ct, osl, rfl, lk, hcd⟩ := F.ex
  refine fn_of lk hcd S len fun A outer s H vs Q E hr hsp => ?_
  obtain ⟨t, h, q⟩ := hbody cdv A outer s H vs Q E hr hsp
  exact ⟨t, h.nox, q⟩
/-- how its arguments bind (no defaults): h is «fun _ _ _ _ _ _ us hl => match us, hl with | [_, _], _ => rfl», one _ a parameter -/
theorem Fun.binds {x qual : Str} {st : Stmt} {f : Addr} {fd : FuncData} {ps : List Str} (F : Fun K x qual st f fd)
    (h : ∀ (kV doc pm : Value) (an : Option Addr) (cdv ct : Value) (us : List Value), us.length = ps.length → bindArgs (PySem.W.fnOf x qual (defArgs st) (defBody st) (defScope st) .none kV doc pm an cdv ct) ⟨us, []⟩ = pure (ps.zip us)) : Binds K fd ps [] := by
  obtain ⟨oc, od, kV, doc, pm, an, cdv, ct, osl, rfl, lk, hcd⟩ := F.ex
  exact .all (h kV doc pm an cdv ct)
theorem fun_mk {x qual : Str} {st : Stmt} {f : Addr} {oc : Value} {od an : Option Addr} {osl : Array (Option Value)} {kV doc pm cdv ct : Value} (l : K.lookup f = some ⟨oc, od, .func (PySem.W.fnOf x qual (defArgs st) (defBody st) (defScope st) .none kV doc pm an cdv ct), osl⟩)
    (c : PySem.W.codeIn K cdv qual = true) (k : PySem.W.keepIn K (.ref f) = true) : Fun K x qual st f (PySem.W.fnOf x qual (defArgs st) (defBody st) (defScope st) .none kV doc pm an cdv ct) := ⟨⟨oc, od, kV, doc, pm, an, cdv, ct, osl, rfl, l, c⟩, k⟩
end
section
variable {X : Cx}
theorem pv (i : Nat) {x : Str} {pos : Pos} (hN : X.N[i]? = some x := by rfl) (hv : Vis X.env.scope x := by first | exact Or.inl rfl | exact Or.inr (Or.inl rfl) | exact Or.inr (Or.inr rfl)) (hd : (x == ("__debug__" : Str)) = false := by decide)
    (hcd : (x == ("__classdict__" : Str)) = false := by decide) : PE X (.Name x pos) (tVar i) := pe_var hN hv hd hcd
end

theorem iteF {A B : Prop} (h : B) : if false = true then A else B := by
  rw [if_neg Bool.false_ne_true]
  exact h
theorem iteT {A B : Prop} (h : A) : if true = true then A else B := by
  rw [if_pos rfl]
  exact h
theorem iteNS {c A B : Prop} [Decidable c] (hc : c) (h : B) : if (!decide c) = true then A else B := by
  rw [decide_eq_true hc]
  exact iteF h

/-- all that was tracked is as it was -/
noncomputable def Same (H H' : Hp) : Prop := ∀ b o, H b = some o → H' b = some o
theorem Same.refl (H : Hp) : Same H H := fun _ _ h => h
theorem Same.trans {H H1 H2 : Hp} (a : Same H H1) (b : Same H1 H2) : Same H H2 := fun c o h => b c o (a c o h)
theorem Same.free {H H' : Hp} (e : Same H H') {l : Addr} (h : H' l = Option.none) : H l = Option.none := by
  cases q : H l with
  | none => rfl
  | some o =>
    rw [e l o q] at h
    cases h
theorem Same.seq {K : PySem.W.Frag} {H H' : Hp} {a : Addr} {xs : List V} (e : Same H H') (h : SqL K H a xs) : SqL K H' a xs := by
  rcases h with (h | ⟨o, h⟩) | h
  · exact .inl (.inl (e _ _ h))
  · exact .inl (.inr ⟨o, e _ _ h⟩)
  · exact .inr h

section
variable {κ : Type} [DecidableEq κ]
end
theorem at_of {xs : List V} {z : Int} {j : Nat} {v : V} (e : z = (j : Int)) (h : xs[j]? = some v) : atI xs z = some v := by
  rw [e]
  exact atI_nat h
theorem nd_ix {α : Type} {l : List α} (hN : l.Nodup) {i j : Nat} {x : α} (a : l[i]? = some x) (b : l[j]? = some x) : i = j := by
  obtain ⟨h1, e1⟩ := List.getElem?_eq_some_iff.mp a
  obtain ⟨h2, e2⟩ := List.getElem?_eq_some_iff.mp b
  exact (List.getElem_inj hN).mp (e1.trans e2.symm)
end L2

end
section
set_option Elab.async false
set_option linter.all false
set_option maxRecDepth 100000
set_option maxHeartbeats 2000000
namespace L2
open PySem PySem.Spec PyProof.Rows
open PySem.W (WData Codec OpenSpec Well WellAll ReadsW ReadsAllW)
mutual
/-- x stands for the datum d, lists and tuples all the way -/
inductive Dw (K : PySem.W.Frag) (H : Hp) : V → WData → Prop
  | non : Dw K H .non .none
  | bl (b : Bool) : Dw K H (.bl b) (.bool b)
  | int (i : Int) : Dw K H (.int i) (.int i)
  | str (x : Str) : Dw K H (.str x) (.str x)
  | byt (b : Array UInt8) : Dw K H (.byt b) (.bytes b.toList)
  | lst {a : Addr} {xs : List V} {ds : List WData} : SqL K H a xs → DwAll K H xs ds → Dw K H (.ref a) (.list ds)
  | tup {a : Addr} {xs : List V} {ds : List WData} : SqT K H a xs → DwAll K H xs ds → Dw K H (.ref a) (.tuple ds)
inductive DwAll (K : PySem.W.Frag) (H : Hp) : List V → List WData → Prop
  | nil : DwAll K H [] []
  | cons {v : V} {vs : List V} {d : WData} {ds : List WData} : Dw K H v d → DwAll K H vs ds → DwAll K H (v :: vs) (d :: ds)
end
theorem dw_ints {K : PySem.W.Frag} {H : Hp} : ∀ ns : List Int, DwAll K H (ns.map V.int) (ns.map WData.int)
  | [] => .nil
  | n :: r => .cons (.int n) (dw_ints r)
theorem ints_dw {K : PySem.W.Frag} {H : Hp} : ∀ (ns : List Int) (xs : List V), DwAll K H xs (ns.map WData.int) → xs = ns.map V.int
  | [], xs, h => by
    cases h
    rfl
  | n :: r, xs, h => by
    cases h with
    | cons h1 h2 =>
      cases h1
      rw [ints_dw r _ h2] <;> rfl
section
variable {P : Program} {w : World} {K : PySem.W.Frag} {H : Hp} {h : Heap} {R : PySem.W.WRecords} {cl : Str → Option Addr}
theorem sqL_at {a : Addr} {xs : List V} (hok : HOk P w H h) (KX : K.In h) (q : SqL K H a xs) : ∃ (its : List Value) (o : Obj) (n : Nat), Vals xs its ∧ h.get? a = some o ∧ o.cls = .type "list" ∧ o.data = .seq its.toArray n := by
  rcases q with q | ⟨o, its, n, e, hc, _, hd, _, hv⟩
  · obtain ⟨_, its, n, hv, e⟩ := (show ObjOk P w H h a (.lst xs) from q.ok hok)
    exact ⟨its, _, n, hv, e, rfl, rfl⟩
  · exact ⟨its.toList, o, n, hv, KX _ _ e, hc, by simp [hd]⟩
theorem sqT_at {a : Addr} {xs : List V} (hok : HOk P w H h) (KX : K.In h) (q : SqT K H a xs) : ∃ (its : List Value) (o : Obj) (n : Nat), Vals xs its ∧ h.get? a = some o ∧ o.cls = .type "tuple" ∧ o.data = .seq its.toArray n := by
  rcases q with q | ⟨o, its, n, e, hc, hd, _, hv⟩
  · obtain ⟨_, its, hv, o, e, hc, n, hd⟩ := (show ObjOk P w H h a (.tup xs) from q.ok hok)
    exact ⟨its, o, n, hv, e, hc, hd⟩
  · exact ⟨its.toList, o, n, hv, KX _ _ e, hc, by simp [hd]⟩
mutual
theorem Dw.reads (hok : HOk P w H h) (KX : K.In h) : ∀ (d : WData) (v : V) (u : Value), Dw K H v d → RelV v u → ∃ as, ReadsW R cl h u d as
  | .none, _, _, x, r => by
    cases x
    cases r
    exact ⟨_, ReadsW.none⟩
  | .bool b, _, _, x, r => by
    cases x
    cases r
    exact ⟨_, ReadsW.bool b⟩
  | .int i, _, _, x, r => by
    cases x
    obtain ⟨t, rfl⟩ := r
    exact ⟨_, ReadsW.int i t⟩
  | .str s, _, _, x, r => by
    cases x
    obtain ⟨t, rfl⟩ := r
    exact ⟨_, ReadsW.str s t⟩
  | .bytes b, _, _, x, r => by
    cases x
    obtain ⟨t, rfl⟩ := r
    exact ⟨_, ReadsW.bytes _ t⟩
  | .list ds, _, _, x, r => by
    cases x with
    | lst hs ha =>
      cases r
      obtain ⟨its, o, n, rv, ho, hc, hd⟩ := sqL_at hok KX hs
      obtain ⟨as, hr⟩ := Dw.readsAll hok KX ds _ its ha rv
      exact ⟨_, ReadsW.list ho hc hd hr⟩
  | .tuple ds, _, _, x, r => by
    cases x with
    | tup hs ha =>
      cases r
      obtain ⟨its, o, n, rv, ho, hc, hd⟩ := sqT_at hok KX hs
      obtain ⟨as, hr⟩ := Dw.readsAll hok KX ds _ its ha rv
      exact ⟨_, ReadsW.tuple ho hc hd hr⟩
  | .float _, _, _, x, _ => by cases x
  | .dict _, _, _, x, _ => by cases x
  | .bytearray _, _, _, x, _ => by cases x
  | .set _, _, _, x, _ => by cases x
  | .frozenset _, _, _, x, _ => by cases x
  | .obj _ _, _, _, x, _ => by cases x
theorem Dw.readsAll (hok : HOk P w H h) (KX : K.In h) : ∀ (ds : List WData) (vs : List V) (us : List Value), DwAll K H vs ds → Vals vs us → ∃ as, ReadsAllW R cl h us ds as
  | [], _, _, x, r => by
    cases x
    cases r
    exact ⟨_, ReadsAllW.nil⟩
  | d :: ds, _, _, x, r => by
    cases x with
    | cons h1 h2 =>
      cases r with
      | cons r1 r2 =>
        obtain ⟨as, q1⟩ := Dw.reads hok KX d _ _ h1 r1
        obtain ⟨bs, q2⟩ := Dw.readsAll hok KX ds _ _ h2 r2
        exact ⟨_, ReadsAllW.cons q1 q2⟩
end
end
mutual
/-- data that a codec tells -/
noncomputable def plW : WData → Bool
  | .none => true
  | .bool _ => true
  | .int _ => true
  | .str _ => true
  | .bytes _ => true
  | .list xs => plWs xs
  | .tuple xs => plWs xs
  | _ => false
noncomputable def plWs : List WData → Bool
  | [] => true
  | x :: r => plW x && plWs r
end
theorem plWs_map {α : Type} {f : α → WData} (h : ∀ a, plW (f a) = true) : ∀ l : List α, plWs (l.map f) = true
  | [] => rfl
  | x :: r => by
    show (plW (f x) && plWs (r.map f)) = true
    rw [h x, plWs_map h r] <;> rfl
theorem pl_enc : ∀ (c : Codec) (a : c.denote), plW (c.enc a) = true
  | .unit, _ => rfl
  | .bool, _ => rfl
  | .int _ _, _ => rfl
  | .nat _ _, _ => rfl
  | .u8, _ => rfl
  | .bytes _ _, _ => rfl
  | .text _ _ _ _, _ => rfl
  | .list _ _ c, a => plWs_map (fun x => pl_enc c x) a
  | .pair c d, a => by
    show (plW (c.enc a.1) && (plW (d.enc a.2) && true)) = true
    rw [pl_enc c a.1, pl_enc d a.2] <;> rfl
  | .triple c d e, a => by
    show (plW (c.enc a.1) && (plW (d.enc a.2.1) && (plW (e.enc a.2.2) && true))) = true
    rw [pl_enc c a.1, pl_enc d a.2.1, pl_enc e a.2.2] <;> rfl
  | .option c, none => rfl
  | .option c, some x => pl_enc c x
theorem pl_encAll : ∀ (cs : List Codec) (a : Codec.denoteAll cs), plWs (Codec.encAll cs a) = true
  | [], _ => rfl
  | c :: cs, a => by
    show (plW (c.enc a.1) && plWs (Codec.encAll cs a.2)) = true
    rw [pl_enc c a.1, pl_encAll cs a.2] <;> rfl
theorem weight_mem : ∀ {xs : List WData} {d : WData}, d ∈ xs → d.weight ≤ WData.weightAll xs
  | [], d, h => absurd h (by simp)
  | x :: r, d, h => by
    show d.weight ≤ x.weight + 1 + WData.weightAll r
    rcases List.mem_cons.mp h with e | m
    · rw [e]
      omega
    · have z := weight_mem m
      omega
noncomputable def toV : Value → V
  | .none => .non
  | .bool b => .bl b
  | .int i _ => .int i
  | .str x _ => .str x
  | .bytes b _ => .byt b
  | .ref a => .ref a
  | _ => .non
/-- a value of the arguments, its objects among A -/
noncomputable def OkU (A : List Addr) : Value → Prop
  | .none => True
  | .bool _ => True
  | .int _ _ => True
  | .str _ _ => True
  | .bytes _ _ => True
  | .ref a => a ∈ A
  | _ => False
theorem OkU.mono {A B : List Addr} (h : ∀ a ∈ A, a ∈ B) : ∀ {u : Value}, OkU A u → OkU B u := fun {u} x => by
  cases u with
  | ref a => exact h a x
  | none => trivial
  | bool b => trivial
  | int i t => trivial
  | str s t => trivial
  | bytes b t => trivial
  | _ => exact False.elim x
theorem relV_toV {A : List Addr} {u : Value} (x : OkU A u) : RelV (toV u) u := by
  cases u with
  | ref a => rfl
  | none => rfl
  | bool b => rfl
  | int i t => exact ⟨t, rfl⟩
  | str s t => exact ⟨t, rfl⟩
  | bytes b t => exact ⟨t, rfl⟩
  | _ => exact False.elim x
theorem vals_toV {A : List Addr} : ∀ {vs : List Value}, (∀ u ∈ vs, OkU A u) → Vals (vs.map toV) vs
  | [], _ => .nil
  | u :: r, h => .cons (relV_toV (h u (List.mem_cons_self ..))) (vals_toV fun x hx => h x (List.mem_cons_of_mem _ hx))
/-- an object of the arguments -/
noncomputable def ArgOb (h : Heap) (A : List Addr) (a : Addr) : Prop := ∃ vs : List Value, vs.length ≤ sizeLine ∧ (∀ u ∈ vs, OkU A u) ∧
  (h.get? a = some { cls := .type "list", data := .seq vs.toArray } ∨ h.get? a = some { cls := .type "tuple", data := .seq vs.toArray })
theorem ArgOb.mono {h : Heap} {A B : List Addr} {a : Addr} (k : ∀ a ∈ A, a ∈ B) (x : ArgOb h A a) : ArgOb h B a := by
  obtain ⟨vs, h1, h2, h3⟩ := x
  exact ⟨vs, h1, fun u hu => (h2 u hu).mono k, h3⟩
theorem wellAll_len {P : Params} {h : Heap} : ∀ {vs : List Value} {ds : List WData}, WellAll P h vs ds → vs.length = ds.length
  | _, _, .nil => rfl
  | _, _, .cons _ b => by
    show _ + 1 = _ + 1
    rw [wellAll_len b]
theorem well_list {P : Params} {h : Heap} {v : Value} {ds : List WData} (x : Well P h v (.list ds)) : ∃ (a : Addr) (vs : List Value), v = .ref a ∧ h.get? a = some { cls := .type "list", data := .seq vs.toArray } ∧ WellAll P h vs ds := by
  cases x with
  | list ho hall => exact ⟨_, _, rfl, ho, hall⟩
theorem well_tuple {P : Params} {h : Heap} {v : Value} {ds : List WData} (x : Well P h v (.tuple ds)) : ∃ (a : Addr) (vs : List Value), v = .ref a ∧ h.get? a = some { cls := .type "tuple", data := .seq vs.toArray } ∧ WellAll P h vs ds := by
  cases x with
  | tuple ho hall => exact ⟨_, _, rfl, ho, hall⟩
theorem well_cons {P : Params} {h : Heap} {us : List Value} {d : WData} {ds : List WData} (x : WellAll P h us (d :: ds)) : ∃ (v : Value) (vs : List Value), us = v :: vs ∧ Well P h v d ∧ WellAll P h vs ds := by
  cases x with
  | cons a b => exact ⟨_, _, rfl, a, b⟩
theorem line_of {n : Nat} (h : n ≤ 1048576) : n ≤ sizeLine := Nat.le_trans h (by decide)
section
variable {P : Params} {h : Heap}
mutual
theorem area_one : ∀ (d : WData) (v : Value), Well P h v d → plW d = true → d.weight ≤ 1048576 → ∃ A : List Addr, OkU A v ∧ ∀ a ∈ A, ArgOb h A a
  | .none, _, x, _, _ => by
    cases x
    exact ⟨[], trivial, fun a m => absurd m (by simp)⟩
  | .bool b, _, x, _, _ => by
    cases x
    exact ⟨[], trivial, fun a m => absurd m (by simp)⟩
  | .int i, _, x, _, _ => by
    cases x
    exact ⟨[], trivial, fun a m => absurd m (by simp)⟩
  | .str s, _, x, _, _ => by
    cases x
    exact ⟨[], trivial, fun a m => absurd m (by simp)⟩
  | .bytes b, _, x, _, _ => by
    cases x
    exact ⟨[], trivial, fun a m => absurd m (by simp)⟩
  | .list ds, _, x, p, z => by
    obtain ⟨a, vs, rfl, ho, hall⟩ := well_list x
    have z2 : WData.weightAll ds ≤ 1048576 := z
    obtain ⟨A, h1, h2⟩ := area_all ds _ hall p fun d hd => Nat.le_trans (weight_mem hd) z2
    have k : ∀ b ∈ A, b ∈ a :: A := fun b hb => List.mem_cons_of_mem _ hb
    refine ⟨a :: A, List.mem_cons_self .., fun b hb => ?_⟩
    rcases List.mem_cons.mp hb with e | m
    · rw [e]
      exact ⟨vs, line_of (by rw [wellAll_len hall]; exact Nat.le_trans (PySem.W.length_le_weightAllW ds) z2), fun u hu => (h1 u hu).mono k, .inl ho⟩
    · exact (h2 b m).mono k
  | .tuple ds, _, x, p, z => by
    obtain ⟨a, vs, rfl, ho, hall⟩ := well_tuple x
    have z2 : WData.weightAll ds ≤ 1048576 := z
    obtain ⟨A, h1, h2⟩ := area_all ds _ hall p fun d hd => Nat.le_trans (weight_mem hd) z2
    have k : ∀ b ∈ A, b ∈ a :: A := fun b hb => List.mem_cons_of_mem _ hb
    refine ⟨a :: A, List.mem_cons_self .., fun b hb => ?_⟩
    rcases List.mem_cons.mp hb with e | m
    · rw [e]
      exact ⟨vs, line_of (by rw [wellAll_len hall]; exact Nat.le_trans (PySem.W.length_le_weightAllW ds) z2), fun u hu => (h1 u hu).mono k, .inr ho⟩
    · exact (h2 b m).mono k
  | .float _, _, _, p, _ => Bool.noConfusion (show false = true from p)
  | .dict _, _, _, p, _ => Bool.noConfusion (show false = true from p)
  | .bytearray _, _, _, p, _ => Bool.noConfusion (show false = true from p)
  | .set _, _, _, p, _ => Bool.noConfusion (show false = true from p)
  | .frozenset _, _, _, p, _ => Bool.noConfusion (show false = true from p)
  | .obj _ _, _, _, p, _ => Bool.noConfusion (show false = true from p)
theorem area_all : ∀ (ds : List WData) (vs : List Value), WellAll P h vs ds → plWs ds = true → (∀ d ∈ ds, d.weight ≤ 1048576) → ∃ A : List Addr, (∀ u ∈ vs, OkU A u) ∧ ∀ a ∈ A, ArgOb h A a
  | [], _, x, _, _ => by
    cases x
    exact ⟨[], fun u m => absurd m (by simp), fun a m => absurd m (by simp)⟩
  | d :: ds, _, x, p, z => by
    obtain ⟨v, vs, rfl, x1, x2⟩ := well_cons x
    have q : plW d = true ∧ plWs ds = true := Bool.and_eq_true_iff.mp p
    obtain ⟨A, a1, a2⟩ := area_one d v x1 q.1 (z d (List.mem_cons_self ..))
    obtain ⟨B, b1, b2⟩ := area_all ds vs x2 q.2 fun e he => z e (List.mem_cons_of_mem _ he)
    have kA : ∀ b ∈ A, b ∈ A ++ B := fun b hb => List.mem_append.mpr (.inl hb)
    have kB : ∀ b ∈ B, b ∈ A ++ B := fun b hb => List.mem_append.mpr (.inr hb)
    refine ⟨A ++ B, fun u hu => ?_, fun b hb => ?_⟩
    · rcases List.mem_cons.mp hu with e | m
      · rw [e]
        exact a1.mono kA
      · exact (b1 u m).mono kB
    · rcases List.mem_append.mp hb with m | m
      · exact (a2 b m).mono kA
      · exact (b2 b m).mono kB
end
end
/-- what is tracked of an argument's object -/
noncomputable def hoOf (o : Obj) : Option HO := match o.data with
  | .seq vs _ => if (o.cls == Value.type "list") = true then some (.frz o (.lst (vs.toList.map toV))) else some (.frz o (.tup (vs.toList.map toV)))
  | _ => none
noncomputable def argH (K : PySem.W.Frag) (h : Heap) (A : List Addr) : Hp := fun b => if b ∈ A then (if (K.lookup b).isNone = true then (h.get? b).bind hoOf else none) else none
/-- nothing is tracked but what is known to the object -/
noncomputable def OnlyF (H : Hp) : Prop := ∀ b, H b = none ∨ ∃ o u, H b = some (.frz o u)
theorem hoOf_lst (vs : List Value) : hoOf { cls := .type "list", data := .seq vs.toArray } = some (.frz { cls := .type "list", data := .seq vs.toArray } (.lst (vs.map toV))) := by
  show (if (Value.type "list" == Value.type "list") = true then some (HO.frz { cls := .type "list", data := .seq vs.toArray } (.lst (vs.toArray.toList.map toV))) else some (HO.frz { cls := .type "list", data := .seq vs.toArray } (.tup (vs.toArray.toList.map toV)))) = _
  rw [if_pos (beq_self_eq_true _)]
theorem hoOf_tup (vs : List Value) : hoOf { cls := .type "tuple", data := .seq vs.toArray } = some (.frz { cls := .type "tuple", data := .seq vs.toArray } (.tup (vs.map toV))) := by
  show (if (Value.type "tuple" == Value.type "list") = true then some (HO.frz { cls := .type "tuple", data := .seq vs.toArray } (.lst (vs.toArray.toList.map toV))) else some (HO.frz { cls := .type "tuple", data := .seq vs.toArray } (.tup (vs.toArray.toList.map toV)))) = _
  rw [if_neg (by decide)]
section
variable {P : Program} {w : World} {K : PySem.W.Frag} {h : Heap} {A : List Addr}
theorem argH_at {b : Addr} {o : Obj} (hb : b ∈ A) (hk : K.lookup b = none) (e : h.get? b = some o) : argH K h A b = hoOf o := by
  unfold argH
  rw [if_pos hb, hk, if_pos (show (none : Option Obj).isNone = true from rfl), e] <;> rfl
theorem of_argH {b : Addr} {u : HO} (q : argH K h A b = some u) : b ∈ A ∧ K.lookup b = none := by
  unfold argH at q
  by_cases hb : b ∈ A
  · rw [if_pos hb] at q
    cases hk : K.lookup b with
    | none => exact ⟨hb, rfl⟩
    | some o =>
      rw [hk, if_neg (by simp)] at q
      cases q
  · rw [if_neg hb] at q
    cases q
/-- what stands tracked -/
theorem argH_is (ar : ∀ a ∈ A, ArgOb h A a) {b : Addr} {u : HO} (q : argH K h A b = some u) : K.lookup b = none ∧ ∃ vs : List Value, vs.length ≤ sizeLine ∧ (∀ u ∈ vs, OkU A u) ∧
    ((h.get? b = some { cls := .type "list", data := .seq vs.toArray } ∧ u = .frz { cls := .type "list", data := .seq vs.toArray } (.lst (vs.map toV))) ∨
     (h.get? b = some { cls := .type "tuple", data := .seq vs.toArray } ∧ u = .frz { cls := .type "tuple", data := .seq vs.toArray } (.tup (vs.map toV)))) := by
  obtain ⟨hb, hk⟩ := of_argH q
  obtain ⟨vs, h1, h2, h3⟩ := ar b hb
  refine ⟨hk, vs, h1, h2, ?_⟩
  rcases h3 with e | e
  · rw [argH_at hb hk e, hoOf_lst] at q
    exact .inl ⟨e, (Option.some.inj q).symm⟩
  · rw [argH_at hb hk e, hoOf_tup] at q
    exact .inr ⟨e, (Option.some.inj q).symm⟩
theorem argH_only (ar : ∀ a ∈ A, ArgOb h A a) : OnlyF (argH K h A) := fun b => by
  cases q : argH K h A b with
  | none => exact .inl rfl
  | some u =>
    obtain ⟨_, vs, _, _, ⟨_, e⟩ | ⟨_, e⟩⟩ := argH_is ar q
    · exact .inr ⟨_, _, by rw [e]⟩
    · exact .inr ⟨_, _, by rw [e]⟩
theorem argH_ok (ar : ∀ a ∈ A, ArgOb h A a) : HOk P w (argH K h A) h := fun b u q => by
  obtain ⟨_, vs, h1, h2, ⟨e, rfl⟩ | ⟨e, rfl⟩⟩ := argH_is ar q
  · exact ⟨e, by rw [List.length_map]; exact h1, vs, _, vals_toV h2, e⟩
  · exact ⟨e, by rw [List.length_map]; exact h1, vs, vals_toV h2, _, e, rfl, _, rfl⟩
theorem seq_inj {c c' : Value} {vs us : List Value} (e : (some { cls := c, data := .seq vs.toArray } : Option Obj) = some { cls := c', data := .seq us.toArray }) : c = c' ∧ vs = us := by
  have e1 := Option.some.inj e
  have e2 : c = c' := congrArg Obj.cls e1
  have e3 : Data.seq vs.toArray = Data.seq us.toArray := congrArg Obj.data e1
  injection e3 with e4
  refine ⟨e2, ?_⟩
  have e5 := congrArg Array.toList e4
  simpa using e5
/-- a list argument -/
theorem argL (KX : K.In h) (ar : ∀ a ∈ A, ArgOb h A a) {a : Addr} {vs : List Value} (ha : a ∈ A) (e : h.get? a = some { cls := .type "list", data := .seq vs.toArray }) : (∀ u ∈ vs, OkU A u) ∧ SqL K (argH K h A) a (vs.map toV) := by
  obtain ⟨us, h1, h2, h3⟩ := ar a ha
  have hu : us = vs := by
    rcases h3 with q | q
    · rw [e] at q
      exact (seq_inj q).2.symm
    · rw [e] at q
      exact absurd (Value.type.inj (seq_inj q).1) (by decide)
  subst hu
  refine ⟨h2, ?_⟩
  cases hk : K.lookup a with
  | none => exact .inl (.inr ⟨_, by rw [argH_at ha hk e, hoOf_lst]⟩)
  | some o =>
    have e2 := KX a o hk
    rw [e] at e2
    obtain rfl := Option.some.inj e2
    exact .inr ⟨_, us.toArray, _, hk, rfl, rfl, rfl, by rw [List.size_toArray]; exact h1, by simpa using vals_toV h2⟩
theorem argT (KX : K.In h) (ar : ∀ a ∈ A, ArgOb h A a) {a : Addr} {vs : List Value} (ha : a ∈ A) (e : h.get? a = some { cls := .type "tuple", data := .seq vs.toArray }) : (∀ u ∈ vs, OkU A u) ∧ SqT K (argH K h A) a (vs.map toV) := by
  obtain ⟨us, h1, h2, h3⟩ := ar a ha
  have hu : us = vs := by
    rcases h3 with q | q
    · rw [e] at q
      exact absurd (Value.type.inj (seq_inj q).1) (by decide)
    · rw [e] at q
      exact (seq_inj q).2.symm
  subst hu
  refine ⟨h2, ?_⟩
  cases hk : K.lookup a with
  | none => exact .inl (.inr ⟨_, by rw [argH_at ha hk e, hoOf_tup]⟩)
  | some o =>
    have e2 := KX a o hk
    rw [e] at e2
    obtain rfl := Option.some.inj e2
    exact .inr ⟨_, us.toArray, _, hk, rfl, rfl, by rw [List.size_toArray]; exact h1, by simpa using vals_toV h2⟩
mutual
theorem dw_one {Pm : Params} (KX : K.In h) (ar : ∀ a ∈ A, ArgOb h A a) : ∀ (d : WData) (v : Value), Well Pm h v d → plW d = true → OkU A v → Dw K (argH K h A) (toV v) d
  | .none, _, x, _, _ => by
    cases x
    exact .non
  | .bool b, _, x, _, _ => by
    cases x
    exact .bl b
  | .int i, _, x, _, _ => by
    cases x
    exact .int i
  | .str s, _, x, _, _ => by
    cases x
    exact .str s
  | .bytes b, _, x, _, _ => by
    cases x
    have z := Dw.byt (K := K) (H := argH K h A) b.toArray
    exact z
  | .list ds, _, x, p, hu => by
    obtain ⟨a, vs, rfl, ho, hall⟩ := well_list x
    obtain ⟨h2, hs⟩ := argL KX ar hu ho
    exact .lst hs (dw_all KX ar ds _ hall p h2)
  | .tuple ds, _, x, p, hu => by
    obtain ⟨a, vs, rfl, ho, hall⟩ := well_tuple x
    obtain ⟨h2, hs⟩ := argT KX ar hu ho
    exact .tup hs (dw_all KX ar ds _ hall p h2)
  | .float _, _, _, p, _ => Bool.noConfusion (show false = true from p)
  | .dict _, _, _, p, _ => Bool.noConfusion (show false = true from p)
  | .bytearray _, _, _, p, _ => Bool.noConfusion (show false = true from p)
  | .set _, _, _, p, _ => Bool.noConfusion (show false = true from p)
  | .frozenset _, _, _, p, _ => Bool.noConfusion (show false = true from p)
  | .obj _ _, _, _, p, _ => Bool.noConfusion (show false = true from p)
theorem dw_all {Pm : Params} (KX : K.In h) (ar : ∀ a ∈ A, ArgOb h A a) : ∀ (ds : List WData) (vs : List Value), WellAll Pm h vs ds → plWs ds = true → (∀ u ∈ vs, OkU A u) → DwAll K (argH K h A) (vs.map toV) ds
  | [], _, x, _, _ => by
    cases x
    exact .nil
  | d :: ds, _, x, p, hu => by
    obtain ⟨v, vs, rfl, x1, x2⟩ := well_cons x
    have q : plW d = true ∧ plWs ds = true := Bool.and_eq_true_iff.mp p
    exact .cons (dw_one KX ar d v x1 q.1 (hu _ (List.mem_cons_self ..))) (dw_all KX ar ds vs x2 q.2 fun u m => hu u (List.mem_cons_of_mem _ m))
end
end
theorem spec_call {P : Program} {w : World} {K : PySem.W.Frag} {mg mb : Str → Option Value} {CX : CXT} {k : Nat} {fa : Addr} {fd : FuncData} {ps : List Str} {sp : Sp} {s₁ : Shared} {vals : List Value} {ds : List WData} {R : PySem.W.WRecords} {cl : Str → Option Addr} {d0 : WData}
    (KX : K.In s₁.heap) (hns : s₁.heap.Ns mainGlobals mg) (hb : s₁.heap.Ns builtinsNs mb) (hbb : ∀ x : Str, x ≠ "__name__" → mb x = bootBuiltins x) (hlim : s₁.heap.NoLimit) (hg : s₁.gens = #[])
    (hwl : WellAll w.params s₁.heap vals ds) (hpl : plWs ds = true) (hwt : ∀ d ∈ ds, d.weight ≤ 1048576) (hr : Room k callerA)
    (F : ∀ base : Heap, K.In base → base.Ns mainGlobals mg → FnOk P w K mg base CX k fa fd ps sp) (hbind : ∀ (s : Shared) (us : List Value), us.length = ps.length → BindsTo s fd ⟨us, []⟩ (ps.zip us)) (hlen : ds.length = ps.length)
    (hsp : ∀ (H : Hp) (xs : List V), OnlyF H → DwAll K H xs ds → sp xs H (fun v H' => Dw K H' v d0) fun _ _ _ => False)
    (hCX : ∀ H e s', CX [] H s₁ (fun _ _ _ => False) e s' → False) :
    codeAny (model P w) callerA (.call (.ref fa) ⟨vals, []⟩) (fun r s' => ∃ u as, r = .ok (.ret u) ∧ ReadsW R cl s'.heap u d0 as ∧ OldK s₁.heap s'.heap ∧ s'.os = s₁.os ∧ AllBare s'.gens) s₁ := by
  obtain ⟨A, ho, ar⟩ := area_all ds vals hwl hpl hwt
  have hO : OnlyF (argH K s₁.heap A) := argH_only ar
  have hok : HOk P w (argH K s₁.heap A) s₁.heap := argH_ok ar
  have hS := dw_all KX ar ds vals hwl hpl ho
  have hV := vals_toV ho
  have hK : ∀ b u, argH K s₁.heap A b = some u → K.lookup b = none := fun b u q => (argH_is ar q).1
  have noA : ∀ {b : Addr} {o : Obj} {es : Array DictEntry} {ep : Nat}, s₁.heap.get? b = some o → o.data = .dict es ep → argH K s₁.heap A b = none := fun {b o es ep} e d => by
    cases q : argH K s₁.heap A b with
    | none => rfl
    | some u =>
      obtain ⟨_, vs, _, _, ⟨e2, _⟩ | ⟨e2, _⟩⟩ := argH_is ar q
      · rw [e2] at e
        cases e
        have d' : Data.seq vs.toArray _ = Data.dict es ep := d
        cases d'
      · rw [e2] at e
        cases e
        have d' : Data.seq vs.toArray _ = Data.dict es ep := d
        cases d'
  generalize argH K s₁.heap A = H at hO hok hS hK noA
  have base_of : ∀ {b : Addr} {o : Obj}, s₁.heap.get? b = some o → H b = none → (hidT s₁.heap H).get? b = some o := fun e n => hidT_get e n
  have nsK : ∀ {b : Addr} {m : Str → Option Value}, s₁.heap.Ns b m → (hidT s₁.heap H).Ns b m := fun {b m} ⟨o, es, ep, e, d, r⟩ => ⟨o, es, ep, base_of e (noA e d), d, r⟩
  have nK : ∀ b o, K.lookup b = some o → H b = none := fun b o e => by
    cases q : H b with
    | none => rfl
    | some u =>
      rw [hK b u q] at e
      cases e
  have hKb : K.In (hidT s₁.heap H) := fun b o e => base_of (KX b o e) (nK b o e)
  have hM : Mod K mg (hidT s₁.heap H) := ⟨hKb, nsK hns, ⟨mb, nsK hb, hbb⟩, let ⟨mc, h1, h2⟩ := hlim; ⟨mc, nsK h1, h2⟩⟩
  have e0 : Env0 P w K mg (hidT s₁.heap H) callerA [] s₁ H := ⟨rfl, hM, fun b o e => of_hidT e, Nat.le_of_eq (hidT_size _ _), trivial, fun b hb => absurd (show b ∈ ([] : List Addr) from hb) (by simp), hok, .of_eq hg⟩
  have hl : vals.length = ps.length := by rw [wellAll_len hwl]; exact hlen
  refine codeAny_mono ((F _ hKb (nsK hns)).run callerA [] s₁ H ⟨vals, []⟩ vals (vals.map toV) _ _ hr e0 (hbind s₁ vals hl) hV (hsp H _ hO hS)) fun r s' x => ?_
  cases r with
  | error e => exact (hCX H e s' x).elim
  | ok fl =>
    cases fl with
    | next => exact False.elim x
    | brk => exact False.elim x
    | cont => exact False.elim x
    | ret u =>
      obtain ⟨v, H', os, bare, un, hok', r', q⟩ := x
      have kept : ∀ b o, s₁.heap.get? b = some o → s'.heap.get? b = some o := fun b o e => by
        cases q2 : H b with
        | none => exact un.keep b o e q2 (by intro z; exact absurd (show b ∈ ([] : List Addr) from z) (by simp)) (by simp)
        | some u2 =>
          rcases hO b with z | ⟨ob, u3, z⟩
          · rw [q2] at z
            cases z
          · have z2 := un.frzs b ob _ z
            obtain ⟨e1, _⟩ := hok b _ z
            obtain ⟨e2, _⟩ := hok' b _ z2
            rw [e] at e1
            cases e1
            exact e2
      have KX' : K.In s'.heap := fun b o e => kept b o (KX b o e)
      obtain ⟨as, hrd⟩ := Dw.reads (R := R) (cl := cl) hok' KX' d0 v u q r'
      exact ⟨u, as, rfl, hrd, OldK.of_keep kept, os, bare⟩
theorem layable_weight {ds : List WData} (h : WData.layableAll ds = true) : ∀ d ∈ ds, d.weight ≤ 1048576 := fun d hd =>
  (PySem.W.layableW_iff.mp (List.all_eq_true.mp h d hd)).2.2
theorem encAll_len : ∀ (cs : List Codec) (a : Codec.denoteAll cs), (Codec.encAll cs a).length = cs.length
  | [], _ => rfl
  | c :: cs, a => by
    show (Codec.encAll cs a.2).length + 1 = cs.length + 1
    rw [encAll_len cs a.2]
/-- the goal that k_headS leaves (case hc), from the promise of the row's def: whatever the arguments that the codecs let and the row asks for, the def gives what stands for enc (f ..) -/
theorem walk_spec {r : OpenSpec} {k : Nat} {q : Program} {loose : List Str} {XP : (Str → Option Value) → Heap → Prop} {YP : World → Heap → Prop} {d : DefRec} {K : Params → PySem.W.Frag} {CX : World → CXT} {ps : List Str} {sp : World → Sp}
    (hwell : r.wellSaid = true) (hdf : d.params.defaults = []) (hlen : r.args.length = ps.length) (hr : Room k callerA)
    (hY : ∀ (w : World) (h : Heap), YP w h → (K w.params).In h)
    (F : ∀ (w : World) (mg : Str → Option Value) (fa : Addr) (h : Heap), YP w h → (K w.params).In h → h.Ns mainGlobals mg → mg d.name = some (.ref fa) →
      ∃ fd : FuncData, (∀ (s : Shared) (us : List Value), us.length = ps.length → BindsTo s fd ⟨us, []⟩ (ps.zip us)) ∧
        ∀ base : Heap, (K w.params).In base → base.Ns mainGlobals mg → FnOk r.prog w (K w.params) mg base (CX w) k fa fd ps (sp w))
    (hsp : ∀ (w : World) (H : Hp) (xs : List V) (a : Codec.denoteAll r.args), OnlyF H → Codec.withinAll r.args a = true → Codec.app r.args r.asked a = true → DwAll (K w.params) H xs (Codec.encAll r.args a) →
      sp w xs H (fun v H' => Dw (K w.params) H' v (r.ret.enc (Codec.app r.args r.f a))) fun _ _ _ => False)
    (hCX : ∀ (w : World) (H : Hp) (s : Shared) (e : Value) (s' : Shared), CX w [] H s (fun _ _ _ => False) e s' → False) :
    PySem.W.WalkOS q loose XP YP r d [] (fun f vs => PySem.call f vs) := by
  intro w s_0 s₁ mg mb G Y fa o pm cd doc dV kV ho hd hcd hD hmg hg args vals as hpre hlay hrd hwl hlo
  obtain ⟨a, e1, e2⟩ := PySem.W.os_pre_some hpre
  obtain ⟨e3, hwi⟩ := Codec.encAll_of_decAll r.args args a e1
  subst e3
  have KX := hY w _ Y
  obtain ⟨fd, hb, hF⟩ := F w mg fa _ Y KX G.T.g hmg
  refine PySem.W.enter_call (codeAny_mono (spec_call (R := []) (cl := classAt s_0.heap) (d0 := r.ret.enc (Codec.app r.args r.f a)) KX G.T.g G.T.b G.T.builtins G.T.nolimit hg hwl (pl_encAll _ _) (layable_weight hlay) hr hF hb (by rw [encAll_len]; exact hlen)
    (fun H xs hO hS => hsp w H xs a hO hwi e2 hS) fun H e s' => hCX w H s₁ e s') fun r' s' hq => ?_)
  obtain ⟨u, as', rfl, h1, h2, h3, h4⟩ := hq
  exact ⟨.inl ⟨u, _, as', rfl, fun _ => rfl, h1, (OpenSpec.post_iff hwell hwi _ _).mpr rfl, fun z => Bool.noConfusion (show false = true from z)⟩, h2, h3, h4⟩
/-- the same where the promise hangs on the written part alone -/
theorem walk_specK {r : OpenSpec} {k : Nat} {q : Program} {loose : List Str} {XP : (Str → Option Value) → Heap → Prop} {YP : World → Heap → Prop} {d : DefRec} {K : Params → PySem.W.Frag} {CX : CXT} {ps : List Str} {sp : PySem.W.Frag → Sp}
    (hwell : r.wellSaid = true) (hdf : d.params.defaults = []) (hlen : r.args.length = ps.length) (hr : Room k callerA)
    (hY : ∀ (w : World) (h : Heap), YP w h → (K w.params).In h)
    (F : ∀ (w : World) (mg : Str → Option Value) (fa : Addr) (h : Heap), YP w h → (K w.params).In h → h.Ns mainGlobals mg → mg d.name = some (.ref fa) →
      ∃ fd : FuncData, (∀ (s : Shared) (us : List Value), us.length = ps.length → BindsTo s fd ⟨us, []⟩ (ps.zip us)) ∧
        ∀ base : Heap, (K w.params).In base → base.Ns mainGlobals mg → FnOk r.prog w (K w.params) mg base CX k fa fd ps (sp (K w.params)))
    (hsp : ∀ (K : PySem.W.Frag) (H : Hp) (xs : List V) (a : Codec.denoteAll r.args), OnlyF H → Codec.withinAll r.args a = true → Codec.app r.args r.asked a = true → DwAll K H xs (Codec.encAll r.args a) →
      sp K xs H (fun v H' => Dw K H' v (r.ret.enc (Codec.app r.args r.f a))) fun _ _ _ => False)
    (hCX : ∀ (H : Hp) (s : Shared) (e : Value) (s' : Shared), CX [] H s (fun _ _ _ => False) e s' → False) :
    PySem.W.WalkOS q loose XP YP r d [] (fun f vs => PySem.call f vs) :=
  walk_spec (K := K) (CX := fun _ => CX) (sp := fun w => sp (K w.params)) hwell hdf hlen hr hY F (fun w H xs a h1 h2 h3 h4 => hsp (K w.params) H xs a h1 h2 h3 h4) fun _ H s e s' => hCX H s e s'
end L2
-- rests on (row put in by the clerk, for the bench that shows a file only what it spells): KE.SpHead KE.OsShapes
end

section
set_option Elab.async false
set_option linter.all false
namespace Vm
open Vbavae
/-! ### order -/
theorem ins_perm (x : Int) : ∀ l : List Int, (insertInt x l).Perm (x :: l)
  | [] => List.Perm.refl _
  | y :: l => by
    unfold insertInt
    split
    · exact List.Perm.refl _
    · exact (List.Perm.cons y (ins_perm x l)).trans (List.Perm.swap x y l)
theorem sort_perm : ∀ l : List Int, (sortInts l).Perm l
  | [] => List.Perm.refl _
  | x :: l => (ins_perm x (sortInts l)).trans (List.Perm.cons x (sort_perm l))
theorem ins_sorted (x : Int) : ∀ l : List Int, l.Pairwise (· ≤ ·) → (insertInt x l).Pairwise (· ≤ ·)
  | [], _ => by simp [insertInt]
  | y :: l, h => by
    unfold insertInt
    have h1 := List.pairwise_cons.mp h
    split
    · rename_i hxy
      refine List.pairwise_cons.mpr ⟨fun z hz => ?_, h⟩
      rcases List.mem_cons.mp hz with rfl | hz
      · exact hxy
      · exact Int.le_trans hxy (h1.1 z hz)
    · rename_i hxy
      refine List.pairwise_cons.mpr ⟨fun z hz => ?_, ins_sorted x l h1.2⟩
      rcases List.mem_cons.mp ((ins_perm x l).mem_iff.mp hz) with rfl | hz
      · omega
      · exact h1.1 z hz
theorem sort_sorted : ∀ l : List Int, (sortInts l).Pairwise (· ≤ ·)
  | [] => List.Pairwise.nil
  | x :: l => ins_sorted x _ (sort_sorted l)
theorem sorted_is {l m : List Int} (hp : m.Perm l) (hs : m.Pairwise (· ≤ ·)) : m = sortInts l :=
  (hp.trans (sort_perm l).symm).eq_of_pairwise (fun a b _ _ h1 h2 => Int.le_antisymm h1 h2) hs (sort_sorted l)
theorem sort_len (l : List Int) : (sortInts l).length = l.length := (sort_perm l).length_eq
theorem sum_is (l : List Int) : Vbavae.sum l = l.sum := by
  have : ∀ (l : List Int) (a : Int), l.foldl (fun a b => a + b) a = a + l.sum := by
    intro l
    induction l with
    | nil => intro a; simp
    | cons x r ih => intro a; rw [List.foldl_cons, ih, List.sum_cons, Int.add_assoc]
  unfold Vbavae.sum
  rw [this]; simp
end Vm

end
section
set_option genInjectivity false
set_option genSizeOf false
set_option Elab.async false
set_option linter.all false
set_option maxRecDepth 100000
set_option maxHeartbeats 2000000
namespace Vt
open PySem PySem.Spec PyProof.Rows L2
noncomputable def top (i : Nat) : Stmt := PySem.Challenge.pw_votedsensors_s01_answers.main.body.getD i (.Pass ⟨0, 0, 0, 0⟩)
noncomputable abbrev s_Sensor_init : Stmt := inClass (top 5) 0
noncomputable abbrev s_Panel_init : Stmt := inClass (top 6) 0
noncomputable abbrev s_copied_sensor : Stmt := top 7
noncomputable abbrev s_copied : Stmt := top 8
noncomputable abbrev s_trusted_numbers : Stmt := top 9
noncomputable abbrev s_unbarred_numbers : Stmt := top 10
noncomputable abbrev s_voters : Stmt := top 11
noncomputable abbrev s_votes_of : Stmt := top 12
noncomputable abbrev s_middle : Stmt := top 13
noncomputable abbrev s_is_near : Stmt := top 14
noncomputable abbrev s_begin_state : Stmt := top 15
noncomputable abbrev s_write_event : Stmt := top 16
noncomputable abbrev s_judge : Stmt := top 17
noncomputable abbrev s_judge_all : Stmt := top 18
noncomputable abbrev s_moved : Stmt := top 19
noncomputable abbrev s_follow : Stmt := top 20
noncomputable abbrev s_told : Stmt := top 21
noncomputable abbrev s_take_sample : Stmt := top 22
noncomputable abbrev s_bar : Stmt := top 23
noncomputable abbrev s_free : Stmt := top 24
noncomputable abbrev s_samples_to_change : Stmt := top 25
noncomputable abbrev s_trimmed_mean : Stmt := top 26
noncomputable abbrev s_how_many_events : Stmt := top 27
noncomputable abbrev s_Desk_init : Stmt := inClass (top 52) 0
noncomputable abbrev s_lay_fits : Stmt := top 53
noncomputable abbrev s_lay : Stmt := top 54
noncomputable abbrev s_reading_fits : Stmt := top 55
noncomputable abbrev s_sample_fits : Stmt := top 56
noncomputable abbrev s_sample : Stmt := top 57
noncomputable abbrev s_value : Stmt := top 58
noncomputable abbrev s_sensor_state : Stmt := top 59
noncomputable abbrev s_bar_sensor : Stmt := top 60
noncomputable abbrev s_free_sensor : Stmt := top 61
noncomputable abbrev s_soonest : Stmt := top 62
noncomputable abbrev s_answer_of_sensor : Stmt := top 63
noncomputable abbrev s_trusted_list : Stmt := top 64
noncomputable abbrev s_trim : Stmt := top 65
noncomputable abbrev s_log : Stmt := top 66
noncomputable abbrev s_totals : Stmt := top 67
noncomputable abbrev s_answer_laid : Stmt := top 68
noncomputable abbrev s_answer_call : Stmt := top 69
noncomputable abbrev s_numbers_behind : Stmt := top 70
noncomputable abbrev s_answers : Stmt := top 71
theorem sc_Sensor_init : FnScope ["self"] ["self"] (defScope s_Sensor_init) := ⟨rfl, rfl, rfl, by decide +kernel, rfl, by decide +kernel, by decide +kernel⟩
theorem sc_Panel_init : FnScope ["self", "n", "tol", "p", "q", "rate", "i"] ["self", "n", "tol", "p", "q", "rate"] (defScope s_Panel_init) := ⟨rfl, rfl, rfl, by decide +kernel, rfl, by decide +kernel, by decide +kernel⟩
theorem sc_copied_sensor : FnScope ["sensor", "twin"] ["sensor"] (defScope s_copied_sensor) := ⟨rfl, rfl, rfl, by decide +kernel, rfl, by decide +kernel, by decide +kernel⟩
theorem sc_copied : FnScope ["panel", "twin", "sensor"] ["panel"] (defScope s_copied) := ⟨rfl, rfl, rfl, by decide +kernel, rfl, by decide +kernel, by decide +kernel⟩
theorem sc_trusted_numbers : FnScope ["sensors", "i"] ["sensors"] (defScope s_trusted_numbers) := ⟨rfl, rfl, rfl, by decide +kernel, rfl, by decide +kernel, by decide +kernel⟩
theorem sc_unbarred_numbers : FnScope ["sensors", "i"] ["sensors"] (defScope s_unbarred_numbers) := ⟨rfl, rfl, rfl, by decide +kernel, rfl, by decide +kernel, by decide +kernel⟩
theorem sc_voters : FnScope ["sensors", "trusted"] ["sensors"] (defScope s_voters) := ⟨rfl, rfl, rfl, by decide +kernel, rfl, by decide +kernel, by decide +kernel⟩
theorem sc_votes_of : FnScope ["sensors", "readings", "i"] ["sensors", "readings"] (defScope s_votes_of) := ⟨rfl, rfl, rfl, by decide +kernel, rfl, by decide +kernel, by decide +kernel⟩
theorem sc_middle : FnScope ["numbers"] ["numbers"] (defScope s_middle) := ⟨rfl, rfl, rfl, by decide +kernel, rfl, by decide +kernel, by decide +kernel⟩
theorem sc_is_near : FnScope ["reading", "voted", "tol"] ["reading", "voted", "tol"] (defScope s_is_near) := ⟨rfl, rfl, rfl, by decide +kernel, rfl, by decide +kernel, by decide +kernel⟩
theorem sc_begin_state : FnScope ["sensor", "trusted"] ["sensor", "trusted"] (defScope s_begin_state) := ⟨rfl, rfl, rfl, by decide +kernel, rfl, by decide +kernel, by decide +kernel⟩
theorem sc_write_event : FnScope ["panel", "i", "what"] ["panel", "i", "what"] (defScope s_write_event) := ⟨rfl, rfl, rfl, by decide +kernel, rfl, by decide +kernel, by decide +kernel⟩
theorem sc_judge : FnScope ["sensor", "near", "p", "q"] ["sensor", "near", "p", "q"] (defScope s_judge) := ⟨rfl, rfl, rfl, by decide +kernel, rfl, by decide +kernel, by decide +kernel⟩
theorem sc_judge_all : FnScope ["panel", "nears", "i", "what"] ["panel", "nears"] (defScope s_judge_all) := ⟨rfl, rfl, rfl, by decide +kernel, rfl, by decide +kernel, by decide +kernel⟩
theorem sc_moved : FnScope ["put_out", "voted", "rate"] ["put_out", "voted", "rate"] (defScope s_moved) := ⟨rfl, rfl, rfl, by decide +kernel, rfl, by decide +kernel, by decide +kernel⟩
theorem sc_follow : FnScope ["panel", "voted"] ["panel", "voted"] (defScope s_follow) := ⟨rfl, rfl, rfl, by decide +kernel, rfl, by decide +kernel, by decide +kernel⟩
theorem sc_told : FnScope ["number"] ["number"] (defScope s_told) := ⟨rfl, rfl, rfl, by decide +kernel, rfl, by decide +kernel, by decide +kernel⟩
theorem sc_take_sample : FnScope ["panel", "readings", "votes", "voted", "nears", "reading", "near_numbers", "i"] ["panel", "readings"] (defScope s_take_sample) := ⟨rfl, rfl, rfl, by decide +kernel, rfl, by decide +kernel, by decide +kernel⟩
theorem sc_bar : FnScope ["panel", "i"] ["panel", "i"] (defScope s_bar) := ⟨rfl, rfl, rfl, by decide +kernel, rfl, by decide +kernel, by decide +kernel⟩
theorem sc_free : FnScope ["panel", "i"] ["panel", "i"] (defScope s_free) := ⟨rfl, rfl, rfl, by decide +kernel, rfl, by decide +kernel, by decide +kernel⟩
theorem sc_samples_to_change : FnScope ["panel", "i", "sensor"] ["panel", "i"] (defScope s_samples_to_change) := ⟨rfl, rfl, rfl, by decide +kernel, rfl, by decide +kernel, by decide +kernel⟩
theorem sc_trimmed_mean : FnScope ["numbers", "f", "left"] ["numbers", "f"] (defScope s_trimmed_mean) := ⟨rfl, rfl, rfl, by decide +kernel, rfl, by decide +kernel, by decide +kernel⟩
theorem sc_how_many_events : FnScope ["panel", "what", "event"] ["panel", "what"] (defScope s_how_many_events) := ⟨rfl, rfl, rfl, by decide +kernel, rfl, by decide +kernel, by decide +kernel⟩
theorem sc_Desk_init : FnScope ["self"] ["self"] (defScope s_Desk_init) := ⟨rfl, rfl, rfl, by decide +kernel, rfl, by decide +kernel, by decide +kernel⟩
theorem sc_lay_fits : FnScope ["n", "tol", "p", "q", "rate"] ["n", "tol", "p", "q", "rate"] (defScope s_lay_fits) := ⟨rfl, rfl, rfl, by decide +kernel, rfl, by decide +kernel, by decide +kernel⟩
theorem sc_lay : FnScope ["desk", "numbers", "n", "tol", "p", "q", "rate"] ["desk", "numbers"] (defScope s_lay) := ⟨rfl, rfl, rfl, by decide +kernel, rfl, by decide +kernel, by decide +kernel⟩
theorem sc_reading_fits : FnScope ["mark", "reading"] ["mark", "reading"] (defScope s_reading_fits) := ⟨rfl, rfl, rfl, by decide +kernel, rfl, by decide +kernel, by decide +kernel⟩
theorem sc_sample_fits : FnScope ["row", "n", "i"] ["row", "n"] (defScope s_sample_fits) := ⟨rfl, rfl, rfl, by decide +kernel, rfl, by decide +kernel, by decide +kernel⟩
theorem sc_sample : FnScope ["panel", "row", "n", "i"] ["panel", "row"] (defScope s_sample) := ⟨rfl, rfl, rfl, by decide +kernel, rfl, by decide +kernel, by decide +kernel⟩
theorem sc_value : FnScope ["panel"] ["panel"] (defScope s_value) := ⟨rfl, rfl, rfl, by decide +kernel, rfl, by decide +kernel, by decide +kernel⟩
theorem sc_sensor_state : FnScope ["sensor"] ["sensor"] (defScope s_sensor_state) := ⟨rfl, rfl, rfl, by decide +kernel, rfl, by decide +kernel, by decide +kernel⟩
theorem sc_bar_sensor : FnScope ["panel", "i"] ["panel", "i"] (defScope s_bar_sensor) := ⟨rfl, rfl, rfl, by decide +kernel, rfl, by decide +kernel, by decide +kernel⟩
theorem sc_free_sensor : FnScope ["panel", "i"] ["panel", "i"] (defScope s_free_sensor) := ⟨rfl, rfl, rfl, by decide +kernel, rfl, by decide +kernel, by decide +kernel⟩
theorem sc_soonest : FnScope ["panel", "i"] ["panel", "i"] (defScope s_soonest) := ⟨rfl, rfl, rfl, by decide +kernel, rfl, by decide +kernel, by decide +kernel⟩
theorem sc_answer_of_sensor : FnScope ["panel", "call", "i"] ["panel", "call", "i"] (defScope s_answer_of_sensor) := ⟨rfl, rfl, rfl, by decide +kernel, rfl, by decide +kernel, by decide +kernel⟩
theorem sc_trusted_list : FnScope ["panel", "numbers"] ["panel"] (defScope s_trusted_list) := ⟨rfl, rfl, rfl, by decide +kernel, rfl, by decide +kernel, by decide +kernel⟩
theorem sc_trim : FnScope ["panel", "f"] ["panel", "f"] (defScope s_trim) := ⟨rfl, rfl, rfl, by decide +kernel, rfl, by decide +kernel, by decide +kernel⟩
theorem sc_log : FnScope ["panel", "k", "numbers", "event"] ["panel", "k"] (defScope s_log) := ⟨rfl, rfl, rfl, by decide +kernel, rfl, by decide +kernel, by decide +kernel⟩
theorem sc_totals : FnScope ["panel", "shut_out", "trusted_again"] ["panel"] (defScope s_totals) := ⟨rfl, rfl, rfl, by decide +kernel, rfl, by decide +kernel, by decide +kernel⟩
theorem sc_answer_laid : FnScope ["panel", "call", "numbers"] ["panel", "call", "numbers"] (defScope s_answer_laid) := ⟨rfl, rfl, rfl, by decide +kernel, rfl, by decide +kernel, by decide +kernel⟩
theorem sc_answer_call : FnScope ["desk", "call", "numbers"] ["desk", "call", "numbers"] (defScope s_answer_call) := ⟨rfl, rfl, rfl, by decide +kernel, rfl, by decide +kernel, by decide +kernel⟩
theorem sc_numbers_behind : FnScope ["calls", "at", "call"] ["calls", "at"] (defScope s_numbers_behind) := ⟨rfl, rfl, rfl, by decide +kernel, rfl, by decide +kernel, by decide +kernel⟩
theorem sc_answers : FnScope ["calls", "desk", "given", "at", "end", "answer"] ["calls"] (defScope s_answers) := ⟨rfl, rfl, rfl, by decide +kernel, rfl, by decide +kernel, by decide +kernel⟩
/-- addresses -/
structure Ad where
  C_Sensor : Addr
  C_Panel : Addr
  C_UnknownCall : Addr
  C_Desk : Addr
  f_Sensor_init : Addr
  d_Sensor_init : FuncData
  f_Panel_init : Addr
  d_Panel_init : FuncData
  f_copied_sensor : Addr
  d_copied_sensor : FuncData
  f_copied : Addr
  d_copied : FuncData
  f_trusted_numbers : Addr
  d_trusted_numbers : FuncData
  f_unbarred_numbers : Addr
  d_unbarred_numbers : FuncData
  f_voters : Addr
  d_voters : FuncData
  f_votes_of : Addr
  d_votes_of : FuncData
  f_middle : Addr
  d_middle : FuncData
  f_is_near : Addr
  d_is_near : FuncData
  f_begin_state : Addr
  d_begin_state : FuncData
  f_write_event : Addr
  d_write_event : FuncData
  f_judge : Addr
  d_judge : FuncData
  f_judge_all : Addr
  d_judge_all : FuncData
  f_moved : Addr
  d_moved : FuncData
  f_follow : Addr
  d_follow : FuncData
  f_told : Addr
  d_told : FuncData
  f_take_sample : Addr
  d_take_sample : FuncData
  f_bar : Addr
  d_bar : FuncData
  f_free : Addr
  d_free : FuncData
  f_samples_to_change : Addr
  d_samples_to_change : FuncData
  f_trimmed_mean : Addr
  d_trimmed_mean : FuncData
  f_how_many_events : Addr
  d_how_many_events : FuncData
  f_Desk_init : Addr
  d_Desk_init : FuncData
  f_lay_fits : Addr
  d_lay_fits : FuncData
  f_lay : Addr
  d_lay : FuncData
  f_reading_fits : Addr
  d_reading_fits : FuncData
  f_sample_fits : Addr
  d_sample_fits : FuncData
  f_sample : Addr
  d_sample : FuncData
  f_value : Addr
  d_value : FuncData
  f_sensor_state : Addr
  d_sensor_state : FuncData
  f_bar_sensor : Addr
  d_bar_sensor : FuncData
  f_free_sensor : Addr
  d_free_sensor : FuncData
  f_soonest : Addr
  d_soonest : FuncData
  f_answer_of_sensor : Addr
  d_answer_of_sensor : FuncData
  f_trusted_list : Addr
  d_trusted_list : FuncData
  f_trim : Addr
  d_trim : FuncData
  f_log : Addr
  d_log : FuncData
  f_totals : Addr
  d_totals : FuncData
  f_answer_laid : Addr
  d_answer_laid : FuncData
  f_answer_call : Addr
  d_answer_call : FuncData
  f_numbers_behind : Addr
  d_numbers_behind : FuncData
  f_answers : Addr
  d_answers : FuncData
/-- what the top has written -/
structure Txt (K : PySem.W.Frag) (mg : Str → Option Value) (a : Ad) : Prop where
  cl_Sensor : Cls K a.C_Sensor
  mg_Sensor : mg "Sensor" = some (.ref a.C_Sensor)
  mk_Sensor : Mk K a.C_Sensor a.f_Sensor_init
  n_Sensor_trusted : NoAttr K a.C_Sensor "trusted"
  n_Sensor_barred : NoAttr K a.C_Sensor "barred"
  n_Sensor_bad : NoAttr K a.C_Sensor "bad"
  n_Sensor_good : NoAttr K a.C_Sensor "good"
  cl_Panel : Cls K a.C_Panel
  mg_Panel : mg "Panel" = some (.ref a.C_Panel)
  mk_Panel : Mk K a.C_Panel a.f_Panel_init
  n_Panel_tol : NoAttr K a.C_Panel "tol"
  n_Panel_p : NoAttr K a.C_Panel "p"
  n_Panel_q : NoAttr K a.C_Panel "q"
  n_Panel_rate : NoAttr K a.C_Panel "rate"
  n_Panel_sensors : NoAttr K a.C_Panel "sensors"
  n_Panel_samples : NoAttr K a.C_Panel "samples"
  n_Panel_events : NoAttr K a.C_Panel "events"
  n_Panel_last : NoAttr K a.C_Panel "last"
  n_Panel_age : NoAttr K a.C_Panel "age"
  n_Panel_put_out : NoAttr K a.C_Panel "put_out"
  n_Panel_votes : NoAttr K a.C_Panel "votes"
  cl_Desk : Cls K a.C_Desk
  mg_Desk : mg "Desk" = some (.ref a.C_Desk)
  mk_Desk : Mk K a.C_Desk a.f_Desk_init
  n_Desk_panel : NoAttr K a.C_Desk "panel"
  F_Sensor_init : Fun K "__init__" "Sensor.__init__" s_Sensor_init a.f_Sensor_init a.d_Sensor_init
  b_Sensor_init : Binds K a.d_Sensor_init ["self"] []
  F_Panel_init : Fun K "__init__" "Panel.__init__" s_Panel_init a.f_Panel_init a.d_Panel_init
  b_Panel_init : Binds K a.d_Panel_init ["self", "n", "tol", "p", "q", "rate"] []
  F_copied_sensor : Fun K "copied_sensor" "copied_sensor" s_copied_sensor a.f_copied_sensor a.d_copied_sensor
  b_copied_sensor : Binds K a.d_copied_sensor ["sensor"] []
  mg_copied_sensor : mg "copied_sensor" = some (.ref a.f_copied_sensor)
  F_copied : Fun K "copied" "copied" s_copied a.f_copied a.d_copied
  b_copied : Binds K a.d_copied ["panel"] []
  mg_copied : mg "copied" = some (.ref a.f_copied)
  F_trusted_numbers : Fun K "trusted_numbers" "trusted_numbers" s_trusted_numbers a.f_trusted_numbers a.d_trusted_numbers
  b_trusted_numbers : Binds K a.d_trusted_numbers ["sensors"] []
  mg_trusted_numbers : mg "trusted_numbers" = some (.ref a.f_trusted_numbers)
  F_unbarred_numbers : Fun K "unbarred_numbers" "unbarred_numbers" s_unbarred_numbers a.f_unbarred_numbers a.d_unbarred_numbers
  b_unbarred_numbers : Binds K a.d_unbarred_numbers ["sensors"] []
  mg_unbarred_numbers : mg "unbarred_numbers" = some (.ref a.f_unbarred_numbers)
  F_voters : Fun K "voters" "voters" s_voters a.f_voters a.d_voters
  b_voters : Binds K a.d_voters ["sensors"] []
  mg_voters : mg "voters" = some (.ref a.f_voters)
  F_votes_of : Fun K "votes_of" "votes_of" s_votes_of a.f_votes_of a.d_votes_of
  b_votes_of : Binds K a.d_votes_of ["sensors", "readings"] []
  mg_votes_of : mg "votes_of" = some (.ref a.f_votes_of)
  F_middle : Fun K "middle" "middle" s_middle a.f_middle a.d_middle
  b_middle : Binds K a.d_middle ["numbers"] []
  mg_middle : mg "middle" = some (.ref a.f_middle)
  F_is_near : Fun K "is_near" "is_near" s_is_near a.f_is_near a.d_is_near
  b_is_near : Binds K a.d_is_near ["reading", "voted", "tol"] []
  mg_is_near : mg "is_near" = some (.ref a.f_is_near)
  F_begin_state : Fun K "begin_state" "begin_state" s_begin_state a.f_begin_state a.d_begin_state
  b_begin_state : Binds K a.d_begin_state ["sensor", "trusted"] []
  mg_begin_state : mg "begin_state" = some (.ref a.f_begin_state)
  F_write_event : Fun K "write_event" "write_event" s_write_event a.f_write_event a.d_write_event
  b_write_event : Binds K a.d_write_event ["panel", "i", "what"] []
  mg_write_event : mg "write_event" = some (.ref a.f_write_event)
  F_judge : Fun K "judge" "judge" s_judge a.f_judge a.d_judge
  b_judge : Binds K a.d_judge ["sensor", "near", "p", "q"] []
  mg_judge : mg "judge" = some (.ref a.f_judge)
  F_judge_all : Fun K "judge_all" "judge_all" s_judge_all a.f_judge_all a.d_judge_all
  b_judge_all : Binds K a.d_judge_all ["panel", "nears"] []
  mg_judge_all : mg "judge_all" = some (.ref a.f_judge_all)
  F_moved : Fun K "moved" "moved" s_moved a.f_moved a.d_moved
  b_moved : Binds K a.d_moved ["put_out", "voted", "rate"] []
  mg_moved : mg "moved" = some (.ref a.f_moved)
  F_follow : Fun K "follow" "follow" s_follow a.f_follow a.d_follow
  b_follow : Binds K a.d_follow ["panel", "voted"] []
  mg_follow : mg "follow" = some (.ref a.f_follow)
  F_told : Fun K "told" "told" s_told a.f_told a.d_told
  b_told : Binds K a.d_told ["number"] []
  mg_told : mg "told" = some (.ref a.f_told)
  F_take_sample : Fun K "take_sample" "take_sample" s_take_sample a.f_take_sample a.d_take_sample
  b_take_sample : Binds K a.d_take_sample ["panel", "readings"] []
  mg_take_sample : mg "take_sample" = some (.ref a.f_take_sample)
  F_bar : Fun K "bar" "bar" s_bar a.f_bar a.d_bar
  b_bar : Binds K a.d_bar ["panel", "i"] []
  mg_bar : mg "bar" = some (.ref a.f_bar)
  F_free : Fun K "free" "free" s_free a.f_free a.d_free
  b_free : Binds K a.d_free ["panel", "i"] []
  mg_free : mg "free" = some (.ref a.f_free)
  F_samples_to_change : Fun K "samples_to_change" "samples_to_change" s_samples_to_change a.f_samples_to_change a.d_samples_to_change
  b_samples_to_change : Binds K a.d_samples_to_change ["panel", "i"] []
  mg_samples_to_change : mg "samples_to_change" = some (.ref a.f_samples_to_change)
  F_trimmed_mean : Fun K "trimmed_mean" "trimmed_mean" s_trimmed_mean a.f_trimmed_mean a.d_trimmed_mean
  b_trimmed_mean : Binds K a.d_trimmed_mean ["numbers", "f"] []
  mg_trimmed_mean : mg "trimmed_mean" = some (.ref a.f_trimmed_mean)
  F_how_many_events : Fun K "how_many_events" "how_many_events" s_how_many_events a.f_how_many_events a.d_how_many_events
  b_how_many_events : Binds K a.d_how_many_events ["panel", "what"] []
  mg_how_many_events : mg "how_many_events" = some (.ref a.f_how_many_events)
  F_Desk_init : Fun K "__init__" "Desk.__init__" s_Desk_init a.f_Desk_init a.d_Desk_init
  b_Desk_init : Binds K a.d_Desk_init ["self"] []
  F_lay_fits : Fun K "lay_fits" "lay_fits" s_lay_fits a.f_lay_fits a.d_lay_fits
  b_lay_fits : Binds K a.d_lay_fits ["n", "tol", "p", "q", "rate"] []
  mg_lay_fits : mg "lay_fits" = some (.ref a.f_lay_fits)
  F_lay : Fun K "lay" "lay" s_lay a.f_lay a.d_lay
  b_lay : Binds K a.d_lay ["desk", "numbers"] []
  mg_lay : mg "lay" = some (.ref a.f_lay)
  F_reading_fits : Fun K "reading_fits" "reading_fits" s_reading_fits a.f_reading_fits a.d_reading_fits
  b_reading_fits : Binds K a.d_reading_fits ["mark", "reading"] []
  mg_reading_fits : mg "reading_fits" = some (.ref a.f_reading_fits)
  F_sample_fits : Fun K "sample_fits" "sample_fits" s_sample_fits a.f_sample_fits a.d_sample_fits
  b_sample_fits : Binds K a.d_sample_fits ["row", "n"] []
  mg_sample_fits : mg "sample_fits" = some (.ref a.f_sample_fits)
  F_sample : Fun K "sample" "sample" s_sample a.f_sample a.d_sample
  b_sample : Binds K a.d_sample ["panel", "row"] []
  mg_sample : mg "sample" = some (.ref a.f_sample)
  F_value : Fun K "value" "value" s_value a.f_value a.d_value
  b_value : Binds K a.d_value ["panel"] []
  mg_value : mg "value" = some (.ref a.f_value)
  F_sensor_state : Fun K "sensor_state" "sensor_state" s_sensor_state a.f_sensor_state a.d_sensor_state
  b_sensor_state : Binds K a.d_sensor_state ["sensor"] []
  mg_sensor_state : mg "sensor_state" = some (.ref a.f_sensor_state)
  F_bar_sensor : Fun K "bar_sensor" "bar_sensor" s_bar_sensor a.f_bar_sensor a.d_bar_sensor
  b_bar_sensor : Binds K a.d_bar_sensor ["panel", "i"] []
  mg_bar_sensor : mg "bar_sensor" = some (.ref a.f_bar_sensor)
  F_free_sensor : Fun K "free_sensor" "free_sensor" s_free_sensor a.f_free_sensor a.d_free_sensor
  b_free_sensor : Binds K a.d_free_sensor ["panel", "i"] []
  mg_free_sensor : mg "free_sensor" = some (.ref a.f_free_sensor)
  F_soonest : Fun K "soonest" "soonest" s_soonest a.f_soonest a.d_soonest
  b_soonest : Binds K a.d_soonest ["panel", "i"] []
  mg_soonest : mg "soonest" = some (.ref a.f_soonest)
  F_answer_of_sensor : Fun K "answer_of_sensor" "answer_of_sensor" s_answer_of_sensor a.f_answer_of_sensor a.d_answer_of_sensor
  b_answer_of_sensor : Binds K a.d_answer_of_sensor ["panel", "call", "i"] []
  mg_answer_of_sensor : mg "answer_of_sensor" = some (.ref a.f_answer_of_sensor)
  F_trusted_list : Fun K "trusted_list" "trusted_list" s_trusted_list a.f_trusted_list a.d_trusted_list
  b_trusted_list : Binds K a.d_trusted_list ["panel"] []
  mg_trusted_list : mg "trusted_list" = some (.ref a.f_trusted_list)
  F_trim : Fun K "trim" "trim" s_trim a.f_trim a.d_trim
  b_trim : Binds K a.d_trim ["panel", "f"] []
  mg_trim : mg "trim" = some (.ref a.f_trim)
  F_log : Fun K "log" "log" s_log a.f_log a.d_log
  b_log : Binds K a.d_log ["panel", "k"] []
  mg_log : mg "log" = some (.ref a.f_log)
  F_totals : Fun K "totals" "totals" s_totals a.f_totals a.d_totals
  b_totals : Binds K a.d_totals ["panel"] []
  mg_totals : mg "totals" = some (.ref a.f_totals)
  F_answer_laid : Fun K "answer_laid" "answer_laid" s_answer_laid a.f_answer_laid a.d_answer_laid
  b_answer_laid : Binds K a.d_answer_laid ["panel", "call", "numbers"] []
  mg_answer_laid : mg "answer_laid" = some (.ref a.f_answer_laid)
  F_answer_call : Fun K "answer_call" "answer_call" s_answer_call a.f_answer_call a.d_answer_call
  b_answer_call : Binds K a.d_answer_call ["desk", "call", "numbers"] []
  mg_answer_call : mg "answer_call" = some (.ref a.f_answer_call)
  F_numbers_behind : Fun K "numbers_behind" "numbers_behind" s_numbers_behind a.f_numbers_behind a.d_numbers_behind
  b_numbers_behind : Binds K a.d_numbers_behind ["calls", "at"] []
  mg_numbers_behind : mg "numbers_behind" = some (.ref a.f_numbers_behind)
  F_answers : Fun K "answers" "answers" s_answers a.f_answers a.d_answers
  b_answers : Binds K a.d_answers ["calls"] []
  mg_answers : mg "answers" = some (.ref a.f_answers)
  c_SHUT_OUT : ∃ t, mg "SHUT_OUT" = some (.int (0) t)
  c_TRUSTED_AGAIN : ∃ t, mg "TRUSTED_AGAIN" = some (.int (1) t)
  c_BARRED : ∃ t, mg "BARRED" = some (.int (2) t)
  c_FREED : ∃ t, mg "FREED" = some (.int (3) t)
  c_LAY : ∃ t, mg "LAY" = some (.int (0) t)
  c_SAMPLE : ∃ t, mg "SAMPLE" = some (.int (1) t)
  c_WOULD : ∃ t, mg "WOULD" = some (.int (2) t)
  c_VALUE : ∃ t, mg "VALUE" = some (.int (3) t)
  c_SENSOR : ∃ t, mg "SENSOR" = some (.int (4) t)
  c_TRUSTED : ∃ t, mg "TRUSTED" = some (.int (5) t)
  c_BAR : ∃ t, mg "BAR" = some (.int (6) t)
  c_FREE : ∃ t, mg "FREE" = some (.int (7) t)
  c_SOONEST : ∃ t, mg "SOONEST" = some (.int (8) t)
  c_TRIM : ∃ t, mg "TRIM" = some (.int (9) t)
  c_LOG : ∃ t, mg "LOG" = some (.int (10) t)
  c_TOTALS : ∃ t, mg "TOTALS" = some (.int (11) t)
  c_OUT_OF_RANGE : ∃ t, mg "OUT_OF_RANGE" = some (.int (-1) t)
  c_NOTHING_LAID : ∃ t, mg "NOTHING_LAID" = some (.int (-2) t)
  c_IS_BARRED : ∃ t, mg "IS_BARRED" = some (.int (-3) t)
  c_NOT_BARRED : ∃ t, mg "NOT_BARRED" = some (.int (-4) t)
  c_TOO_FEW_VOTES : ∃ t, mg "TOO_FEW_VOTES" = some (.int (-5) t)
  c_GREATEST_READING : ∃ t, mg "GREATEST_READING" = some (.int (1000000000000) t)
  c_GREATEST_STEP : ∃ t, mg "GREATEST_STEP" = some (.int (1000000000) t)
  c_GREATEST_TRIM : ∃ t, mg "GREATEST_TRIM" = some (.int (4) t)
  c_GREATEST_EVENT : ∃ t, mg "GREATEST_EVENT" = some (.int (100000) t)
  c_EVENTS_AT_ONCE : ∃ t, mg "EVENTS_AT_ONCE" = some (.int (50) t)
  g_abs : mg "abs" = none
  g_all : mg "all" = none
  g_len : mg "len" = none
  g_list : mg "list" = none
  g_range : mg "range" = none
  g_sorted : mg "sorted" = none
  g_sum : mg "sum" = none
section
variable {X : Cx}
theorem pe_gint {x : Str} {i : Int} {pos : Pos} (hg : Gl X x) (h : ∃ t, X.mg x = some (.int i t)) (hd : (x == ("__debug__" : Str)) = false := by decide) : PE X (.Name x pos) (tC (.int i)) := by
  obtain ⟨t, h⟩ := h
  exact pe_glob hg h ⟨t, rfl⟩ hd
end
section
variable {X : Cx}
theorem pe_lcO (own : List (Str × Nat)) {elt tg iter : Expr} {ifs : List Expr} {scope : Scope} {pos : Pos} {wi : TI} {g : TG} {tt : TT} {te : TE} (hc : X.calm = true) (hN : X.N.Nodup) (ok : BlkOk X.N X.env.scope scope own) (hi : PI X tg iter wi)
    (hg : ∀ (s : Shared) (H : Hp) (C : Addr) (cl : List (Str × Addr)) (fp : List Addr), PG (X.blk s H scope (compEnvC scope cl C X.env) fp) tg g) (ht : ∀ (s : Shared) (H : Hp) (C : Addr) (cl : List (Str × Addr)) (fp : List Addr), PTs (X.blk s H scope (compEnvC scope cl C X.env) fp) ifs tt)
    (he : ∀ (s : Shared) (H : Hp) (C : Addr) (cl : List (Str × Addr)) (fp : List Addr), PE (X.blk s H scope (compEnvC scope cl C X.env) fp) elt te) (hs : ∀ x, foldedSetIterable iter X.env x = pure x := by intro _; rfl) :
    PE X (.ListComp elt [⟨tg, iter, ifs, 0⟩] scope pos) (tLc wi g tt te (own.map (·.2))) := pe_lc hc hN hi ok hg ht he hs
theorem ps_setLcO (own : List (Str × Nat)) (i : Nat) {y : Str} {py : Pos} {elt tg iter : Expr} {ifs : List Expr} {scope : Scope} {pos spos : Pos} {wi : TI} {g : TG} {tt : TT} {te : TE} (hc : X.calm = true) (hN : X.N.Nodup) (hy : X.N[i]? = some y) (hyl : X.env.scope.names.lookup y = some .local)
    (hsw : swapsWith (.ListComp elt [⟨tg, iter, ifs, 0⟩] scope pos) (some (.Name y py)) spos.line X.env = pure true) (ok : BlkOk X.N X.env.scope scope own) (hi : PI X tg iter wi)
    (hg : ∀ (s : Shared) (H : Hp) (C : Addr) (cl : List (Str × Addr)) (fp : List Addr), PG (X.blk s H scope (compEnvC scope cl C X.env) fp) tg g) (ht : ∀ (s : Shared) (H : Hp) (C : Addr) (cl : List (Str × Addr)) (fp : List Addr), PTs (X.blk s H scope (compEnvC scope cl C X.env) fp) ifs tt)
    (he : ∀ (s : Shared) (H : Hp) (C : Addr) (cl : List (Str × Addr)) (fp : List Addr), PE (X.blk s H scope (compEnvC scope cl C X.env) fp) elt te) (hs : ∀ x, foldedSetIterable iter X.env x = pure x := by intro _; rfl) :
    PS X (.Assign [.Name y py] (.ListComp elt [⟨tg, iter, ifs, 0⟩] scope pos) spos) (tAsg (tLc wi g tt te (own.map (·.2))) (gName i)) := ps_setLc hc hN hy hyl hsw hi ok hg ht he hs
end
section
variable {X : Cx} {o e value : Expr} {f : Str} {pos pos' tpos : Pos} {ta tv : TE}
theorem pe_fldK (K : PySem.W.Frag) (hK : X.K = K) (he : PE X e ta) (hb : attributeBase e f X.env (eval e X.env) = eval e X.env) : PE X (.Attribute e f pos) (tFld K ta f) := by
  subst hK; exact pe_fld he hb
theorem ps_fldK (K : PySem.W.Frag) (hK : X.K = K) (ha : PE X o ta) (hv : PE X value tv) (hs : swapsWith value (some (.Attribute o f pos')) pos.line X.env = pure false) : PS X (.Assign [.Attribute o f pos'] value pos) (sFld K ta tv f) := by
  subst hK; exact ps_fld ha hv hs
theorem ix_listK (K : PySem.W.Frag) (hK : X.K = K) : IxR X (rIxL K) := by subst hK; exact ix_list
theorem sl_listK (K : PySem.W.Frag) (hK : X.K = K) : SlR X (rSlL K) := by subst hK; exact sl_list
theorem len_seqK (K : PySem.W.Frag) (hK : X.K = K) : CallR X (.builtin "len") (fun xs H Q => ∃ p ys, xs = [.ref p] ∧ (SqL K H p ys ∨ SqT K H p ys) ∧ Q (.int ys.length) H) := by subst hK; exact call_len_seq
theorem list_ofK (K : PySem.W.Frag) (hK : X.K = K) : CallR X (.type "list") (fun xs H Q => ∃ p ys, xs = [.ref p] ∧ (SqL K H p ys ∨ SqT K H p ys) ∧ ∀ l, H l = none → Q (.ref l) (upd H l (.lst ys))) := by subst hK; exact call_list_of
theorem sortedK (K : PySem.W.Frag) (hK : X.K = K) : CallR X (.builtin "sorted") (rSorted K) := by subst hK; exact cr_sorted
theorem sumK (K : PySem.W.Frag) (hK : X.K = K) (hc : X.calm = true) : CallR X (.builtin "sum") (rSum K) := by subst hK; exact cr_sum hc
theorem allK (K : PySem.W.Frag) (hK : X.K = K) (hc : X.calm = true) : CallR X (.builtin "all") (rAll K) := by subst hK; exact cr_all hc
theorem ix_tupK (K : PySem.W.Frag) (hK : X.K = K) : IxR X (rIxT K) := by subst hK; exact ix_tup
theorem op_inK (K : PySem.W.Frag) (hK : X.K = K) : OpR X (compareOp .In) (rIn K false) := by subst hK; exact op_in_seq
theorem ext_tup (l b : Addr) (xs ys : Array Value) (n m : Nat) (dd : Option Addr) (ss : Array (Option Value)) (h0 : ¬(!xs.isEmpty && Builtin.List.listTooLong (xs.size + ys.size)) = true) (h1 : xs.size ≤ sizeLine) (h2 : xs.size + ys.size ≤ sizeLine + 1) :
    Meets (Builtin.«list.extend» ⟨[.ref l, .ref b], []⟩) (fun _ R s => s.heap.get? l = some { cls := .type "list", dict := none, data := .seq xs n, slots := #[] } ∧ s.heap.get? b = some { cls := .type "tuple", dict := dd, data := .seq ys m, slots := ss } ∧ R (.ok (.ret Value.none)) { s with heap := s.heap.update l (Obj.mapSeq fun x => x ++ ys), toks := s.toks }) := by
  refine .of_wp fun pr wo ar re sh hh => ?_
  obtain ⟨hp, ge, dr, tk, os⟩ := sh
  obtain ⟨hl, hb, hh⟩ := hh
  have hsum : (xs ++ ys).size ≤ sizeLine + 1 := Array.size_append ▸ h2
  have e1 := AutoSeq1.idx_int
  have e2 := AutoSeq1.sub_tuple_tuple
  have e3 := AutoSeq1.sub_list_list
  have e4 := AutoSeq1.sub_tuple_list
  have e5 := AutoSeq1.sub_list_tuple
  wp_walk using (wpAny_updateSeq hl rfl (hz := h1) (_hz' := hsum)), AutoSeq1.wpAny_loadPart' hl, AutoSeq1.wpAny_loadPart' hb
  exact ⟨_, rfl, hh⟩
noncomputable def rExtendT (K : PySem.W.Frag) : V → List V → Hp → VK → Prop := fun x vs H Q => ∃ l b xs zs, x = .ref l ∧ vs = [.ref b] ∧ H l = some (.lst xs) ∧ SqT K H b zs ∧ xs.length + zs.length ≤ sizeLine ∧ Q .non (upd H l (.lst (xs ++ zs)))
theorem mt_extendT (K : PySem.W.Frag) (hK : X.K = K) : MtM X "list.extend" (rExtendT K) := by
  subst hK
  intro pins s σ H x vs v us Q I rx rv h
  obtain ⟨l, b, xs, zs, rfl, rfl, hH, hB, hz, q⟩ := h
  cases rx
  obtain ⟨u, rfl, ru⟩ := rv.one
  cases ru
  obtain ⟨z, its, n, r, hl, e⟩ := I.lstM hH
  obtain ⟨its2, r2, ⟨⟨c2, dd, dt, ss⟩, e2, hc2, n2, hd2⟩, hz2⟩ := I.tuple hB
  dsimp only at hc2 hd2
  subst hc2
  subst hd2
  have hl2 : zs.length = its2.length := r2.length
  have hsz : its.toArray.size + its2.toArray.size ≤ sizeLine := by rw [List.size_toArray, List.size_toArray]; omega
  have hlong : ¬ (!its.toArray.isEmpty && Builtin.List.listTooLong (its.toArray.size + its2.toArray.size)) = true := by
    rw [notLongL hsz, Bool.and_false]
    exact Bool.false_ne_true
  refine call_meets F.slot_list_extend ⟨_, e, rfl⟩ F.entry_list_extend (F.args_list_extend_2 _ _)
    (ext_tup l b its.toArray its2.toArray n n2 dd ss hlong (by rw [List.size_toArray]; omega) (by omega)) ⟨e, e2, ?_⟩
  refine ⟨.non, _, I.lset (its' := its ++ its2) hH e (by simp) (r.append r2) ?_, rfl, q⟩
  rw [List.length_append]
  omega
theorem pi_listK (K : PySem.W.Frag) (hK : X.K = K) {tg l : Expr} {tl : TE} (hl : PE X l tl) : PI X tg l (iList K tl) := by subst hK; exact pi_list hl
end
end Vt

end
section
set_option genInjectivity false
set_option genSizeOf false
set_option Elab.async false
set_option linter.all false
set_option maxRecDepth 100000
set_option maxHeartbeats 2000000
namespace Vt
open PySem PySem.Spec PyProof.Rows L2
/-! ### the data -/
noncomputable abbrev Sn := Vbavae.Sensor
noncomputable def sf (c : Sn) : List (Str × V) := [("trusted", .bl c.inn), ("barred", .bl c.barred), ("bad", .int (c.bad : Nat)), ("good", .int (c.good : Nat))]
theorem sf_trusted (c : Sn) : (sf c).lookup ("trusted" : Str) = some (.bl c.inn) := rfl
theorem sf_barred (c : Sn) : (sf c).lookup ("barred" : Str) = some (.bl c.barred) := rfl
theorem sf_bad (c : Sn) : (sf c).lookup ("bad" : Str) = some (.int (c.bad : Nat)) := rfl
theorem sf_good (c : Sn) : (sf c).lookup ("good" : Str) = some (.int (c.good : Nat)) := rfl
theorem sf_put_trusted (c : Sn) (b : Bool) : putF "trusted" (.bl b) (sf c) = sf { c with inn := b } := rfl
theorem sf_put_barred (c : Sn) (b : Bool) : putF "barred" (.bl b) (sf c) = sf { c with barred := b } := rfl
theorem sf_put_bad (c : Sn) (b : Nat) : putF "bad" (.int (b : Nat)) (sf c) = sf { c with bad := b } := rfl
theorem sf_put_good (c : Sn) (b : Nat) : putF "good" (.int (b : Nat)) (sf c) = sf { c with good := b } := rfl
noncomputable def optV : Option Int → V
  | some x => .int x
  | none => .non
structure PF where
  tol : Int
  p : Nat
  q : Nat
  rate : Int
  ls : Addr
  samples : Nat
  le : Addr
  last : Option Int
  age : Nat
  out : Option Int
  lv : Addr
noncomputable def pf (d : PF) : List (Str × V) := [("tol", .int d.tol), ("p", .int (d.p : Nat)), ("q", .int (d.q : Nat)), ("rate", .int d.rate), ("sensors", .ref d.ls), ("samples", .int (d.samples : Nat)), ("events", .ref d.le), ("last", optV d.last), ("age", .int (d.age : Nat)), ("put_out", optV d.out), ("votes", .ref d.lv)]
theorem pf_tol (d : PF) : (pf d).lookup ("tol" : Str) = some (.int d.tol) := rfl
theorem pf_p (d : PF) : (pf d).lookup ("p" : Str) = some (.int (d.p : Nat)) := rfl
theorem pf_q (d : PF) : (pf d).lookup ("q" : Str) = some (.int (d.q : Nat)) := rfl
theorem pf_rate (d : PF) : (pf d).lookup ("rate" : Str) = some (.int d.rate) := rfl
theorem pf_sensors (d : PF) : (pf d).lookup ("sensors" : Str) = some (.ref d.ls) := rfl
theorem pf_samples (d : PF) : (pf d).lookup ("samples" : Str) = some (.int (d.samples : Nat)) := rfl
theorem pf_events (d : PF) : (pf d).lookup ("events" : Str) = some (.ref d.le) := rfl
theorem pf_last (d : PF) : (pf d).lookup ("last" : Str) = some (optV d.last) := rfl
theorem pf_age (d : PF) : (pf d).lookup ("age" : Str) = some (.int (d.age : Nat)) := rfl
theorem pf_put_out (d : PF) : (pf d).lookup ("put_out" : Str) = some (optV d.out) := rfl
theorem pf_votes (d : PF) : (pf d).lookup ("votes" : Str) = some (.ref d.lv) := rfl
theorem pf_put_sensors (d : PF) (x : Addr) : putF "sensors" (.ref x) (pf d) = pf { d with ls := x } := rfl
theorem pf_put_samples (d : PF) (x : Nat) : putF "samples" (.int (x : Nat)) (pf d) = pf { d with samples := x } := rfl
theorem pf_put_events (d : PF) (x : Addr) : putF "events" (.ref x) (pf d) = pf { d with le := x } := rfl
theorem pf_put_last (d : PF) (x : Option Int) : putF "last" (optV x) (pf d) = pf { d with last := x } := rfl
theorem pf_put_age (d : PF) (x : Nat) : putF "age" (.int (x : Nat)) (pf d) = pf { d with age := x } := rfl
theorem pf_put_put_out (d : PF) (x : Option Int) : putF "put_out" (optV x) (pf d) = pf { d with out := x } := rfl
theorem pf_put_votes (d : PF) (x : Addr) : putF "votes" (.ref x) (pf d) = pf { d with lv := x } := rfl
end Vt

end
section
set_option Elab.async false
set_option linter.all false
set_option maxRecDepth 100000
set_option maxHeartbeats 2000000
namespace Vt
open PySem PySem.Spec PyProof.Rows L2
/-! ### heaps -/
/-- what was tracked stays, but what stands in F -/
noncomputable def Keep (F : List Addr) (H H' : Hp) : Prop := ∀ b o, H b = some o → ¬ b ∈ F → H' b = some o
theorem Keep.refl (F : List Addr) (H : Hp) : Keep F H H := fun _ _ h _ => h
theorem Keep.trans {F : List Addr} {H H1 H2 : Hp} (x : Keep F H H1) (y : Keep F H1 H2) : Keep F H H2 := fun b o h n => y b o (x b o h n) n
theorem Keep.mono {F G : List Addr} {H H' : Hp} (x : Keep F H H') (h : ∀ b, b ∈ F → b ∈ G) : Keep G H H' := fun b o e n => x b o e fun q => n (h b q)
theorem Keep.of_same {F : List Addr} {H H' : Hp} (x : Same H H') : Keep F H H' := fun b o e _ => x b o e
theorem Keep.same {H H' : Hp} (x : Keep [] H H') : Same H H' := fun b o e => x b o e (by simp)
theorem same_upd {H : Hp} {p : Addr} {o : HO} (h : H p = none) : Same H (upd H p o) := fun b u e => by
  rw [upd_ne (ne_of_none e h)]; exact e
theorem keep_upd {H : Hp} {p : Addr} {o : HO} {F : List Addr} (h : p ∈ F) : Keep F H (upd H p o) := fun b u e n => by
  rw [upd_ne (fun q => n (by rw [q]; exact h))]; exact e
theorem Same.upd_new {H H1 : Hp} {p : Addr} {o : HO} (s : Same H H1) (h : H1 p = none) : Same H (upd H1 p o) := s.trans (same_upd h)
theorem iteDT {c A B : Prop} [Decidable c] (hc : c) (h : A) : if decide c = true then A else B := by rw [if_pos (decide_eq_true hc)]; exact h
theorem iteDF {c A B : Prop} [Decidable c] (hc : ¬ c) (h : B) : if decide c = true then A else B := by rw [if_neg (by rw [decide_eq_true_eq]; exact hc)]; exact h
theorem iteDN {c A B : Prop} [Decidable c] (hc : ¬ c) (h : A) : if (!decide c) = true then A else B := by rw [decide_eq_false hc]; exact h
/-! ### a sensor, the sensors -/
noncomputable def SensorAt (C : Addr) (H : Hp) (x : Addr) (c : Sn) : Prop := ∃ dx, H x = some (.ins C dx (sf c))
structure SensAt (C : Addr) (H : Hp) (l : Addr) (as : List Addr) (ss : List Sn) : Prop where
  lst : H l = some (.lst (as.map V.ref))
  nd : as.Nodup
  len : as.length = ss.length
  at_ : ∀ (j : Nat) (x : Addr), as[j]? = some x → ∃ c, ss[j]? = some c ∧ SensorAt C H x c
theorem SensorAt.same {C : Addr} {H H' : Hp} {x : Addr} {c : Sn} (h : SensorAt C H x c) (s : Same H H') : SensorAt C H' x c := by
  obtain ⟨dx, e⟩ := h; exact ⟨dx, s _ _ e⟩
theorem SensAt.same {C : Addr} {H H' : Hp} {l : Addr} {as : List Addr} {ss : List Sn} (h : SensAt C H l as ss) (s : Same H H') : SensAt C H' l as ss :=
  ⟨s _ _ h.lst, h.nd, h.len, fun j x e => by obtain ⟨c, e1, e2⟩ := h.at_ j x e; exact ⟨c, e1, e2.same s⟩⟩
/-- the sensor's default, as the specification has it -/
noncomputable def sd : Sn := ⟨false, 0, 0, true⟩
theorem SensAt.get {C : Addr} {H : Hp} {l : Addr} {as : List Addr} {ss : List Sn} (h : SensAt C H l as ss) {j : Nat} (hj : j < ss.length) : ∃ x, as[j]? = some x ∧ SensorAt C H x (ss.getD j sd) := by
  have hl : j < as.length := by rw [h.len]; exact hj
  refine ⟨as[j], List.getElem?_eq_getElem hl, ?_⟩
  obtain ⟨c, e1, e2⟩ := h.at_ j _ (List.getElem?_eq_getElem hl)
  rw [List.getD_eq_getElem?_getD, e1]
  exact e2
theorem map_get {α β : Type} {f : α → β} {l : List α} {j : Nat} {x : α} (h : l[j]? = some x) : (l.map f)[j]? = some (f x) := by
  rw [List.getElem?_map, h]; rfl
/-! ### comprehensions whose tests and items leave the heap as it is -/
theorem range_filter_succ (f : Nat → Bool) (i : Nat) : (List.range (i + 1)).filter f = (List.range i).filter f ++ (if f i = true then [i] else []) := by
  rw [List.range_succ, List.filter_append]
  congr 1
  by_cases h : f i = true
  · simp [h]
  · simp [h]
theorem filt_len (f : Nat → Bool) (n : Nat) : ((List.range n).filter f).length ≤ n := by
  have := List.length_filter_le f (List.range n)
  simpa using this
/-- over range(n) -/
theorem lc_rangeP {n : Nat} {g : TG} {tt : TT} {te : TE} {vs : List Nat} {σ : L2.St} {H1 : Hp} {D : Addr} {Qd : Hp → Prop} (f : Nat → Bool) (y : Nat → V) (hn : n ≤ 1000) (hD : H1 D = none)
    (hs : ∀ (i : Nat) (H : Hp) (Nt : Hp → Prop) (Ny : VK), i < n → Same H1 H → (f i = false → Nt H) → (f i = true → Ny (y i) H) → g (.int (0 + (i : Nat))) (wipe σ vs) H fun σ2 H2 => wipe σ2 vs = wipe σ vs ∧ tt σ2 H2 fun b H3 => if b = true then te σ2 H3 Ny else Nt H3)
    (hd : ∀ H, Same H1 H → H D = some (.lst (((List.range n).filter f).map y)) → Qd H) :
    ∃ W : Nat → Nat → Hp → Prop, (∃ m, W 0 m (upd H1 D (.lst []))) ∧ ∀ i m H, W i m H →
      ((Itr 0 n).stop i H ∧ Qd H) ∨ ((Itr 0 n).go i H ∧ ∃ Nx : Hp → Prop, (∀ H', Nx H' → ∃ m', m' < m ∧ W (i + 1) m' H') ∧ ∀ x H', (Itr 0 n).yld i H x H' → g x (wipe σ vs) H' fun σ2 H2 => wipe σ2 vs = wipe σ vs ∧ tt σ2 H2 fun b H3 =>
        if b = true then te σ2 H3 fun y H4 => ∃ acc, H4 D = some (.lst acc) ∧ acc.length < sizeLine ∧ Nx (upd H4 D (.lst (acc ++ [y]))) else Nx H3) := by
  refine lc_range (Qd := Qd) (fun i H => Same H1 H ∧ H D = some (.lst (((List.range i).filter f).map y))) ⟨same_upd hD, upd_same⟩ ?_ (fun H h => hd H h.1 h.2)
  rintro i H hi ⟨s, e⟩
  refine hs i H _ _ hi s (fun h => ⟨s, ?_⟩) (fun h => ⟨_, e, ?_, fun b o q => ?_, ?_⟩)
  · rw [range_filter_succ, if_neg (by rw [h]; decide), List.append_nil]; exact e
  · rw [List.length_map]
    exact Nat.lt_of_le_of_lt (filt_len f i) (Nat.lt_of_lt_of_le hi (Nat.le_trans hn (by decide)))
  · rw [upd_ne (ne_of_none q hD)]; exact s b o q
  · rw [upd_same, range_filter_succ, if_pos h, List.map_append]; rfl
/-- over a list -/
theorem filt_take_succ {α : Type} (f : α → Bool) {l : List α} {i : Nat} {x : α} (h : l[i]? = some x) : (l.take (i + 1)).filter f = (l.take i).filter f ++ (if f x = true then [x] else []) := by
  rw [List.take_add_one, h, List.filter_append]
  congr 1
  by_cases q : f x = true
  · simp [q]
  · simp [q]
theorem lc_listP {K : PySem.W.Frag} {a : Addr} {xs : List V} {g : TG} {tt : TT} {te : TE} {vs : List Nat} {σ : L2.St} {H1 : Hp} {D : Addr} {Qd : Hp → Prop} (f : V → Bool) (y : V → V) (hn : xs.length ≤ 10000) (hD : H1 D = none) (hl : SqL K H1 a xs)
    (hs : ∀ (i : Nat) (x : V) (H : Hp) (Nt : Hp → Prop) (Ny : VK), xs[i]? = some x → Same H1 H → (f x = false → Nt H) → (f x = true → Ny (y x) H) → g x (wipe σ vs) H fun σ2 H2 => wipe σ2 vs = wipe σ vs ∧ tt σ2 H2 fun b H3 => if b = true then te σ2 H3 Ny else Nt H3)
    (hd : ∀ H, Same H1 H → H D = some (.lst ((xs.filter f).map y)) → Qd H) :
    ∃ W : Nat → Nat → Hp → Prop, (∃ m, W 0 m (upd H1 D (.lst []))) ∧ ∀ i m H, W i m H →
      ((Itl K a).stop i H ∧ Qd H) ∨ ((Itl K a).go i H ∧ ∃ Nx : Hp → Prop, (∀ H', Nx H' → ∃ m', m' < m ∧ W (i + 1) m' H') ∧ ∀ x H', (Itl K a).yld i H x H' → g x (wipe σ vs) H' fun σ2 H2 => wipe σ2 vs = wipe σ vs ∧ tt σ2 H2 fun b H3 =>
        if b = true then te σ2 H3 fun y H4 => ∃ acc, H4 D = some (.lst acc) ∧ acc.length < sizeLine ∧ Nx (upd H4 D (.lst (acc ++ [y]))) else Nx H3) := by
  refine lc_list (K := K) (a := a) (xs := xs) (Qd := Qd) (fun i H => Same H1 H ∧ H D = some (.lst (((xs.take i).filter f).map y))) ⟨same_upd hD, upd_same⟩ (fun i H _ h => h.1.seq hl) ?_ (fun H h => hd H h.1 (by rw [h.2, List.take_length]))
  rintro i x H hi ⟨s, e⟩
  have hi' : i < xs.length := (List.getElem?_eq_some_iff.mp hi).1
  refine hs i x H _ _ hi s (fun h => ⟨s, ?_⟩) (fun h => ⟨_, e, ?_, fun b o q => ?_, ?_⟩)
  · rw [filt_take_succ f hi, if_neg (by rw [h]; decide), List.append_nil]; exact e
  · rw [List.length_map]
    have h1 := List.length_filter_le f (xs.take i)
    rw [List.length_take] at h1
    have : (10000 : Nat) < sizeLine := by decide
    omega
  · rw [upd_ne (ne_of_none q hD)]; exact s b o q
  · rw [upd_same, filt_take_succ f hi, if_pos h, List.map_append]; rfl
end Vt

end
section
set_option Elab.async false
set_option linter.all false
set_option maxRecDepth 100000
set_option maxHeartbeats 2000000
namespace Vt
open PySem PySem.Spec PyProof.Rows L2
noncomputable def spTold : Sp := fun vs H Q _ => ∃ o : Option Int, vs = [optV o] ∧ ∀ p, H p = none → Q (.ref p) (upd H p (.lst ((Vbavae.told o).map V.int)))
noncomputable def spNear : Sp := fun vs H Q _ => ∃ (x v : Option Int) (tol : Int), vs = [optV x, optV v, .int tol] ∧ Q (.bl (Vbavae.near tol x v)) H
noncomputable def spMoved : Sp := fun vs H Q _ => ∃ (y : Option Int) (v rate : Int), vs = [optV y, .int v, .int rate] ∧ 0 ≤ rate ∧ Q (optV (Vbavae.moved rate y (some v))) H
theorem abs_near {x v t : Int} {Q : VK} {H : Hp} (k : Q (.bl (Vbavae.near t (some x) (some v))) H) : Q (.bl (decide ((if x - v < 0 then -(x - v) else x - v) ≤ t))) H := by
  have e : (if x - v < 0 then -(x - v) else x - v) = Vbavae.far x v := by unfold Vbavae.far; split <;> omega
  rw [e]; exact k
section
variable {P : Program} {w : World} {K : PySem.W.Frag} {mg : Str → Option Value} {base : Heap} {a : Ad}
theorem ok_told (T : Txt K mg a) : FnOk P w K mg base CX0 1 a.f_told a.d_told ["number"] spTold := by
  refine T.F_told.ok sc_told (fun vs H Q E h => ?_) (fun cdv A outer s H vs Q E hr h => ?_)
  · obtain ⟨o, rfl, _⟩ := h; rfl
  · obtain ⟨o, rfl, k⟩ := h
    refine ⟨_, (pss_cons (ps_if (pt_cmp (pc_isN (pv 0))) (pss_one (ps_ret (pe_lst (pa_cons pe_int (pa_cons pe_int pa_nil))))) pss_nil) (pss_one (ps_ret (pe_lst (pa_cons pe_int (pa_cons (pv 0) pa_nil)))))), ?_⟩
    refine ⟨_, rfl, _, rfl, ?_⟩
    cases o with
    | none => exact iteT ⟨by decide, k⟩
    | some x => exact iteF ⟨_, rfl, by show 2 ≤ sizeLine; decide, k⟩
theorem ok_is_near (T : Txt K mg a) : FnOk P w K mg base CX0 1 a.f_is_near a.d_is_near ["reading", "voted", "tol"] spNear := by
  refine T.F_is_near.ok sc_is_near (fun vs H Q E h => ?_) (fun cdv A outer s H vs Q E hr h => ?_)
  · obtain ⟨x, v, t, rfl, _⟩ := h; rfl
  · obtain ⟨x, v, t, rfl, k⟩ := h
    refine ⟨_, (pss_cons (ps_if (PW.pt (pw_or (pt_cmp (pc_isN (pv 0))) (pw_or1 (pt_cmp (pc_isN (pv 1)))))) (pss_one (ps_ret pe_bl)) pss_nil) (pss_one (ps_ret (pe_cmpR op_le (pe_callB call_abs (by rfl) T.g_abs (by rfl) (pa_cons (pe_op op_sub (pv 0) (pv 1)) pa_nil)) (pv 2) (nomark _))))), ?_⟩
    refine ⟨_, rfl, _, rfl, ?_⟩
    cases x with
    | none => cases v <;> exact iteT (iteT k)
    | some x =>
      refine iteF ⟨_, rfl, _, rfl, ?_⟩
      cases v with
      | none => exact iteT k
      | some v => exact iteF ⟨_, rfl, _, rfl, _, _, rfl, rfl, _, rfl, _, rfl, _, _, rfl, rfl, abs_near k⟩
theorem ok_moved (T : Txt K mg a) : FnOk P w K mg base CX0 1 a.f_moved a.d_moved ["put_out", "voted", "rate"] spMoved := by
  refine T.F_moved.ok sc_moved (fun vs H Q E h => ?_) (fun cdv A outer s H vs Q E hr h => ?_)
  · obtain ⟨y, v, r, rfl, _⟩ := h; rfl
  · obtain ⟨y, v, r, rfl, hr0, k⟩ := h
    refine ⟨_, (pss_cons (ps_if (PW.pt (pw_or (pt_cmp (pc_isN (pv 0))) (pw_or1 (pt_cmpR op_le (pe_callB call_abs (by rfl) T.g_abs (by rfl) (pa_cons (pe_op op_sub (pv 1) (pv 0)) pa_nil)) (pv 2) (nomark _))))) (pss_one (ps_ret (pv 1))) pss_nil) (pss_cons (ps_if (pt_cmpR op_gt (pv 1) (pv 0) (nomark _)) (pss_one (ps_ret (pe_op op_add (pv 0) (pv 2)))) pss_nil) (pss_one (ps_ret (pe_op op_sub (pv 0) (pv 2)))))), ?_⟩
    refine ⟨_, rfl, _, rfl, ?_⟩
    cases y with
    | none => exact iteT (iteT ⟨_, rfl, k⟩)
    | some y =>
      refine iteF ⟨_, rfl, _, rfl, _, _, rfl, rfl, _, rfl, _, rfl, _, _, rfl, rfl, _, rfl, ?_⟩
      have k' : Q (.int (if v < y - r then y - r else if y + r < v then y + r else v)) H := k
      have e : (if v - y < 0 then -(v - y) else v - y) ≤ r ↔ (¬ v < y - r ∧ ¬ y + r < v) := by split <;> omega
      by_cases h1 : v < y - r
      · rw [if_pos h1] at k'
        refine iteDF (by rw [e]; omega) ⟨_, rfl, _, rfl, _, _, rfl, rfl, _, rfl, ?_⟩
        exact iteDF (by omega) ⟨_, rfl, _, rfl, _, _, rfl, rfl, k'⟩
      · rw [if_neg h1] at k'
        by_cases h2 : y + r < v
        · rw [if_pos h2] at k'
          refine iteDF (by rw [e]; omega) ⟨_, rfl, _, rfl, _, _, rfl, rfl, _, rfl, ?_⟩
          exact iteDT (by omega) ⟨_, rfl, _, rfl, _, _, rfl, rfl, k'⟩
        · rw [if_neg h2] at k'
          exact iteDT (e.mpr ⟨h1, h2⟩) ⟨_, rfl, k'⟩
end
/-! ### the sensors' numbers -/
noncomputable def trusN (ss : List Sn) : List Nat := (List.range ss.length).filter fun i => (ss.getD i sd).inn && !(ss.getD i sd).barred
noncomputable def freeN (ss : List Sn) : List Nat := (List.range ss.length).filter fun i => !(ss.getD i sd).barred
noncomputable def natV (n : Nat) : V := .int (n : Nat)
noncomputable def spNums (C : Addr) (f : List Sn → List Nat) : Sp := fun vs H Q _ => ∃ l as ss, vs = [.ref l] ∧ SensAt C H l as ss ∧ ss.length ≤ 9 ∧ ∀ H' p, Same H H' → H p = none → H' p = some (.lst ((f ss).map natV)) → Q (.ref p) H'
theorem rd_sens {K : PySem.W.Frag} {C : Addr} {H : Hp} {l : Addr} {as : List Addr} {ss : List Sn} {f : Str} {i j1 j2 : Nat} {v : V} {z : Int} {σ : L2.St} {Q : VK} (S : SensAt C H l as ss) (hi : i < ss.length) (cl : Cls K C) (n : NoAttr K C f)
    (hf : (sf (ss.getD i sd)).lookup f = some v) (h1 : σ[j1]? = some (some (.ref l))) (h2 : σ[j2]? = some (some (.int z))) (hz : z = (i : Nat)) (q : Q v H) : tFld K (tOp (rIxL K) (tVar j1) (tVar j2)) f σ H Q := by
  obtain ⟨x, hx, dx, hS⟩ := S.get hi
  exact ⟨_, h1, _, h2, l, _, _, _, rfl, rfl, SqL.of S.lst, at_of (j := i) hz (map_get hx), x, _, dx, _, _, rfl, hS, cl, n, hf, q⟩
theorem len_nat {α β : Type} {l : List α} {m : List β} {f : α → V} (h : l.length = m.length) : (((l.map f).length : Nat) : Int).toNat = m.length := by
  rw [List.length_map, h]; omega
section
variable {P : Program} {w : World} {K : PySem.W.Frag} {mg : Str → Option Value} {base : Heap} {a : Ad}
theorem ok_trusted_numbers (T : Txt K mg a) : FnOk P w K mg base CX0 1 a.f_trusted_numbers a.d_trusted_numbers ["sensors"] (spNums a.C_Sensor trusN) := by
  refine T.F_trusted_numbers.ok sc_trusted_numbers (fun vs H Q E h => ?_) (fun cdv A outer s H vs Q E hr h => ?_)
  · obtain ⟨l, as, ss, rfl, _⟩ := h; rfl
  · obtain ⟨l, as, ss, rfl, S, hn, k⟩ := h
    refine ⟨_, (pss_one (ps_ret (pe_lcO [("i", 1)] rfl sc_trusted_numbers.nd (blkOk_by (by rfl)) (pi_range1 rfl T.g_range (pa_cons (pe_callB (len_seqK K rfl) (by rfl) T.g_len PySem.boot_len (pa_cons (pv 0) pa_nil)) pa_nil)) (fun _ _ _ _ _ => pg_name (i := 1) sc_trusted_numbers.nd rfl (Or.inl rfl)) (fun _ _ _ _ _ => pts_one (PW.pt (pw_and (pt_val (pe_fldK K rfl (pe_ix (ix_listK K rfl) (pv 0) (pv 1) (fun _ _ => rfl)) rfl)) (pw_and1 (pt_not (pt_val (pe_fldK K rfl (pe_ix (ix_listK K rfl) (pv 0) (pv 1) (fun _ _ => rfl)) rfl))))))) (fun _ _ _ _ _ => (pv 1))))), ?_⟩
    have hlen : (as.map V.ref).length = ss.length := by rw [List.length_map, S.len]
    refine ⟨_, rfl, l, _, rfl, .inl (SqL.of S.lst), _, rfl, by omega, by omega, fun D hD => ?_⟩
    rw [len_nat S.len]
    refine lc_rangeP (fun i => (ss.getD i sd).inn && !(ss.getD i sd).barred) natV (by omega) hD (fun i H' Nt Ny hi s f0 f1 => ⟨rfl, ?_⟩) (fun H' s e => k H' D s hD e)
    refine rd_sens (S.same s) hi T.cl_Sensor T.n_Sensor_trusted (sf_trusted _) rfl rfl (by omega) ⟨_, rfl, ?_⟩
    cases e1 : (ss.getD i sd).inn
    · exact iteF (iteF (f0 (by rw [e1]; rfl)))
    · refine iteT (rd_sens (S.same s) hi T.cl_Sensor T.n_Sensor_barred (sf_barred _) rfl rfl (by omega) ⟨_, rfl, ?_⟩)
      cases e2 : (ss.getD i sd).barred
      · exact iteT ⟨_, rfl, by rw [Int.zero_add]; exact f1 (by rw [e1, e2]; rfl)⟩
      · exact iteF (f0 (by rw [e1, e2]; rfl))
theorem ok_unbarred_numbers (T : Txt K mg a) : FnOk P w K mg base CX0 1 a.f_unbarred_numbers a.d_unbarred_numbers ["sensors"] (spNums a.C_Sensor freeN) := by
  refine T.F_unbarred_numbers.ok sc_unbarred_numbers (fun vs H Q E h => ?_) (fun cdv A outer s H vs Q E hr h => ?_)
  · obtain ⟨l, as, ss, rfl, _⟩ := h; rfl
  · obtain ⟨l, as, ss, rfl, S, hn, k⟩ := h
    refine ⟨_, (pss_one (ps_ret (pe_lcO [("i", 1)] rfl sc_unbarred_numbers.nd (blkOk_by (by rfl)) (pi_range1 rfl T.g_range (pa_cons (pe_callB (len_seqK K rfl) (by rfl) T.g_len PySem.boot_len (pa_cons (pv 0) pa_nil)) pa_nil)) (fun _ _ _ _ _ => pg_name (i := 1) sc_unbarred_numbers.nd rfl (Or.inl rfl)) (fun _ _ _ _ _ => pts_one (pt_not (pt_val (pe_fldK K rfl (pe_ix (ix_listK K rfl) (pv 0) (pv 1) (fun _ _ => rfl)) rfl)))) (fun _ _ _ _ _ => (pv 1))))), ?_⟩
    have hlen : (as.map V.ref).length = ss.length := by rw [List.length_map, S.len]
    refine ⟨_, rfl, l, _, rfl, .inl (SqL.of S.lst), _, rfl, by omega, by omega, fun D hD => ?_⟩
    rw [len_nat S.len]
    refine lc_rangeP (fun i => !(ss.getD i sd).barred) natV (by omega) hD (fun i H' Nt Ny hi s f0 f1 => ⟨rfl, ?_⟩) (fun H' s e => k H' D s hD e)
    refine rd_sens (S.same s) hi T.cl_Sensor T.n_Sensor_barred (sf_barred _) rfl rfl (by omega) ⟨_, rfl, ?_⟩
    cases e2 : (ss.getD i sd).barred
    · exact iteT ⟨_, rfl, by rw [Int.zero_add]; exact f1 (by rw [e2]; rfl)⟩
    · exact iteF (f0 (by rw [e2]; rfl))
end
end Vt

end
section
set_option Elab.async false
set_option linter.all false
set_option maxRecDepth 100000
set_option maxHeartbeats 2000000
namespace Vt
open PySem PySem.Spec PyProof.Rows L2
/-! ### one sensor -/
noncomputable def spSInit (C : Addr) : Sp := fun vs H Q _ => ∃ (p dx : Addr), vs = [.ref p] ∧ H p = some (.ins C dx []) ∧ Q .non (upd H p (.ins C dx (sf Vbavae.fresh)))
noncomputable def spSCopy (C : Addr) : Sp := fun vs H Q _ => ∃ (x : Addr) (c : Sn), vs = [.ref x] ∧ SensorAt C H x c ∧ ∀ H' p, Same H H' → H p = none → SensorAt C H' p c → Q (.ref p) H'
/-- as the specification judges; the counts that don't count are 0 -/
structure WfS (p q : Nat) (c : Sn) : Prop where
  g0 : c.inn = true → c.good = 0
  b0 : c.inn = false → c.bad = 0
  bp : c.bad < p
  gq : c.good < q
noncomputable def whatV (x y : Sn) : V := if x.inn = y.inn then .non else .int ((if y.inn = true then 1 else 0 : Nat) : Nat)
noncomputable def spJudge (C : Addr) : Sp := fun vs H Q _ => ∃ (x : Addr) (c : Sn) (nr : Bool) (g : Vbavae.Form), vs = [.ref x, .bl nr, .int (g.p : Nat), .int (g.q : Nat)] ∧ SensorAt C H x c ∧ c.barred = false ∧ WfS g.p g.q c ∧
  ∀ H', SensorAt C H' x (Vbavae.judged g c nr) → Keep [x] H H' → Q (whatV c (Vbavae.judged g c nr)) H'
noncomputable def spBegin (C : Addr) : Sp := fun vs H Q _ => ∃ (x : Addr) (c : Sn) (b : Bool), vs = [.ref x, .bl b] ∧ SensorAt C H x c ∧ ∀ H', SensorAt C H' x ⟨b, 0, 0, c.barred⟩ → Keep [x] H H' → Q .non H'
theorem keep1 {H : Hp} {x : Addr} {o : HO} : Keep [x] H (upd H x o) := keep_upd (by simp)
theorem Keep.upd1 {H H1 : Hp} {x : Addr} {o : HO} (h : Keep [x] H H1) : Keep [x] H (upd H1 x o) := h.trans keep1
section
variable {P : Program} {w : World} {K : PySem.W.Frag} {mg : Str → Option Value} {base : Heap} {a : Ad}
theorem ok_Sensor_init (T : Txt K mg a) : FnOk P w K mg base CX0 1 a.f_Sensor_init a.d_Sensor_init ["self"] (spSInit a.C_Sensor) := by
  refine T.F_Sensor_init.ok sc_Sensor_init (fun vs H Q E h => ?_) (fun cdv A outer s H vs Q E hr h => ?_)
  · obtain ⟨p, dx, rfl, _⟩ := h; rfl
  · obtain ⟨p, dx, rfl, hp, k⟩ := h
    refine ⟨_, (pss_cons (ps_fldK K rfl (pv 0) pe_bl rfl) (pss_cons (ps_fldK K rfl (pv 0) pe_bl rfl) (pss_cons (ps_fldK K rfl (pv 0) pe_int rfl) (pss_one (ps_fldK K rfl (pv 0) pe_int rfl))))), ?_⟩
    refine ⟨_, rfl, p, _, dx, _, rfl, hp, T.cl_Sensor, T.n_Sensor_trusted, (by show 0 < 1000; decide), ?_⟩
    refine ⟨_, rfl, p, _, dx, _, rfl, upd_same, T.cl_Sensor, T.n_Sensor_barred, (by show 1 < 1000; decide), ?_⟩
    refine ⟨_, rfl, p, _, dx, _, rfl, upd_same, T.cl_Sensor, T.n_Sensor_bad, (by show 2 < 1000; decide), ?_⟩
    refine ⟨_, rfl, p, _, dx, _, rfl, upd_same, T.cl_Sensor, T.n_Sensor_good, (by show 3 < 1000; decide), ?_⟩
    rw [upd_upd, upd_upd, upd_upd]
    exact k
theorem ok_copied_sensor (T : Txt K mg a) : FnOk P w K mg base CX0 3 a.f_copied_sensor a.d_copied_sensor ["sensor"] (spSCopy a.C_Sensor) := by
  refine T.F_copied_sensor.ok sc_copied_sensor (fun vs H Q E h => ?_) (fun cdv A outer s H vs Q E hr h => ?_)
  · obtain ⟨x, c, rfl, _⟩ := h; rfl
  · obtain ⟨x, c, rfl, ⟨dx, hx⟩, k⟩ := h
    refine ⟨_, (pss_cons (ps_set (i := 1) sc_copied_sensor.nd rfl (Or.inl rfl) (pe_make0 T.mk_Sensor (ok_Sensor_init T) (hr.mono (by decide)) rfl T.mg_Sensor T.b_Sensor_init .nil pass0)) (pss_cons (ps_fldK K rfl (pv 1) (pe_fldK K rfl (pv 0) rfl) rfl) (pss_cons (ps_fldK K rfl (pv 1) (pe_fldK K rfl (pv 0) rfl) rfl) (pss_cons (ps_fldK K rfl (pv 1) (pe_fldK K rfl (pv 0) rfl) rfl) (pss_cons (ps_fldK K rfl (pv 1) (pe_fldK K rfl (pv 0) rfl) rfl) (pss_one (ps_ret (pv 1)))))))), ?_⟩
    intro y dy ny ndy ne
    refine ⟨y, dy, rfl, upd_same, rfl, ?_⟩
    rw [upd_upd]
    have hS : ∀ o, (upd (upd H dy (.own y)) y o) x = some (.ins a.C_Sensor dx (sf c)) := fun o => by
      rw [upd_ne (ne_of_none hx ny), upd_ne (ne_of_none hx ndy)]; exact hx
    refine ⟨_, rfl, x, _, dx, _, _, rfl, hS _, T.cl_Sensor, T.n_Sensor_trusted, sf_trusted _, _, rfl, y, _, dy, _, rfl, upd_same, T.cl_Sensor, T.n_Sensor_trusted, (by show 4 < 1000; decide), ?_⟩
    rw [upd_upd, sf_put_trusted]
    refine ⟨_, rfl, x, _, dx, _, _, rfl, hS _, T.cl_Sensor, T.n_Sensor_barred, sf_barred _, _, rfl, y, _, dy, _, rfl, upd_same, T.cl_Sensor, T.n_Sensor_barred, (by show 4 < 1000; decide), ?_⟩
    rw [upd_upd, sf_put_barred]
    refine ⟨_, rfl, x, _, dx, _, _, rfl, hS _, T.cl_Sensor, T.n_Sensor_bad, sf_bad _, _, rfl, y, _, dy, _, rfl, upd_same, T.cl_Sensor, T.n_Sensor_bad, (by show 4 < 1000; decide), ?_⟩
    rw [upd_upd, sf_put_bad]
    refine ⟨_, rfl, x, _, dx, _, _, rfl, hS _, T.cl_Sensor, T.n_Sensor_good, sf_good _, _, rfl, y, _, dy, _, rfl, upd_same, T.cl_Sensor, T.n_Sensor_good, (by show 4 < 1000; decide), ?_⟩
    rw [upd_upd, sf_put_good]
    refine ⟨_, rfl, ?_⟩
    refine k _ y (fun b o e => ?_) ny ⟨dy, upd_same⟩
    rw [upd_ne (ne_of_none e ny), upd_ne (ne_of_none e ndy)]; exact e
theorem ok_begin_state (T : Txt K mg a) : FnOk P w K mg base CX0 1 a.f_begin_state a.d_begin_state ["sensor", "trusted"] (spBegin a.C_Sensor) := by
  refine T.F_begin_state.ok sc_begin_state (fun vs H Q E h => ?_) (fun cdv A outer s H vs Q E hr h => ?_)
  · obtain ⟨x, c, b, rfl, _⟩ := h; rfl
  · obtain ⟨x, c, b, rfl, ⟨dx, hx⟩, k⟩ := h
    refine ⟨_, (pss_cons (ps_fldK K rfl (pv 0) (pv 1) rfl) (pss_cons (ps_fldK K rfl (pv 0) pe_int rfl) (pss_one (ps_fldK K rfl (pv 0) pe_int rfl)))), ?_⟩
    refine ⟨_, rfl, _, rfl, x, _, dx, _, rfl, hx, T.cl_Sensor, T.n_Sensor_trusted, (by show 4 < 1000; decide), ?_⟩
    refine ⟨_, rfl, x, _, dx, _, rfl, upd_same, T.cl_Sensor, T.n_Sensor_bad, (by show 4 < 1000; decide), ?_⟩
    refine ⟨_, rfl, x, _, dx, _, rfl, upd_same, T.cl_Sensor, T.n_Sensor_good, (by show 4 < 1000; decide), ?_⟩
    exact k _ ⟨dx, upd_same⟩ keep1.upd1.upd1
theorem ok_judge (T : Txt K mg a) : FnOk P w K mg base CX0 2 a.f_judge a.d_judge ["sensor", "near", "p", "q"] (spJudge a.C_Sensor) := by
  refine T.F_judge.ok sc_judge (fun vs H Q E h => ?_) (fun cdv A outer s H vs Q E hr h => ?_)
  · obtain ⟨x, c, nr, g, rfl, _⟩ := h; rfl
  · obtain ⟨x, c, nr, g, rfl, ⟨dx, hx⟩, hb, wf, k⟩ := h
    refine ⟨_, (pss_cons (ps_if (pt_val (pe_fldK K rfl (pv 0) rfl)) (pss_cons (ps_fldK K rfl (pv 0) (pe_ifExp (pt_val (pv 1)) pe_int (pe_op op_add (pe_fldK K rfl (pv 0) rfl) pe_int)) rfl) (pss_one (ps_if (pt_cmpR op_lt (pe_fldK K rfl (pv 0) rfl) (pv 2) (nomark _)) (pss_one (ps_ret pe_non)) pss_nil))) (pss_cons (ps_fldK K rfl (pv 0) (pe_ifExp (pt_val (pv 1)) (pe_op op_add (pe_fldK K rfl (pv 0) rfl) pe_int) pe_int) rfl) (pss_one (ps_if (pt_cmpR op_lt (pe_fldK K rfl (pv 0) rfl) (pv 3) (nomark _)) (pss_one (ps_ret pe_non)) pss_nil)))) (pss_cons (ps_expr (pe_call (ok_begin_state T) (hr.mono (by decide)) rfl T.mg_begin_state T.F_begin_state.kp T.b_begin_state .nil pass0 (pa_cons (pv 0) (pa_cons (pe_not (pe_fldK K rfl (pv 0) rfl)) pa_nil)))) (pss_one (ps_ret (pe_ifExp (pt_val (pe_fldK K rfl (pv 0) rfl)) (pe_gint rfl T.c_TRUSTED_AGAIN) (pe_gint rfl T.c_SHUT_OUT)))))), ?_⟩
    refine ⟨_, rfl, x, _, dx, _, _, rfl, hx, T.cl_Sensor, T.n_Sensor_trusted, sf_trusted _, _, rfl, ?_⟩
    have w1 : g.p ≥ 1 := Nat.lt_of_le_of_lt (Nat.zero_le _) wf.bp
    have w2 : g.q ≥ 1 := Nat.lt_of_le_of_lt (Nat.zero_le _) wf.gq
    obtain ⟨ci, cb, cg, cr⟩ := c
    have hb' : cr = false := hb
    subst hb'
    cases ci with
    | true =>
      have hg : cg = 0 := wf.g0 rfl
      subst hg
      refine iteT ⟨_, rfl, nr, rfl, ?_⟩
      cases nr with
      | true =>
        refine iteT ⟨_, rfl, x, _, dx, _, rfl, hx, T.cl_Sensor, T.n_Sensor_bad, (by show 4 < 1000; decide), ?_⟩
        refine ⟨_, rfl, x, _, dx, _, _, rfl, upd_same, T.cl_Sensor, T.n_Sensor_bad, sf_bad ⟨true, 0, 0, false⟩, _, rfl, _, _, rfl, rfl, _, rfl, ?_⟩
        refine iteDT (show ((0 : Nat) : Int) < (g.p : Nat) by omega) ?_
        have e : Vbavae.judged g ⟨true, cb, 0, false⟩ true = ⟨true, 0, 0, false⟩ := by
          unfold Vbavae.judged
          simp only [if_true, if_false, Bool.false_eq_true]
          rw [if_neg (show ¬ g.p ≤ 0 by omega)]
        rw [e] at k
        exact k _ ⟨dx, upd_same⟩ keep1
      | false =>
        refine iteF ⟨_, rfl, x, _, dx, _, _, rfl, hx, T.cl_Sensor, T.n_Sensor_bad, sf_bad _, _, _, rfl, rfl, _, rfl, x, _, dx, _, rfl, hx, T.cl_Sensor, T.n_Sensor_bad, (by show 4 < 1000; decide), ?_⟩
        refine ⟨_, rfl, x, _, dx, _, _, rfl, upd_same, T.cl_Sensor, T.n_Sensor_bad, sf_bad ⟨true, cb + 1, 0, false⟩, _, rfl, _, _, rfl, rfl, _, rfl, ?_⟩
        by_cases hp : g.p ≤ cb + 1
        · refine iteDF (show ¬ ((cb + 1 : Nat) : Int) < (g.p : Nat) by omega) ?_
          refine ⟨_, rfl, _, rfl, x, _, dx, _, _, rfl, upd_same, T.cl_Sensor, T.n_Sensor_trusted, sf_trusted ⟨true, cb + 1, 0, false⟩, _, rfl, x, ⟨true, cb + 1, 0, false⟩, _, rfl, ⟨dx, upd_same⟩, fun H3 hc3 k3 => ?_⟩
          obtain ⟨dx3, hx3⟩ := hc3
          refine ⟨_, rfl, x, _, dx3, _, _, rfl, hx3, T.cl_Sensor, T.n_Sensor_trusted, sf_trusted ⟨false, 0, 0, false⟩, _, rfl, iteF ?_⟩
          have e : Vbavae.judged g ⟨true, cb, 0, false⟩ false = ⟨false, 0, 0, false⟩ := by
            unfold Vbavae.judged
            simp only [if_true, if_false, Bool.false_eq_true]
            rw [if_pos hp]
          rw [e] at k
          exact k _ ⟨dx3, hx3⟩ (keep1.trans k3)
        · refine iteDT (show ((cb + 1 : Nat) : Int) < (g.p : Nat) by omega) ?_
          have e : Vbavae.judged g ⟨true, cb, 0, false⟩ false = ⟨true, cb + 1, 0, false⟩ := by
            unfold Vbavae.judged
            simp only [if_true, if_false, Bool.false_eq_true]
            rw [if_neg hp]
          rw [e] at k
          exact k _ ⟨dx, upd_same⟩ keep1
    | false =>
      have hg : cb = 0 := wf.b0 rfl
      subst hg
      refine iteF ⟨_, rfl, nr, rfl, ?_⟩
      cases nr with
      | false =>
        refine iteF ⟨_, rfl, x, _, dx, _, rfl, hx, T.cl_Sensor, T.n_Sensor_good, (by show 4 < 1000; decide), ?_⟩
        refine ⟨_, rfl, x, _, dx, _, _, rfl, upd_same, T.cl_Sensor, T.n_Sensor_good, sf_good ⟨false, 0, 0, false⟩, _, rfl, _, _, rfl, rfl, _, rfl, ?_⟩
        refine iteDT (show ((0 : Nat) : Int) < (g.q : Nat) by omega) ?_
        have e : Vbavae.judged g ⟨false, 0, cg, false⟩ false = ⟨false, 0, 0, false⟩ := by
          unfold Vbavae.judged
          simp only [if_true, if_false, Bool.false_eq_true]
          rw [if_neg (show ¬ g.q ≤ 0 by omega)]
        rw [e] at k
        exact k _ ⟨dx, upd_same⟩ keep1
      | true =>
        refine iteT ⟨_, rfl, x, _, dx, _, _, rfl, hx, T.cl_Sensor, T.n_Sensor_good, sf_good _, _, _, rfl, rfl, _, rfl, x, _, dx, _, rfl, hx, T.cl_Sensor, T.n_Sensor_good, (by show 4 < 1000; decide), ?_⟩
        refine ⟨_, rfl, x, _, dx, _, _, rfl, upd_same, T.cl_Sensor, T.n_Sensor_good, sf_good ⟨false, 0, cg + 1, false⟩, _, rfl, _, _, rfl, rfl, _, rfl, ?_⟩
        by_cases hp : g.q ≤ cg + 1
        · refine iteDF (show ¬ ((cg + 1 : Nat) : Int) < (g.q : Nat) by omega) ?_
          refine ⟨_, rfl, _, rfl, x, _, dx, _, _, rfl, upd_same, T.cl_Sensor, T.n_Sensor_trusted, sf_trusted ⟨false, 0, cg + 1, false⟩, _, rfl, x, ⟨false, 0, cg + 1, false⟩, _, rfl, ⟨dx, upd_same⟩, fun H3 hc3 k3 => ?_⟩
          obtain ⟨dx3, hx3⟩ := hc3
          refine ⟨_, rfl, x, _, dx3, _, _, rfl, hx3, T.cl_Sensor, T.n_Sensor_trusted, sf_trusted ⟨true, 0, 0, false⟩, _, rfl, iteT ?_⟩
          have e : Vbavae.judged g ⟨false, 0, cg, false⟩ true = ⟨true, 0, 0, false⟩ := by
            unfold Vbavae.judged
            simp only [if_true, if_false, Bool.false_eq_true]
            rw [if_pos hp]
          rw [e] at k
          exact k _ ⟨dx3, hx3⟩ (keep1.trans k3)
        · refine iteDT (show ((cg + 1 : Nat) : Int) < (g.q : Nat) by omega) ?_
          have e : Vbavae.judged g ⟨false, 0, cg, false⟩ true = ⟨false, 0, cg + 1, false⟩ := by
            unfold Vbavae.judged
            simp only [if_true, if_false, Bool.false_eq_true]
            rw [if_neg hp]
          rw [e] at k
          exact k _ ⟨dx, upd_same⟩ keep1
end
end Vt

end
section
set_option Elab.async false
set_option linter.all false
set_option maxRecDepth 100000
set_option maxHeartbeats 2000000
namespace Vt
open PySem PySem.Spec PyProof.Rows L2
noncomputable def votN (ss : List Sn) : List Nat := if (trusN ss).isEmpty = true then freeN ss else trusN ss
noncomputable def ballL (ss : List Sn) (rd : List (Option Int)) : List Int := (votN ss).filterMap fun i => rd.getD i none
theorem trusN_lt {ss : List Sn} {i : Nat} (h : i ∈ trusN ss) : i < ss.length := List.mem_range.mp (List.mem_filter.mp h).1
theorem freeN_lt {ss : List Sn} {i : Nat} (h : i ∈ freeN ss) : i < ss.length := List.mem_range.mp (List.mem_filter.mp h).1
theorem votN_lt {ss : List Sn} {i : Nat} (h : i ∈ votN ss) : i < ss.length := by
  unfold votN at h
  split at h
  · exact freeN_lt h
  · exact trusN_lt h
theorem votN_len (ss : List Sn) : (votN ss).length ≤ ss.length := by
  unfold votN
  split
  · exact filt_len _ _
  · exact filt_len _ _
theorem ball_len (ss : List Sn) (rd : List (Option Int)) : (ballL ss rd).length ≤ ss.length := Nat.le_trans (List.length_filterMap_le _ _) (votN_len ss)
noncomputable def isI : List (Option Int) → V → Bool
  | rd, .int z => (rd.getD z.toNat none).isSome
  | _, _ => false
noncomputable def itI : List (Option Int) → V → V
  | rd, .int z => optV (rd.getD z.toNat none)
  | _, v => v
theorem natV_toNat (i : Nat) : ((i : Nat) : Int).toNat = i := by omega
theorem votes_eq (rd : List (Option Int)) : ∀ us : List Nat, ((us.map natV).filter (isI rd)).map (itI rd) = (us.filterMap fun i => rd.getD i none).map V.int
  | [] => rfl
  | i :: us => by
    have ih := votes_eq rd us
    rw [List.map_cons, List.filter_cons, List.filterMap_cons]
    have e1 : isI rd (natV i) = (rd.getD i none).isSome := by show (rd.getD ((i : Nat) : Int).toNat none).isSome = _; rw [natV_toNat]
    have e2 : itI rd (natV i) = optV (rd.getD i none) := by show optV (rd.getD ((i : Nat) : Int).toNat none) = _; rw [natV_toNat]
    rw [e1]
    cases e : rd.getD i none with
    | none => exact ih
    | some z =>
      show itI rd (natV i) :: _ = V.int z :: _
      rw [e2, e, ih]
      rfl
noncomputable def spVotes (C : Addr) : Sp := fun vs H Q _ => ∃ l as ss r rd, vs = [.ref l, .ref r] ∧ SensAt C H l as ss ∧ ss.length ≤ 9 ∧ H r = some (.lst (rd.map optV)) ∧ rd.length = ss.length ∧ ∀ H' p, Same H H' → H p = none → H' p = some (.lst ((ballL ss rd).map V.int)) → Q (.ref p) H'
noncomputable def spMid : Sp := fun vs H Q _ => ∃ l ns, vs = [.ref l] ∧ H l = some (.lst (ns.map V.int)) ∧ ns.length < 64 ∧ ∀ H', Same H H' → Q (optV (Vbavae.middle ns)) H'
section
variable {P : Program} {w : World} {K : PySem.W.Frag} {mg : Str → Option Value} {base : Heap} {a : Ad}
theorem ok_voters (T : Txt K mg a) : FnOk P w K mg base CX0 2 a.f_voters a.d_voters ["sensors"] (spNums a.C_Sensor votN) := by
  refine T.F_voters.ok sc_voters (fun vs H Q E h => ?_) (fun cdv A outer s H vs Q E hr h => ?_)
  · obtain ⟨l, as, ss, rfl, _⟩ := h; rfl
  · obtain ⟨l, as, ss, rfl, S, hn, k⟩ := h
    refine ⟨_, (pss_cons (ps_set (i := 1) sc_voters.nd rfl (Or.inl rfl) (pe_call (ok_trusted_numbers T) (hr.mono (by decide)) rfl T.mg_trusted_numbers T.F_trusted_numbers.kp T.b_trusted_numbers .nil pass0 (pa_cons (pv 0) pa_nil))) (pss_cons (ps_if (pt_cmpR op_gt (pe_callB (len_seqK K rfl) (by rfl) T.g_len PySem.boot_len (pa_cons (pv 1) pa_nil)) pe_int (nomark _)) (pss_one (ps_ret (pv 1))) pss_nil) (pss_one (ps_ret (pe_call (ok_unbarred_numbers T) (hr.mono (by decide)) rfl T.mg_unbarred_numbers T.F_unbarred_numbers.kp T.b_unbarred_numbers .nil pass0 (pa_cons (pv 0) pa_nil)))))), ?_⟩
    refine ⟨_, rfl, l, as, ss, rfl, S, hn, fun H1 p s1 np hp => ?_⟩
    refine ⟨_, rfl, p, _, rfl, .inl (SqL.of hp), _, _, rfl, rfl, _, rfl, ?_⟩
    by_cases e : (trusN ss).isEmpty = true
    · have e0 : trusN ss = [] := List.isEmpty_iff.mp e
      refine iteDF (by rw [e0]; decide) ?_
      refine ⟨_, rfl, l, as, ss, rfl, S.same s1, hn, fun H2 q s2 nq hq => ?_⟩
      refine k H2 q (s1.trans s2) (s1.free nq) ?_
      rw [hq]; unfold votN; rw [if_pos e]
    · refine iteDT ?_ ⟨_, rfl, k H1 p s1 np ?_⟩
      · have : trusN ss ≠ [] := fun q => e (by rw [q]; rfl)
        have := List.length_pos_iff.mpr this
        rw [List.length_map]
        omega
      · rw [hp]; unfold votN; rw [if_neg e]
theorem ok_votes_of (T : Txt K mg a) : FnOk P w K mg base CX0 3 a.f_votes_of a.d_votes_of ["sensors", "readings"] (spVotes a.C_Sensor) := by
  refine T.F_votes_of.ok sc_votes_of (fun vs H Q E h => ?_) (fun cdv A outer s H vs Q E hr h => ?_)
  · obtain ⟨l, as, ss, r, rd, rfl, _⟩ := h; rfl
  · obtain ⟨l, as, ss, r, rd, rfl, S, hn, hr1, hrl, k⟩ := h
    refine ⟨_, (pss_one (ps_ret (pe_lcO [("i", 2)] rfl sc_votes_of.nd (blkOk_by (by rfl)) (pi_listK K rfl (pe_call (ok_voters T) (hr.mono (by decide)) rfl T.mg_voters T.F_voters.kp T.b_voters .nil pass0 (pa_cons (pv 0) pa_nil))) (fun _ _ _ _ _ => pg_name (i := 2) sc_votes_of.nd rfl (Or.inl rfl)) (fun _ _ _ _ _ => pts_one (pt_cmp (pc_notN (pe_ix (ix_listK K rfl) (pv 1) (pv 2) (fun _ _ => rfl))))) (fun _ _ _ _ _ => (pe_ix (ix_listK K rfl) (pv 1) (pv 2) (fun _ _ => rfl)))))), ?_⟩
    refine ⟨_, rfl, l, as, ss, rfl, S, hn, fun H1 p s1 np hp => ?_⟩
    refine ⟨p, rfl, ⟨_, SqL.of hp⟩, fun D hD => ?_⟩
    refine lc_listP (xs := (votN ss).map natV) (isI rd) (itI rd) ?_ hD (SqL.of hp) (fun i x H' Nt Ny hi s f0 f1 => ⟨rfl, ?_⟩) (fun H' s e => ?_)
    · rw [List.length_map]
      have := votN_len ss
      omega
    · obtain ⟨j, hj, rfl⟩ : ∃ j, j ∈ votN ss ∧ x = natV j := by
        have := List.mem_of_getElem? hi
        obtain ⟨j, hj, e⟩ := List.mem_map.mp this
        exact ⟨j, hj, e.symm⟩
      have hjl : j < rd.length := by rw [hrl]; exact votN_lt hj
      have hH : H' r = some (.lst (rd.map optV)) := s _ _ (s1 _ _ hr1)
      have hat : (rd.map optV)[j]? = some (optV (rd.getD j none)) := by
        rw [List.getElem?_map, List.getD_eq_getElem?_getD, List.getElem?_eq_getElem hjl]; rfl
      refine ⟨_, rfl, _, rfl, r, _, _, _, rfl, rfl, SqL.of hH, at_of (j := j) rfl hat, _, rfl, ?_⟩
      have e1 : isI rd (natV j) = (rd.getD j none).isSome := by show (rd.getD ((j : Nat) : Int).toNat none).isSome = _; rw [natV_toNat]
      have e2 : itI rd (natV j) = optV (rd.getD j none) := by show optV (rd.getD ((j : Nat) : Int).toNat none) = _; rw [natV_toNat]
      rw [e1] at f0 f1
      rw [e2] at f1
      cases e : rd.getD j none with
      | none =>
        rw [e] at f0
        exact iteF (f0 rfl)
      | some z =>
        rw [e] at f1 hat
        exact iteT ⟨_, rfl, _, rfl, r, _, _, _, rfl, rfl, SqL.of hH, at_of (j := j) rfl hat, f1 rfl⟩
    · refine k H' D (s1.trans s) (s1.free hD) ?_
      rw [e, votes_eq]; rfl
theorem ok_middle (T : Txt K mg a) : FnOk P w K mg base CX0 1 a.f_middle a.d_middle ["numbers"] spMid := by
  refine T.F_middle.ok sc_middle (fun vs H Q E h => ?_) (fun cdv A outer s H vs Q E hr h => ?_)
  · obtain ⟨l, ns, rfl, _⟩ := h; rfl
  · obtain ⟨l, ns, rfl, hl, hn, k⟩ := h
    refine ⟨_, (pss_cons (ps_if (pt_cmpR op_eq (pe_callB (len_seqK K rfl) (by rfl) T.g_len PySem.boot_len (pa_cons (pv 0) pa_nil)) pe_int (nomark _)) (pss_one (ps_ret pe_non)) pss_nil) (pss_one (ps_ret (pe_ix (ix_listK K rfl) (pe_callB (sortedK K rfl) (by rfl) T.g_sorted (by rfl) (pa_cons (pv 0) pa_nil)) (pe_op op_fdiv (pe_op op_sub (pe_callB (len_seqK K rfl) (by rfl) T.g_len PySem.boot_len (pa_cons (pv 0) pa_nil)) pe_int) pe_int) (fun _ _ => rfl))))), ?_⟩
    refine ⟨_, rfl, l, _, rfl, .inl (SqL.of hl), rfl, _, rfl, ?_⟩
    by_cases e : ns = []
    · subst e
      exact iteDT rfl (k H (Same.refl H))
    · have hpos := List.length_pos_iff.mpr e
      refine iteDF ?_ ?_
      · rw [List.length_map]; intro q; injection q with q; omega
      · refine ⟨_, rfl, l, ns, rfl, SqL.of hl, hn, fun ns' p hp hs np => ?_⟩
        have em := Vm.sorted_is hp hs
        subst em
        have hlen := Vm.sort_len ns
        have hj : (ns.length - 1) / 2 < (Vbavae.sortInts ns).length := by rw [hlen]; omega
        refine ⟨_, rfl, l, _, rfl, .inl (SqL.of (same_upd np _ _ hl)), _, _, rfl, rfl, _, _, rfl, rfl, ⟨by decide, by decide⟩, p, _, _, _, rfl, rfl, SqL.of upd_same, at_of (j := (ns.length - 1) / 2) ?_ (map_get (List.getElem?_eq_getElem hj)), ?_⟩
        · rw [List.length_map]; omega
        · have q := k _ (same_upd np (o := .lst ((Vbavae.sortInts ns).map V.int)))
          unfold Vbavae.middle at q
          rw [List.getElem?_eq_getElem hj] at q
          exact q
end
end Vt

end
section
set_option genInjectivity false
set_option genSizeOf false
set_option Elab.async false
set_option linter.all false
set_option maxRecDepth 100000
set_option maxHeartbeats 2000000
namespace Vt
open PySem PySem.Spec PyProof.Rows L2
/-! ### the panel -/
structure PD where
  p : Addr
  dx : Addr
  ls : Addr
  le : Addr
  lv : Addr
  as : List Addr
  es : List Addr
noncomputable def PD.foot (d : PD) : List Addr := d.p :: d.le :: d.as
/-- all lists of the panel too -/
noncomputable def PD.reach (d : PD) : List Addr := d.ls :: d.lv :: d.foot
noncomputable def evV (e : Vbavae.Event) : HO := .tup [.int (e.time : Nat), .int (e.who : Nat), .int (e.what : Nat)]
structure EvsAt (H : Hp) (l : Addr) (es : List Addr) (log : List Vbavae.Event) : Prop where
  lst : H l = some (.lst (es.map V.ref))
  len : es.length = log.length
  at_ : ∀ (j : Nat) (x : Addr), es[j]? = some x → ∃ e, log[j]? = some e ∧ H x = some (evV e)
noncomputable def pfOf (d : PD) (s : Vbavae.St) : PF := ⟨s.form.tol, s.form.p, s.form.q, s.form.rate, d.ls, s.count, d.le, s.value, s.age, s.out, d.lv⟩
structure PanelAt (CS CP : Addr) (H : Hp) (d : PD) (s : Vbavae.St) : Prop where
  obj : H d.p = some (.ins CP d.dx (pf (pfOf d s)))
  sens : SensAt CS H d.ls d.as s.sensors
  evs : EvsAt H d.le d.es s.log
  vts : H d.lv = some (.lst (s.votes.map V.int))
  nle : d.ls ≠ d.le
  nve : d.lv ≠ d.le
theorem sf_ne_pf (c : Sn) (x : PF) : sf c ≠ pf x := fun h => by
  have := congrArg List.length h
  simp [sf, pf] at this
section
variable {CS CP : Addr} {H H' : Hp} {d : PD} {s s' : Vbavae.St}
theorem EvsAt.same {l : Addr} {es : List Addr} {log : List Vbavae.Event} (h : EvsAt H l es log) (k : Same H H') : EvsAt H' l es log :=
  ⟨k _ _ h.lst, h.len, fun j x e => by obtain ⟨c, e1, e2⟩ := h.at_ j x e; exact ⟨c, e1, k _ _ e2⟩⟩
theorem PanelAt.same (h : PanelAt CS CP H d s) (k : Same H H') : PanelAt CS CP H' d s :=
  ⟨k _ _ h.obj, h.sens.same k, h.evs.same k, k _ _ h.vts, h.nle, h.nve⟩
theorem PanelAt.as_at (h : PanelAt CS CP H d s) {x : Addr} (hx : x ∈ d.as) : ∃ c, SensorAt CS H x c := by
  obtain ⟨j, hj⟩ := List.getElem?_of_mem hx
  obtain ⟨c, _, e⟩ := h.sens.at_ j x hj
  exact ⟨c, e⟩
theorem PanelAt.p_as (h : PanelAt CS CP H d s) : ¬ d.p ∈ d.as := fun q => by
  obtain ⟨c, dx, e⟩ := h.as_at q
  rw [h.obj] at e
  injection e with e
  injection e with _ _ e
  exact sf_ne_pf _ _ e.symm
theorem PanelAt.track (h : PanelAt CS CP H d s) {b : Addr} (hb : b ∈ d.foot) : ∃ o, H b = some o := by
  rcases List.mem_cons.mp hb with rfl | hb
  · exact ⟨_, h.obj⟩
  · rcases List.mem_cons.mp hb with rfl | hb
    · exact ⟨_, h.evs.lst⟩
    · obtain ⟨c, dx, e⟩ := h.as_at hb
      exact ⟨_, e⟩
/-- a new thing is not of the panel -/
theorem PanelAt.new (h : PanelAt CS CP H d s) {b : Addr} (hb : H b = none) : ¬ b ∈ d.foot := fun q => by
  obtain ⟨o, e⟩ := h.track q
  rw [hb] at e
  cases e
/-- a list that isn't the events' is not of the panel's changing part -/
theorem PanelAt.out (h : PanelAt CS CP H d s) {b : Addr} {xs : List V} (hb : H b = some (.lst xs)) (ne : b ≠ d.le) : ¬ b ∈ d.foot := fun q => by
  rcases List.mem_cons.mp q with rfl | q
  · rw [h.obj] at hb; cases hb
  · rcases List.mem_cons.mp q with rfl | q
    · exact ne rfl
    · obtain ⟨c, dx, e⟩ := h.as_at q
      rw [hb] at e; cases e
theorem PanelAt.p_ne_lst (h : PanelAt CS CP H d s) {b : Addr} {xs : List V} (hb : H b = some (.lst xs)) : b ≠ d.p := fun q => by
  subst q; rw [h.obj] at hb; cases hb
/-- the panel's own object is written -/
theorem PanelAt.put (h : PanelAt CS CP H d s) (lv' : Addr) (e1 : s'.sensors = s.sensors) (e2 : s'.log = s.log) (hv : H lv' = some (.lst (s'.votes.map V.int))) (hn : lv' ≠ d.le) :
    PanelAt CS CP (upd H d.p (.ins CP d.dx (pf (pfOf { d with lv := lv' } s')))) { d with lv := lv' } s' := by
  refine ⟨upd_same, ⟨?_, h.sens.nd, by rw [e1]; exact h.sens.len, fun j x e => ?_⟩, ⟨?_, by rw [e2]; exact h.evs.len, fun j x e => ?_⟩, ?_, h.nle, hn⟩
  · rw [upd_ne (h.p_ne_lst h.sens.lst)]; exact h.sens.lst
  · obtain ⟨c, q1, dx, q2⟩ := h.sens.at_ j x e
    refine ⟨c, by rw [e1]; exact q1, dx, ?_⟩
    rw [upd_ne]
    · exact q2
    · intro q; exact h.p_as (by rw [← q]; exact List.mem_of_getElem? e)
  · rw [upd_ne (h.p_ne_lst h.evs.lst)]; exact h.evs.lst
  · obtain ⟨c, q1, q2⟩ := h.evs.at_ j x e
    refine ⟨c, by rw [e2]; exact q1, ?_⟩
    rw [upd_ne]
    · exact q2
    · intro q; subst q; rw [h.obj] at q2; cases q2
  · rw [upd_ne (h.p_ne_lst hv)]; exact hv
/-- one sensor is written -/
theorem SensAt.set {l x : Addr} {as : List Addr} {ss : List Sn} {j : Nat} {c : Sn} (S : SensAt CS H l as ss) (hx : as[j]? = some x) (hc : SensorAt CS H' x c) (k : Keep [x] H H') : SensAt CS H' l as (ss.set j c) := by
  obtain ⟨c0, hc0, dx0, hx0⟩ := S.at_ j x hx
  have nl : l ≠ x := ne_of S.lst hx0 (by intro q; cases q)
  refine ⟨k l _ S.lst (by simp [nl]), S.nd, by rw [List.length_set]; exact S.len, fun j' x' hx' => ?_⟩
  by_cases hjj : j' = j
  · subst hjj
    have ea : x' = x := Option.some.inj (hx'.symm.trans hx)
    subst ea
    exact ⟨c, List.getElem?_set_self (List.getElem?_eq_some_iff.mp hc0).1, hc⟩
  · obtain ⟨c', hc', dx', h'⟩ := S.at_ j' x' hx'
    have naa : x' ≠ x := fun q => hjj (nd_ix S.nd hx' (by rw [q]; exact hx))
    exact ⟨c', by rw [List.getElem?_set_ne (fun q => hjj q.symm)]; exact hc', dx', k x' _ h' (by simp [naa])⟩
theorem PanelAt.setS (h : PanelAt CS CP H d s) {j : Nat} {x : Addr} {c : Sn} (hx : d.as[j]? = some x) (hc : SensorAt CS H' x c) (k : Keep [x] H H') : PanelAt CS CP H' d { s with sensors := s.sensors.set j c } := by
  obtain ⟨c0, hc0, dx0, hx0⟩ := h.sens.at_ j x hx
  have ml : ∀ {b : Addr} {xs : List V}, H b = some (.lst xs) → ¬ b ∈ [x] := fun {b xs} hb q => by
    have q := List.mem_singleton.mp q
    subst q; rw [hb] at hx0; cases hx0
  refine ⟨k _ _ h.obj ?_, h.sens.set hx hc k, ⟨k _ _ h.evs.lst (ml h.evs.lst), h.evs.len, fun i y e => ?_⟩, k _ _ h.vts (ml h.vts), h.nle, h.nve⟩
  · intro q
    exact h.p_as (by rw [List.mem_singleton.mp q]; exact List.mem_of_getElem? hx)
  · obtain ⟨e0, q1, q2⟩ := h.evs.at_ i y e
    refine ⟨e0, q1, k _ _ q2 fun q => ?_⟩
    have q := List.mem_singleton.mp q
    subst q; rw [hx0] at q2; cases q2
/-- an event is written: its tuple at t, then the list -/
theorem PanelAt.addE (h : PanelAt CS CP H d s) {t : Addr} (e : Vbavae.Event) (ht : H t = none) :
    PanelAt CS CP (upd (upd H t (evV e)) d.le (.lst (d.es.map V.ref ++ [.ref t]))) { d with es := d.es ++ [t] } { s with log := s.log ++ [e] } := by
  have k : ∀ {b : Addr} {o : HO}, H b = some o → b ≠ d.le → (upd (upd H t (evV e)) d.le (.lst (d.es.map V.ref ++ [.ref t]))) b = some o := fun {b o} hb ne => by
    rw [upd_ne ne, upd_ne (ne_of_none hb ht)]; exact hb
  have nt : t ≠ d.le := fun q => by subst q; rw [h.evs.lst] at ht; cases ht
  have kin : ∀ {b : Addr} {C dx : Addr} {fs : List (Str × V)}, H b = some (.ins C dx fs) → b ≠ d.le := fun {b C dx fs} hb q => by
    subst q; rw [h.evs.lst] at hb; cases hb
  refine ⟨k h.obj (kin h.obj), ⟨k h.sens.lst h.nle, h.sens.nd, h.sens.len, fun j x q => ?_⟩, ⟨?_, ?_, fun j x q => ?_⟩, k h.vts h.nve, h.nle, h.nve⟩
  · obtain ⟨c, q1, dx, q2⟩ := h.sens.at_ j x q
    exact ⟨c, q1, dx, k q2 (kin q2)⟩
  · rw [upd_same, List.map_append]; rfl
  · show (d.es ++ [t]).length = (s.log ++ [e]).length
    rw [List.length_append, List.length_append, h.evs.len]; rfl
  · have q' : (d.es ++ [t])[j]? = some x := q
    by_cases hj : j < d.es.length
    · rw [List.getElem?_append_left hj] at q'
      obtain ⟨c, q1, q2⟩ := h.evs.at_ j x q'
      refine ⟨c, ?_, k q2 fun z => ?_⟩
      · show (s.log ++ [e])[j]? = some c
        rw [List.getElem?_append_left (by rw [← h.evs.len]; exact hj)]; exact q1
      · subst z; rw [h.evs.lst] at q2; cases q2
    · have hlt := (List.getElem?_eq_some_iff.mp q').1
      rw [List.length_append] at hlt
      have hj2 : j = d.es.length := by simp at hlt; omega
      subst hj2
      rw [List.getElem?_append_right (Nat.le_refl _)] at q'
      simp at q'
      subst q'
      refine ⟨e, ?_, ?_⟩
      · show (s.log ++ [e])[d.es.length]? = some e
        rw [h.evs.len, List.getElem?_append_right (Nat.le_refl _)]; simp
      · rw [upd_ne nt, upd_same]
end
end Vt

end
section
set_option Elab.async false
set_option linter.all false
set_option maxRecDepth 100000
set_option maxHeartbeats 2000000
namespace Vt
open PySem PySem.Spec PyProof.Rows L2
/-! ### judging all -/
noncomputable def jdg (g : Vbavae.Form) (ss : List Sn) (nrs : List Bool) (i : Nat) : Sn := Vbavae.judged g (ss.getD i sd) (nrs.getD i false)
noncomputable def evo (g : Vbavae.Form) (ss : List Sn) (nrs : List Bool) (t : Nat) (i : Nat) : Option Vbavae.Event :=
  if (ss.getD i sd).inn = (jdg g ss nrs i).inn then none else some ⟨t, i, if (jdg g ss nrs i).inn = true then 1 else 0⟩
/-- the sensors where those in us are judged -/
noncomputable def midS (g : Vbavae.Form) (ss : List Sn) (nrs : List Bool) (us : List Nat) : List Sn := (List.range ss.length).map fun i => if i ∈ us then jdg g ss nrs i else ss.getD i sd
theorem midS_len (g : Vbavae.Form) (ss : List Sn) (nrs : List Bool) (us : List Nat) : (midS g ss nrs us).length = ss.length := by
  unfold midS; rw [List.length_map, List.length_range]
theorem midS_get {g : Vbavae.Form} {ss : List Sn} {nrs : List Bool} {us : List Nat} {i : Nat} (h : i < ss.length) : (midS g ss nrs us)[i]? = some (if i ∈ us then jdg g ss nrs i else ss.getD i sd) := by
  unfold midS; rw [List.getElem?_map, List.getElem?_range h]; rfl
theorem midS_getD {g : Vbavae.Form} {ss : List Sn} {nrs : List Bool} {us : List Nat} {i : Nat} (h : i < ss.length) : (midS g ss nrs us).getD i sd = (if i ∈ us then jdg g ss nrs i else ss.getD i sd) := by
  rw [List.getD_eq_getElem?_getD, midS_get h]; rfl
theorem midS_nil (g : Vbavae.Form) (ss : List Sn) (nrs : List Bool) : midS g ss nrs [] = ss := by
  apply List.ext_getElem?
  intro i
  by_cases h : i < ss.length
  · rw [midS_get h, if_neg (by simp), List.getD_eq_getElem?_getD, List.getElem?_eq_getElem h]; rfl
  · rw [List.getElem?_eq_none (by rw [midS_len]; omega), List.getElem?_eq_none (by omega)]
theorem midS_snoc {g : Vbavae.Form} {ss : List Sn} {nrs : List Bool} {us : List Nat} {i : Nat} (h : i < ss.length) : (midS g ss nrs us).set i (jdg g ss nrs i) = midS g ss nrs (us ++ [i]) := by
  apply List.ext_getElem?
  intro j
  by_cases hj : j < ss.length
  · rw [midS_get hj]
    by_cases e : j = i
    · subst e
      rw [List.getElem?_set_self (by rw [midS_len]; exact hj), if_pos (by simp)]
    · rw [List.getElem?_set_ne (fun q => e q.symm), midS_get hj]
      congr 1
      by_cases m : j ∈ us
      · rw [if_pos m, if_pos (by simp [m])]
      · rw [if_neg m, if_neg (by simp [m, e])]
  · rw [List.getElem?_eq_none (by rw [List.length_set, midS_len]; omega), List.getElem?_eq_none (by rw [midS_len]; omega)]
theorem midS_all (g : Vbavae.Form) (ss : List Sn) (nrs : List Bool) : midS g ss nrs (freeN ss) = (List.range ss.length).map (jdg g ss nrs) := by
  unfold midS
  apply List.map_congr_left
  intro i hi
  by_cases m : i ∈ freeN ss
  · rw [if_pos m]
  · rw [if_neg m]
    have hb : (ss.getD i sd).barred = true := by
      cases e : (ss.getD i sd).barred with
      | true => rfl
      | false => exact absurd (List.mem_filter.mpr ⟨hi, by rw [e]; rfl⟩) m
    unfold jdg Vbavae.judged
    rw [if_pos hb]
theorem fm_congr {α β : Type} {f g : α → Option β} : ∀ {l : List α}, (∀ x, x ∈ l → f x = g x) → l.filterMap f = l.filterMap g
  | [], _ => rfl
  | x :: l, h => by
    rw [List.filterMap_cons, List.filterMap_cons, h x (List.mem_cons_self), fm_congr fun y hy => h y (List.mem_cons_of_mem _ hy)]
theorem fm_one {α β : Type} (f : α → Option β) (x : α) : [x].filterMap f = (f x).toList := by
  rw [List.filterMap_cons]; cases f x <;> rfl
theorem moved_none (r : Int) (y : Option Int) : Vbavae.moved r y none = y := by cases y <;> rfl
theorem evo_all (g : Vbavae.Form) (ss : List Sn) (nrs : List Bool) (t : Nat) : (freeN ss).filterMap (evo g ss nrs t) = (List.range ss.length).filterMap (evo g ss nrs t) := by
  unfold freeN
  rw [List.filterMap_filter]
  apply fm_congr
  intro i _
  cases e : (ss.getD i sd).barred with
  | false => rfl
  | true =>
    have : jdg g ss nrs i = ss.getD i sd := by unfold jdg Vbavae.judged; rw [if_pos e]
    unfold evo
    rw [this, if_pos rfl]
    rfl
theorem freeN_nd (ss : List Sn) : (freeN ss).Nodup := List.Pairwise.filter _ List.nodup_range
structure WfP (s : Vbavae.St) : Prop where
  n3 : 3 ≤ s.sensors.length
  n9 : s.sensors.length ≤ 9
  rt : 0 ≤ s.form.rate
  ws : ∀ i, i < s.sensors.length → WfS s.form.p s.form.q (s.sensors.getD i sd)
  vt : s.votes.length ≤ 9
noncomputable def spJAll (CS CP : Addr) : Sp := fun vs H Q _ => ∃ (d : PD) (s : Vbavae.St) (nl : Addr) (nrs : List Bool), vs = [.ref d.p, .ref nl] ∧ PanelAt CS CP H d s ∧ WfP s ∧ s.log.length ≤ 5000 ∧ H nl = some (.lst (nrs.map V.bl)) ∧ nl ≠ d.le ∧ nrs.length = s.sensors.length ∧
  ∀ H' es, PanelAt CS CP H' { d with es := es } { s with sensors := (List.range s.sensors.length).map (jdg s.form s.sensors nrs), log := s.log ++ (List.range s.sensors.length).filterMap (evo s.form s.sensors nrs s.count) } → Keep d.foot H H' → Q .non H'
noncomputable def spWrite (CS CP : Addr) : Sp := fun vs H Q _ => ∃ (d : PD) (s : Vbavae.St) (i z : Nat), vs = [.ref d.p, .int (i : Nat), .int (z : Nat)] ∧ PanelAt CS CP H d s ∧ s.log.length ≤ 6000 ∧
  ∀ H' t, PanelAt CS CP H' { d with es := d.es ++ [t] } { s with log := s.log ++ [⟨s.count, i, z⟩] } → Keep [d.le] H H' → Q .non H'
noncomputable def spFollow (CS CP : Addr) : Sp := fun vs H Q _ => ∃ (d : PD) (s : Vbavae.St) (v : Option Int), vs = [.ref d.p, optV v] ∧ PanelAt CS CP H d s ∧ WfP s ∧
  ∀ H', PanelAt CS CP H' d { s with value := if v.isSome = true then v else s.value, age := if v.isSome = true then 0 else s.age + 1, out := Vbavae.moved s.form.rate s.out v } → Keep d.foot H H' → Q .non H'
theorem take_snoc {α : Type} {l : List α} {i : Nat} {x : α} (h : l[i]? = some x) : l.take (i + 1) = l.take i ++ [x] := by
  rw [List.take_add_one, h]; rfl
theorem keep_foot_le {H : Hp} {d : PD} {o : HO} : Keep d.foot H (upd H d.le o) := keep_upd (by simp [PD.foot])
theorem keep_foot_p {H : Hp} {d : PD} {o : HO} : Keep d.foot H (upd H d.p o) := keep_upd (by simp [PD.foot])
section
variable {P : Program} {w : World} {K : PySem.W.Frag} {mg : Str → Option Value} {base : Heap} {a : Ad}
theorem ok_follow (T : Txt K mg a) : FnOk P w K mg base CX0 2 a.f_follow a.d_follow ["panel", "voted"] (spFollow a.C_Sensor a.C_Panel) := by
  refine T.F_follow.ok sc_follow (fun vs H Q E h => ?_) (fun cdv A outer s H vs Q E hr h => ?_)
  · obtain ⟨d, s, v, rfl, _⟩ := h; rfl
  · obtain ⟨d, s, v, rfl, B, wf, k⟩ := h
    refine ⟨_, (pss_cons (ps_if (pt_cmp (pc_isN (pv 1))) (pss_cons (ps_fldK K rfl (pv 0) (pe_op op_add (pe_fldK K rfl (pv 0) rfl) pe_int) rfl) (pss_one ps_retN)) pss_nil) (pss_cons (ps_fldK K rfl (pv 0) (pv 1) rfl) (pss_cons (ps_fldK K rfl (pv 0) pe_int rfl) (pss_one (ps_fldK K rfl (pv 0) (pe_call (ok_moved T) (hr.mono (by decide)) rfl T.mg_moved T.F_moved.kp T.b_moved .nil pass0 (pa_cons (pe_fldK K rfl (pv 0) rfl) (pa_cons (pv 1) (pa_cons (pe_fldK K rfl (pv 0) rfl) pa_nil)))) rfl))))), ?_⟩
    refine ⟨_, rfl, _, rfl, ?_⟩
    cases v with
    | none =>
      refine iteT ⟨_, rfl, d.p, _, d.dx, _, _, rfl, B.obj, T.cl_Panel, T.n_Panel_age, pf_age _, _, _, rfl, rfl, _, rfl, d.p, _, d.dx, _, rfl, B.obj, T.cl_Panel, T.n_Panel_age, (by show 11 < 1000; decide), ?_⟩
      rw [moved_none] at k
      exact k _ (B.put d.lv (s' := { s with age := s.age + 1 }) rfl rfl B.vts B.nve) keep_foot_p
    | some v =>
      refine iteF ⟨_, rfl, _, rfl, d.p, _, d.dx, _, rfl, B.obj, T.cl_Panel, T.n_Panel_last, (by show 11 < 1000; decide), ?_⟩
      have B1 := B.put d.lv (s' := { s with value := some v }) rfl rfl B.vts B.nve
      refine ⟨_, rfl, d.p, _, d.dx, _, rfl, B1.obj, T.cl_Panel, T.n_Panel_age, (by show 11 < 1000; decide), ?_⟩
      have B2 := B1.put d.lv (s' := { s with value := some v, age := 0 }) rfl rfl B1.vts B1.nve
      refine ⟨_, rfl, d.p, _, d.dx, _, _, rfl, B2.obj, T.cl_Panel, T.n_Panel_put_out, pf_put_out _, _, rfl, _, rfl, d.p, _, d.dx, _, _, rfl, B2.obj, T.cl_Panel, T.n_Panel_rate, pf_rate _, ?_⟩
      refine ⟨s.out, v, s.form.rate, rfl, wf.rt, ?_⟩
      refine ⟨_, rfl, d.p, _, d.dx, _, rfl, B2.obj, T.cl_Panel, T.n_Panel_put_out, (by show 11 < 1000; decide), ?_⟩
      have B3 := B2.put d.lv (s' := { s with value := some v, age := 0, out := Vbavae.moved s.form.rate s.out (some v) }) rfl rfl B2.vts B2.nve
      exact k _ B3 ((keep_foot_p.trans keep_foot_p).trans keep_foot_p)
theorem ok_write_event (T : Txt K mg a) : FnOk P w K mg base CX0 1 a.f_write_event a.d_write_event ["panel", "i", "what"] (spWrite a.C_Sensor a.C_Panel) := by
  refine T.F_write_event.ok sc_write_event (fun vs H Q E h => ?_) (fun cdv A outer s H vs Q E hr h => ?_)
  · obtain ⟨d, s, i, z, rfl, _⟩ := h; rfl
  · obtain ⟨d, s, i, z, rfl, B, hlog, k⟩ := h
    refine ⟨_, (pss_one (ps_expr (pe_bm PySem.F.plainAttrs_list PySem.F.slot_list_append PySem.F.type_list_append mt_append (pe_fldK K rfl (pv 0) rfl) (pa_cons (pe_tup (pa_cons (pe_fldK K rfl (pv 0) rfl) (pa_cons (pv 1) (pa_cons (pv 2) pa_nil)))) pa_nil)))), ?_⟩
    refine ⟨_, rfl, d.p, _, d.dx, _, _, rfl, B.obj, T.cl_Panel, T.n_Panel_events, pf_events _, .inl ⟨rfl, _, SqL.of B.evs.lst⟩, ?_⟩
    refine ⟨_, rfl, d.p, _, d.dx, _, _, rfl, B.obj, T.cl_Panel, T.n_Panel_samples, pf_samples _, _, rfl, _, rfl, by show 3 ≤ sizeLine; decide, fun t ht => ?_⟩
    have ntl : d.le ≠ t := fun q => by rw [← q, B.evs.lst] at ht; cases ht
    refine ⟨d.le, _, _, rfl, rfl, by rw [upd_ne ntl]; exact B.evs.lst, ?_, ?_⟩
    · rw [List.length_map, B.evs.len]
      have : (6000 : Nat) < sizeLine := by decide
      omega
    · refine k _ t (B.addE (t := t) ⟨s.count, i, z⟩ ht) fun b o hb nb => ?_
      rw [upd_ne (fun q => nb (by rw [q]; simp)), upd_ne (ne_of_none hb ht)]; exact hb
theorem ok_judge_all (T : Txt K mg a) : FnOk P w K mg base CX0 3 a.f_judge_all a.d_judge_all ["panel", "nears"] (spJAll a.C_Sensor a.C_Panel) := by
  refine T.F_judge_all.ok sc_judge_all (fun vs H Q E h => ?_) (fun cdv A outer s H vs Q E hr h => ?_)
  · obtain ⟨d, s, nl, nrs, rfl, _⟩ := h; rfl
  · obtain ⟨d, s, nl, nrs, rfl, B, wf, hlog, hnl, nne, hlen, k⟩ := h
    refine ⟨_, (pss_one (ps_for PassesOwn.never rfl (pi_listK K rfl (pe_call (ok_unbarred_numbers T) (hr.mono (by decide)) rfl T.mg_unbarred_numbers T.F_unbarred_numbers.kp T.b_unbarred_numbers .nil pass0 (pa_cons (pe_fldK K rfl (pv 0) rfl) pa_nil))) (pg_name (i := 2) sc_judge_all.nd rfl (Or.inl rfl)) (pss_cons (ps_set (i := 3) sc_judge_all.nd rfl (Or.inl rfl) (pe_call (ok_judge T) (hr.mono (by decide)) rfl T.mg_judge T.F_judge.kp T.b_judge .nil pass0 (pa_cons (pe_ix (ix_listK K rfl) (pe_fldK K rfl (pv 0) rfl) (pv 2) (fun _ _ => rfl)) (pa_cons (pe_ix (ix_listK K rfl) (pv 1) (pv 2) (fun _ _ => rfl)) (pa_cons (pe_fldK K rfl (pv 0) rfl) (pa_cons (pe_fldK K rfl (pv 0) rfl) pa_nil)))))) (pss_one (ps_if (pt_cmp (pc_notN (pv 3))) (pss_one (ps_expr (pe_call (ok_write_event T) (hr.mono (by decide)) rfl T.mg_write_event T.F_write_event.kp T.b_write_event .nil pass0 (pa_cons (pv 0) (pa_cons (pv 2) (pa_cons (pv 3) pa_nil)))))) pss_nil))))), ?_⟩
    refine ⟨_, rfl, d.p, _, d.dx, _, _, rfl, B.obj, T.cl_Panel, T.n_Panel_sensors, pf_sensors _, d.ls, d.as, s.sensors, rfl, B.sens, wf.n9, fun H1 u s1 nu hu => ?_⟩
    have hufoot : ¬ u ∈ d.foot := B.new nu
    have hnfoot : ¬ nl ∈ d.foot := B.out hnl nne
    have hul : ((freeN s.sensors).map natV).length = (freeN s.sensors).length := List.length_map _
    refine ⟨u, rfl, ⟨_, SqL.of hu⟩, for_list (K := K) (a := u) (xs := (freeN s.sensors).map natV) (fun i σ H' => ∃ v2 v3 es, σ = [some (.ref d.p), some (.ref nl), v2, v3] ∧
        PanelAt a.C_Sensor a.C_Panel H' { d with es := es } { s with sensors := midS s.form s.sensors nrs ((freeN s.sensors).take i), log := s.log ++ ((freeN s.sensors).take i).filterMap (evo s.form s.sensors nrs s.count) } ∧ Keep d.foot H1 H')
      ⟨none, none, d.es, rfl, ?_, Keep.refl _ _⟩ (fun i σ H' _ ⟨_, _, _, _, _, kp⟩ => SqL.of (kp _ _ hu hufoot)) ?_ ?_⟩
    · rw [List.take_zero, midS_nil, List.filterMap_nil, List.append_nil]
      exact B.same s1
    · rintro i y σ H' hi ⟨v2, v3, es, rfl, B', kp⟩
      obtain ⟨j, hj, rfl⟩ : ∃ j, (freeN s.sensors)[i]? = some j ∧ y = natV j := by
        rw [List.getElem?_map] at hi
        cases e : (freeN s.sensors)[i]? with
        | none => rw [e] at hi; cases hi
        | some j => rw [e] at hi; exact ⟨j, rfl, (Option.some.inj hi).symm⟩
      have hjm : j ∈ freeN s.sensors := List.mem_of_getElem? hj
      have hjl : j < s.sensors.length := freeN_lt hjm
      have hbar : (s.sensors.getD j sd).barred = false := by
        have := (List.mem_filter.mp hjm).2
        cases e : (s.sensors.getD j sd).barred with
        | false => rfl
        | true => rw [e] at this; cases this
      have hnot : ¬ j ∈ (freeN s.sensors).take i := fun q => by
        obtain ⟨m, hm⟩ := List.getElem?_of_mem q
        have hmi : m < i := by
          have := (List.getElem?_eq_some_iff.mp hm).1
          rw [List.length_take] at this; omega
        rw [List.getElem?_take, if_pos hmi] at hm
        have := nd_ix (freeN_nd s.sensors) hm hj
        omega
      have hml : j < (midS s.form s.sensors nrs ((freeN s.sensors).take i)).length := by rw [midS_len]; exact hjl
      obtain ⟨x, hx, dxx, hxo⟩ := B'.sens.get hml
      have hgd : (midS s.form s.sensors nrs ((freeN s.sensors).take i)).getD j sd = s.sensors.getD j sd := by rw [midS_getD hjl, if_neg hnot]
      have hxo' : SensorAt a.C_Sensor H' x (s.sensors.getD j sd) := ⟨dxx, by rw [hxo]; exact congrArg (fun c => some (HO.ins a.C_Sensor dxx (sf c))) hgd⟩
      have hN : H' nl = some (.lst (nrs.map V.bl)) := kp _ _ (s1 _ _ hnl) hnfoot
      have hnj : (nrs.map V.bl)[j]? = some (V.bl (nrs.getD j false)) := by
        rw [List.getElem?_map, List.getD_eq_getElem?_getD, List.getElem?_eq_getElem (by omega)]; rfl
      refine ⟨_, rfl, d.p, _, d.dx, _, _, rfl, B'.obj, T.cl_Panel, T.n_Panel_sensors, pf_sensors _, _, rfl, d.ls, _, _, _, rfl, rfl, SqL.of B'.sens.lst, at_of (j := j) rfl (map_get hx), ?_⟩
      refine ⟨_, rfl, _, rfl, nl, _, _, _, rfl, rfl, SqL.of hN, at_of (j := j) rfl hnj, ?_⟩
      refine ⟨_, rfl, d.p, _, d.dx, _, _, rfl, B'.obj, T.cl_Panel, T.n_Panel_p, pf_p _, ?_⟩
      refine ⟨_, rfl, d.p, _, d.dx, _, _, rfl, B'.obj, T.cl_Panel, T.n_Panel_q, pf_q _, ?_⟩
      refine ⟨x, s.sensors.getD j sd, nrs.getD j false, s.form, rfl, hxo', hbar, wf.ws j hjl, fun H5 hc kx => ?_⟩
      have B5 := B'.setS hx hc kx
      have hxas : x ∈ d.as := List.mem_of_getElem? hx
      have kp5 : Keep d.foot H1 H5 := kp.trans (kx.mono fun b hb => by rw [List.mem_singleton.mp hb]; simp [PD.foot, hxas])
      have e5 : (midS s.form s.sensors nrs ((freeN s.sensors).take i)).set j (Vbavae.judged s.form (s.sensors.getD j sd) (nrs.getD j false)) = midS s.form s.sensors nrs ((freeN s.sensors).take (i + 1)) := by
        rw [take_snoc hj]; exact midS_snoc hjl
      have e6 : ((freeN s.sensors).take (i + 1)).filterMap (evo s.form s.sensors nrs s.count) = ((freeN s.sensors).take i).filterMap (evo s.form s.sensors nrs s.count) ++ (evo s.form s.sensors nrs s.count j).toList := by
        rw [take_snoc hj, List.filterMap_append, fm_one]
      have B5' : PanelAt a.C_Sensor a.C_Panel H5 { d with es := es } { s with sensors := midS s.form s.sensors nrs ((freeN s.sensors).take (i + 1)), log := s.log ++ ((freeN s.sensors).take i).filterMap (evo s.form s.sensors nrs s.count) } := by
        rw [← e5]; exact B5
      refine ⟨_, rfl, _, rfl, ?_⟩
      by_cases hin : (s.sensors.getD j sd).inn = (Vbavae.judged s.form (s.sensors.getD j sd) (nrs.getD j false)).inn
      · have ew : whatV (s.sensors.getD j sd) (Vbavae.judged s.form (s.sensors.getD j sd) (nrs.getD j false)) = .non := by unfold whatV; rw [if_pos hin]
        have ee : evo s.form s.sensors nrs s.count j = none := by unfold evo jdg; rw [if_pos hin]
        rw [ew]
        refine iteF ⟨_, _, es, rfl, ?_, kp5⟩
        rw [e6, ee]
        show PanelAt _ _ _ _ { s with sensors := _, log := s.log ++ (_ ++ []) }
        rw [List.append_nil]; exact B5'
      · have ew : whatV (s.sensors.getD j sd) (Vbavae.judged s.form (s.sensors.getD j sd) (nrs.getD j false)) = .int ((if (Vbavae.judged s.form (s.sensors.getD j sd) (nrs.getD j false)).inn = true then 1 else 0 : Nat) : Nat) := by unfold whatV; rw [if_neg hin]
        have ee : evo s.form s.sensors nrs s.count j = some ⟨s.count, j, if (Vbavae.judged s.form (s.sensors.getD j sd) (nrs.getD j false)).inn = true then 1 else 0⟩ := by unfold evo jdg; rw [if_neg hin]
        rw [ew]
        refine iteT ?_
        refine ⟨_, rfl, _, rfl, _, rfl, { d with es := es }, _, j, _, rfl, B5', ?_, fun H6 t B6 k6 => ?_⟩
        · show (s.log ++ ((freeN s.sensors).take i).filterMap (evo s.form s.sensors nrs s.count)).length ≤ 6000
          have h1 := List.length_filterMap_le (evo s.form s.sensors nrs s.count) ((freeN s.sensors).take i)
          have h2 : ((freeN s.sensors).take i).length ≤ (freeN s.sensors).length := by rw [List.length_take]; omega
          have h3 : (freeN s.sensors).length ≤ s.sensors.length := filt_len _ _
          have := wf.n9
          rw [List.length_append]
          omega
        · refine ⟨_, _, es ++ [t], rfl, ?_, ?_⟩
          · rw [e6, ee]
            show PanelAt _ _ _ _ { s with sensors := _, log := s.log ++ (_ ++ [_]) }
            rw [← List.append_assoc]; exact B6
          · exact kp5.trans (k6.mono fun b hb => by rw [List.mem_singleton.mp hb]; simp [PD.foot])
    · rintro σ H' ⟨v2, v3, es, rfl, B', kp⟩
      rw [hul, List.take_length, midS_all, evo_all] at B'
      exact k H' es B' fun b o hb nb => kp b o (s1 b o hb) nb
end
end Vt

end
section
set_option Elab.async false
set_option linter.all false
set_option maxRecDepth 100000
set_option maxHeartbeats 2000000
namespace Vt
open PySem PySem.Spec PyProof.Rows L2
/-! ### a sample as the specification has it -/
theorem zip_map {α β : Type} (f : α → β) : ∀ l : List α, l.zip (l.map f) = l.map fun x => (x, f x)
  | [] => rfl
  | x :: l => by rw [List.map_cons, List.zip_cons_cons, zip_map f l]; rfl
theorem voters_is (s : Vbavae.St) : Vbavae.voters s = votN s.sensors := by
  have e : ((Vbavae.numbers s).filter fun i => !(Vbavae.sensorAt s i).barred).filter (fun i => (Vbavae.sensorAt s i).inn) = trusN s.sensors := by
    rw [List.filter_filter]; rfl
  show (if (((Vbavae.numbers s).filter fun i => !(Vbavae.sensorAt s i).barred).filter (fun i => (Vbavae.sensorAt s i).inn)).isEmpty = true then (Vbavae.numbers s).filter (fun i => !(Vbavae.sensorAt s i).barred) else ((Vbavae.numbers s).filter fun i => !(Vbavae.sensorAt s i).barred).filter (fun i => (Vbavae.sensorAt s i).inn)) = votN s.sensors
  rw [e]; rfl
theorem ballot_is (s : Vbavae.St) (r : List (Option Int)) : Vbavae.ballot s r = ballL s.sensors r := by
  unfold Vbavae.ballot ballL; rw [voters_is]; rfl
theorem voted_is (s : Vbavae.St) (r : List (Option Int)) : Vbavae.voted s r = Vbavae.middle (ballL s.sensors r) := by
  unfold Vbavae.voted; rw [ballot_is]
theorem near_none (tol : Int) (v : Option Int) : Vbavae.near tol none v = false := by cases v <;> rfl
noncomputable def nrsOf (s : Vbavae.St) (r : List (Option Int)) : List Bool := r.map fun x => Vbavae.near s.form.tol x (Vbavae.middle (ballL s.sensors r))
theorem nrs_get (s : Vbavae.St) (r : List (Option Int)) (i : Nat) : (nrsOf s r).getD i false = Vbavae.near s.form.tol (Vbavae.readingOf r i) (Vbavae.voted s r) := by
  unfold nrsOf Vbavae.readingOf
  rw [voted_is, List.getD_eq_getElem?_getD, List.getElem?_map, List.getD_eq_getElem?_getD]
  cases r[i]? with
  | none => exact (near_none _ _).symm
  | some x => rfl
theorem jdg_is (s : Vbavae.St) (r : List (Option Int)) : (Vbavae.numbers s).map (fun i => Vbavae.judged s.form (Vbavae.sensorAt s i) (Vbavae.near s.form.tol (Vbavae.readingOf r i) (Vbavae.voted s r))) = (List.range s.sensors.length).map (jdg s.form s.sensors (nrsOf s r)) := by
  apply List.map_congr_left
  intro i _
  unfold jdg; rw [nrs_get]; rfl
theorem sampled_is (s : Vbavae.St) (r : List (Option Int)) : Vbavae.sampled s r = { s with
    sensors := (List.range s.sensors.length).map (jdg s.form s.sensors (nrsOf s r))
    count := s.count + 1
    value := if (Vbavae.middle (ballL s.sensors r)).isSome = true then Vbavae.middle (ballL s.sensors r) else s.value
    age := if (Vbavae.middle (ballL s.sensors r)).isSome = true then 0 else s.age + 1
    out := Vbavae.moved s.form.rate s.out (Vbavae.middle (ballL s.sensors r))
    votes := ballL s.sensors r
    log := s.log ++ (List.range s.sensors.length).filterMap (evo s.form s.sensors (nrsOf s r) (s.count + 1)) } := by
  unfold Vbavae.sampled
  dsimp only
  rw [jdg_is, voted_is, ballot_is]
  congr 2
  show ((List.range s.sensors.length).zip ((List.range s.sensors.length).map (jdg s.form s.sensors (nrsOf s r)))).filterMap _ = _
  rw [zip_map, List.filterMap_map]
  rfl
theorem jdg_wf {g : Vbavae.Form} {ss : List Sn} {nrs : List Bool} {i : Nat} (w : WfS g.p g.q (ss.getD i sd)) : WfS g.p g.q (jdg g ss nrs i) := by
  unfold jdg Vbavae.judged
  have h1 := w.bp
  have h2 := w.gq
  split
  · exact w
  · split
    · dsimp only
      generalize (if nrs.getD i false = true then 0 else (ss.getD i sd).bad + 1) = b
      by_cases h : g.p ≤ b
      · rw [if_pos h]
        exact ⟨fun h => (by cases h), fun _ => rfl, (by show 0 < g.p; omega), (by show 0 < g.q; omega)⟩
      · rw [if_neg h]
        exact ⟨fun _ => rfl, fun h => (by cases h), (by show b < g.p; omega), (by show 0 < g.q; omega)⟩
    · dsimp only
      generalize (if nrs.getD i false = true then (ss.getD i sd).good + 1 else 0) = b
      by_cases h : g.q ≤ b
      · rw [if_pos h]
        exact ⟨fun _ => rfl, fun h => (by cases h), (by show 0 < g.p; omega), (by show 0 < g.q; omega)⟩
      · rw [if_neg h]
        exact ⟨fun h => (by cases h), fun _ => rfl, (by show 0 < g.p; omega), (by show b < g.q; omega)⟩
theorem sampled_len (s : Vbavae.St) (r : List (Option Int)) : (Vbavae.sampled s r).sensors.length = s.sensors.length := by
  rw [sampled_is]; simp
theorem sampled_wf {s : Vbavae.St} (w : WfP s) (r : List (Option Int)) : WfP (Vbavae.sampled s r) := by
  rw [sampled_is]
  refine ⟨by simp; exact w.n3, by simp; exact w.n9, w.rt, fun i hi => ?_, Nat.le_trans (ball_len _ _) w.n9⟩
  have hi' : i < s.sensors.length := by simpa using hi
  have e : ((List.range s.sensors.length).map (jdg s.form s.sensors (nrsOf s r))).getD i sd = jdg s.form s.sensors (nrsOf s r) i := by
    rw [List.getD_eq_getElem?_getD, List.getElem?_map, List.getElem?_range hi']; rfl
  show WfS s.form.p s.form.q (((List.range s.sensors.length).map (jdg s.form s.sensors (nrsOf s r))).getD i sd)
  rw [e]
  exact jdg_wf (w.ws i hi')
theorem sampled_log {s : Vbavae.St} (w : WfP s) (r : List (Option Int)) : (Vbavae.sampled s r).log.length ≤ s.log.length + 9 := by
  rw [sampled_is]
  have h := List.length_filterMap_le (evo s.form s.sensors (nrsOf s r) (s.count + 1)) (List.range s.sensors.length)
  have := w.n9
  simp only [List.length_append, List.length_range] at h ⊢
  omega
end Vt

end
section
set_option Elab.async false
set_option linter.all false
set_option maxRecDepth 100000
set_option maxHeartbeats 2000000
namespace Vt
open PySem PySem.Spec PyProof.Rows L2
noncomputable def spTake (CS CP : Addr) : Sp := fun vs H Q _ => ∃ (d : PD) (s : Vbavae.St) (r : Addr) (rd : List (Option Int)), vs = [.ref d.p, .ref r] ∧ PanelAt CS CP H d s ∧ WfP s ∧ s.log.length ≤ 5000 ∧ H r = some (.lst (rd.map optV)) ∧ rd.length = s.sensors.length ∧
  ∀ H' es lv q, PanelAt CS CP H' { d with es := es, lv := lv } (Vbavae.sampled s rd) → Keep d.foot H H' → H lv = none → H q = none → H' q = some (.lst ((Vbavae.answerOf s rd).map V.int)) → Q (.ref q) H'
noncomputable def valO : V → Option Int
  | .int z => some z
  | _ => none
theorem valO_optV (o : Option Int) : valO (optV o) = o := by cases o <;> rfl
noncomputable def isB : List Bool → V → Bool
  | l, .int z => l.getD z.toNat false
  | _, _ => false
theorem isB_nat (l : List Bool) (i : Nat) : isB l (natV i) = l.getD i false := by
  show l.getD ((i : Nat) : Int).toNat false = _; rw [natV_toNat]
theorem filt_true {α : Type} (l : List α) : l.filter (fun _ => true) = l := by induction l <;> simp_all
theorem freeN_jdg (g : Vbavae.Form) (ss : List Sn) (nrs : List Bool) : freeN ((List.range ss.length).map (jdg g ss nrs)) = freeN ss := by
  unfold freeN
  rw [List.length_map, List.length_range]
  apply List.filter_congr
  intro i hi
  have hi' : i < ss.length := List.mem_range.mp hi
  have e : ((List.range ss.length).map (jdg g ss nrs)).getD i sd = jdg g ss nrs i := by
    rw [List.getD_eq_getElem?_getD, List.getElem?_map, List.getElem?_range hi']; rfl
  rw [e]
  unfold jdg Vbavae.judged
  cases hb : (ss.getD i sd).barred with
  | true => rw [if_pos rfl, hb]
  | false =>
    rw [if_neg (by decide)]
    split <;> (dsimp only; split <;> split <;> rfl)
theorem support_is (s : Vbavae.St) (r : List (Option Int)) : Vbavae.support s r = ((freeN s.sensors).filter fun i => (nrsOf s r).getD i false).length := by
  unfold Vbavae.support freeN
  rw [List.filter_filter]
  congr 1
  apply List.filter_congr
  intro i _
  rw [nrs_get, Bool.and_comm]; rfl
theorem filt_natV (l : List Bool) : ∀ us : List Nat, (us.map natV).filter (isB l) = (us.filter fun i => l.getD i false).map natV
  | [] => rfl
  | i :: us => by
    rw [List.map_cons, List.filter_cons, List.filter_cons, isB_nat, filt_natV l us]
    split <;> rfl
theorem told_len (o : Option Int) : ((Vbavae.told o).map V.int).length = 2 := by cases o <;> rfl
section
variable {P : Program} {w : World} {K : PySem.W.Frag} {mg : Str → Option Value} {base : Heap} {a : Ad}
theorem ok_take_sample (T : Txt K mg a) : FnOk P w K mg base CX0 4 a.f_take_sample a.d_take_sample ["panel", "readings"] (spTake a.C_Sensor a.C_Panel) := by
  refine T.F_take_sample.ok sc_take_sample (fun vs H Q E h => ?_) (fun cdv A outer s H vs Q E hr h => ?_)
  · obtain ⟨d, s, r, rd, rfl, _⟩ := h; rfl
  · obtain ⟨d, s, r, rd, rfl, B, wf, hlog, hr1, hrl, k⟩ := h
    refine ⟨_, (pss_cons (ps_set (i := 2) sc_take_sample.nd rfl (Or.inl rfl) (pe_call (ok_votes_of T) (hr.mono (by decide)) rfl T.mg_votes_of T.F_votes_of.kp T.b_votes_of .nil pass0 (pa_cons (pe_fldK K rfl (pv 0) rfl) (pa_cons (pv 1) pa_nil)))) (pss_cons (ps_set (i := 3) sc_take_sample.nd rfl (Or.inr rfl) (pe_call (ok_middle T) (hr.mono (by decide)) rfl T.mg_middle T.F_middle.kp T.b_middle .nil pass0 (pa_cons (pv 2) pa_nil))) (pss_cons (ps_set (i := 4) sc_take_sample.nd rfl (Or.inr rfl) (pe_lcO [("reading", 5)] rfl sc_take_sample.nd (blkOk_by (by rfl)) (pi_listK K rfl (pv 1)) (fun _ _ _ _ _ => pg_name (i := 5) sc_take_sample.nd rfl (Or.inl rfl)) (fun _ _ _ _ _ => pts_nil) (fun _ _ _ _ _ => (pe_call (ok_is_near T) (hr.mono (by decide)) rfl T.mg_is_near T.F_is_near.kp T.b_is_near .nil pass0 (pa_cons (pv 5) (pa_cons (pv 3) (pa_cons (pe_fldK K rfl (pv 0) rfl) pa_nil))))))) (pss_cons (ps_fldK K rfl (pv 0) (pe_op op_add (pe_fldK K rfl (pv 0) rfl) pe_int) rfl) (pss_cons (ps_expr (pe_call (ok_judge_all T) (hr.mono (by decide)) rfl T.mg_judge_all T.F_judge_all.kp T.b_judge_all .nil pass0 (pa_cons (pv 0) (pa_cons (pv 4) pa_nil)))) (pss_cons (ps_expr (pe_call (ok_follow T) (hr.mono (by decide)) rfl T.mg_follow T.F_follow.kp T.b_follow .nil pass0 (pa_cons (pv 0) (pa_cons (pv 3) pa_nil)))) (pss_cons (ps_fldK K rfl (pv 0) (pv 2) rfl) (pss_cons (ps_setLcO [("i", 7)] 6 rfl sc_take_sample.nd rfl rfl (sw_true rfl rfl rfl rfl) (blkOk_by (by rfl)) (pi_listK K rfl (pe_call (ok_unbarred_numbers T) (hr.mono (by decide)) rfl T.mg_unbarred_numbers T.F_unbarred_numbers.kp T.b_unbarred_numbers .nil pass0 (pa_cons (pe_fldK K rfl (pv 0) rfl) pa_nil))) (fun _ _ _ _ _ => pg_name (i := 7) sc_take_sample.nd rfl (Or.inl rfl)) (fun _ _ _ _ _ => pts_one (pt_val (pe_ix (ix_listK K rfl) (pv 4) (pv 7) (fun _ _ => rfl)))) (fun _ _ _ _ _ => (pv 7))) (pss_one (ps_ret (pe_op op_cat (pe_op op_cat (pe_call (ok_told T) (hr.mono (by decide)) rfl T.mg_told T.F_told.kp T.b_told .nil pass0 (pa_cons (pv 3) pa_nil)) (pe_call (ok_told T) (hr.mono (by decide)) rfl T.mg_told T.F_told.kp T.b_told .nil pass0 (pa_cons (pe_fldK K rfl (pv 0) rfl) pa_nil))) (pe_lst (pa_cons (pe_callB (len_seqK K rfl) (by rfl) T.g_len PySem.boot_len (pa_cons (pv 6) pa_nil)) (pa_cons (pe_callB (len_seqK K rfl) (by rfl) T.g_len PySem.boot_len (pa_cons (pe_call (ok_trusted_numbers T) (hr.mono (by decide)) rfl T.mg_trusted_numbers T.F_trusted_numbers.kp T.b_trusted_numbers .nil pass0 (pa_cons (pe_fldK K rfl (pv 0) rfl) pa_nil)) pa_nil)) pa_nil)))))))))))))), ?_⟩
    refine ⟨_, rfl, d.p, _, d.dx, _, _, rfl, B.obj, T.cl_Panel, T.n_Panel_sensors, pf_sensors _, _, rfl, ?_⟩
    refine ⟨d.ls, d.as, s.sensors, r, rd, rfl, B.sens, wf.n9, hr1, hrl, fun H1 lv s1 nlv hlv => ?_⟩
    have bl9 : (ballL s.sensors rd).length ≤ 9 := Nat.le_trans (ball_len _ _) wf.n9
    refine ⟨_, rfl, lv, ballL s.sensors rd, rfl, hlv, by omega, fun H2 s2 => ?_⟩
    have hr2 : H2 r = some (.lst (rd.map optV)) := s2 _ _ (s1 _ _ hr1)
    have B2 := B.same (s1.trans s2)
    refine ⟨_, rfl, r, rfl, ⟨_, SqL.of hr2⟩, fun D hD => ?_⟩
    refine lc_listP (xs := rd.map optV) (fun _ => true) (fun v => V.bl (Vbavae.near s.form.tol (valO v) (Vbavae.middle (ballL s.sensors rd)))) (by rw [List.length_map, hrl]; have := wf.n9; omega) hD (SqL.of hr2) (fun i x H' Nt Ny hi sx f0 f1 => ⟨rfl, iteT (B := Nt H') ?_⟩) (fun H3 s3 hD3 => ?_)
    · obtain ⟨o, _, rfl⟩ : ∃ o, o ∈ rd ∧ optV o = x := List.mem_map.mp (List.mem_of_getElem? hi)
      refine ⟨_, rfl, _, rfl, _, rfl, d.p, _, d.dx, _, _, rfl, (B2.same sx).obj, T.cl_Panel, T.n_Panel_tol, pf_tol _, ?_⟩
      have q := f1 rfl
      rw [valO_optV] at q
      exact ⟨o, _, _, rfl, q⟩
    · have eN : (((rd.map optV).filter (fun _ => true)).map (fun v => V.bl (Vbavae.near s.form.tol (valO v) (Vbavae.middle (ballL s.sensors rd))))) = (nrsOf s rd).map V.bl := by
        rw [filt_true, List.map_map]
        unfold nrsOf
        rw [List.map_map]
        apply List.map_congr_left
        intro o _
        show V.bl (Vbavae.near s.form.tol (valO (optV o)) _) = _
        rw [valO_optV]; rfl
      rw [eN] at hD3
      have B3 := B2.same s3
      refine ⟨_, rfl, d.p, _, d.dx, _, _, rfl, B3.obj, T.cl_Panel, T.n_Panel_samples, pf_samples _, _, _, rfl, rfl, _, rfl, d.p, _, d.dx, _, rfl, B3.obj, T.cl_Panel, T.n_Panel_samples, (by show 11 < 1000; decide), ?_⟩
      have B4 := B3.put d.lv (s' := { s with count := s.count + 1 }) rfl rfl B3.vts B3.nve
      have nDle : D ≠ d.le := fun q => by rw [q, B2.evs.lst] at hD; cases hD
      have nDp : D ≠ d.p := fun q => by rw [q, B2.obj] at hD; cases hD
      have s03 : Same H H3 := (s1.trans s2).trans s3
      refine ⟨_, rfl, _, rfl, d, { s with count := s.count + 1 }, D, nrsOf s rd, rfl, B4, ⟨wf.n3, wf.n9, wf.rt, wf.ws, wf.vt⟩, hlog, by rw [upd_ne nDp]; exact hD3, nDle, by unfold nrsOf; rw [List.length_map]; exact hrl, fun H5 es B5 k5 => ?_⟩
      have w' := sampled_wf wf rd
      rw [sampled_is] at w'
      refine ⟨_, rfl, _, rfl, { d with es := es }, _, Vbavae.middle (ballL s.sensors rd), rfl, B5, ⟨w'.n3, w'.n9, w'.rt, w'.ws, wf.vt⟩, fun H6 B6 k6 => ?_⟩
      have nlvf : ¬ lv ∈ d.foot := B.new nlv
      have k04 : Keep d.foot H (upd H3 d.p (.ins a.C_Panel d.dx (pf (pfOf { d with lv := d.lv } { s with count := s.count + 1 })))) := (Keep.of_same s03).trans keep_foot_p
      have k06 : Keep d.foot H H6 := (k04.trans k5).trans k6
      have nlvp : lv ≠ d.p := fun q => nlvf (by rw [q]; simp [PD.foot])
      have nlvle : lv ≠ d.le := fun q => nlvf (by rw [q]; simp [PD.foot])
      have hlv6 : H6 lv = some (.lst ((ballL s.sensors rd).map V.int)) := k6 _ _ (k5 _ _ (by rw [upd_ne nlvp]; exact s3 _ _ (s2 _ _ hlv)) nlvf) nlvf
      have hD6 : H6 D = some (.lst ((nrsOf s rd).map V.bl)) := by
        have nDf : ¬ D ∈ d.foot := B2.new hD
        exact k6 _ _ (k5 _ _ (by rw [upd_ne nDp]; exact hD3) nDf) nDf
      refine ⟨_, rfl, _, rfl, d.p, _, d.dx, _, rfl, B6.obj, T.cl_Panel, T.n_Panel_votes, (by show 11 < 1000; decide), ?_⟩
      have B7 := B6.put lv (s' := Vbavae.sampled s rd) (by rw [sampled_is]) (by rw [sampled_is]) (by rw [sampled_is]; exact hlv6) nlvle
      rw [show pfOf { ({ d with es := es } : PD) with lv := lv } (Vbavae.sampled s rd) = { pfOf { d with es := es } { s with
        sensors := (List.range s.sensors.length).map (jdg s.form s.sensors (nrsOf s rd))
        count := s.count + 1
        value := if (Vbavae.middle (ballL s.sensors rd)).isSome = true then Vbavae.middle (ballL s.sensors rd) else s.value
        age := if (Vbavae.middle (ballL s.sensors rd)).isSome = true then 0 else s.age + 1
        out := Vbavae.moved s.form.rate s.out (Vbavae.middle (ballL s.sensors rd))
        log := s.log ++ (List.range s.sensors.length).filterMap (evo s.form s.sensors (nrsOf s rd) (s.count + 1)) } with lv := lv } from by rw [sampled_is]; rfl] at B7
      have ws := sampled_wf wf rd
      have esens : (Vbavae.sampled s rd).sensors = (List.range s.sensors.length).map (jdg s.form s.sensors (nrsOf s rd)) := by rw [sampled_is]
      have eout : (Vbavae.sampled s rd).out = Vbavae.moved s.form.rate s.out (Vbavae.middle (ballL s.sensors rd)) := by rw [sampled_is]
      have kf : Keep d.foot H6 (upd H6 d.p (.ins a.C_Panel d.dx (putF "votes" (.ref lv) (pf (pfOf { d with es := es } { s with
        sensors := (List.range s.sensors.length).map (jdg s.form s.sensors (nrsOf s rd))
        count := s.count + 1
        value := if (Vbavae.middle (ballL s.sensors rd)).isSome = true then Vbavae.middle (ballL s.sensors rd) else s.value
        age := if (Vbavae.middle (ballL s.sensors rd)).isSome = true then 0 else s.age + 1
        out := Vbavae.moved s.form.rate s.out (Vbavae.middle (ballL s.sensors rd))
        log := s.log ++ (List.range s.sensors.length).filterMap (evo s.form s.sensors (nrsOf s rd) (s.count + 1)) }))))) := keep_foot_p
      refine ⟨_, rfl, d.p, _, d.dx, _, _, rfl, B7.obj, T.cl_Panel, T.n_Panel_sensors, pf_sensors _, d.ls, d.as, _, rfl, B7.sens, ws.n9, fun H8 u s8 nu hu => ?_⟩
      have hD8 : H8 D = some (.lst ((nrsOf s rd).map V.bl)) := s8 _ _ (by rw [upd_ne nDp]; exact hD6)
      have B8 := B7.same s8
      refine ⟨u, rfl, ⟨_, SqL.of hu⟩, fun D2 hD2 => ?_⟩
      refine lc_listP (xs := (freeN (Vbavae.sampled s rd).sensors).map natV) (isB (nrsOf s rd)) (fun v => v) ?_ hD2 (SqL.of hu) (fun i x H' Nt Ny hi sx f0 f1 => ⟨rfl, ?_⟩) (fun H9 s9 hnn => ?_)
      · rw [List.length_map]
        have := filt_len (fun i => !((Vbavae.sampled s rd).sensors.getD i sd).barred) (Vbavae.sampled s rd).sensors.length
        have h9 := ws.n9
        show (freeN (Vbavae.sampled s rd).sensors).length ≤ 10000
        unfold freeN
        omega
      · obtain ⟨j, hj, rfl⟩ : ∃ j, j ∈ freeN (Vbavae.sampled s rd).sensors ∧ natV j = x := List.mem_map.mp (List.mem_of_getElem? hi)
        have hjl : j < (nrsOf s rd).length := by
          have := freeN_lt hj
          rw [sampled_len] at this
          unfold nrsOf; rw [List.length_map, hrl]; exact this
        have hnj : ((nrsOf s rd).map V.bl)[j]? = some (V.bl ((nrsOf s rd).getD j false)) := by
          rw [List.getElem?_map, List.getD_eq_getElem?_getD, List.getElem?_eq_getElem hjl]; rfl
        refine ⟨_, rfl, _, rfl, D, _, _, _, rfl, rfl, SqL.of (sx _ _ hD8), at_of (j := j) rfl hnj, _, rfl, ?_⟩
        rw [isB_nat] at f0 f1
        cases e : (nrsOf s rd).getD j false with
        | true => exact iteT ⟨_, rfl, f1 e⟩
        | false => exact iteF (f0 e)
      · rw [filt_natV, esens, freeN_jdg, List.map_id'] at hnn
        have B9 := B8.same s9
        refine ⟨_, rfl, Vbavae.middle (ballL s.sensors rd), rfl, fun q1 nq1 => ?_⟩
        have t1 := same_upd nq1 (o := .lst ((Vbavae.told (Vbavae.middle (ballL s.sensors rd))).map V.int))
        refine ⟨_, rfl, d.p, _, d.dx, _, _, rfl, (B9.same t1).obj, T.cl_Panel, T.n_Panel_put_out, pf_put_out _, _, rfl, fun q2 nq2 => ?_⟩
        have t2 := same_upd nq2 (o := .lst ((Vbavae.told (Vbavae.sampled s rd).out).map V.int))
        refine ⟨q1, q2, _, _, rfl, rfl, t2 _ _ upd_same, upd_same, by rw [told_len, told_len]; decide, fun q3 nq3 => ?_⟩
        have t3 := same_upd nq3 (o := .lst ((Vbavae.told (Vbavae.middle (ballL s.sensors rd))).map V.int ++ (Vbavae.told (Vbavae.sampled s rd).out).map V.int))
        have B10 := B9.same ((t1.trans t2).trans t3)
        refine ⟨_, rfl, D2, _, rfl, .inl (SqL.of (((t1.trans t2).trans t3) _ _ hnn)), ?_⟩
        refine ⟨_, rfl, d.p, _, d.dx, _, _, rfl, B10.obj, T.cl_Panel, T.n_Panel_sensors, pf_sensors _, d.ls, d.as, _, rfl, B10.sens, ws.n9, fun H11 tq s11 ntq htq => ?_⟩
        refine ⟨tq, _, rfl, .inl (SqL.of htq), by show 2 ≤ sizeLine; decide, fun q4 nq4 => ?_⟩
        have t4 := same_upd nq4 (o := .lst [V.int (((freeN s.sensors).filter fun i => (nrsOf s rd).getD i false).map natV).length, V.int ((trusN (Vbavae.sampled s rd).sensors).map natV).length])
        refine ⟨q3, q4, _, _, rfl, rfl, t4 _ _ (s11 _ _ upd_same), upd_same, ?_, fun q5 nq5 => ?_⟩
        · rw [List.length_append, told_len, told_len]
          show 2 + 2 + 2 ≤ sizeLine
          decide
        · have t5 := same_upd nq5 (o := .lst ((Vbavae.told (Vbavae.middle (ballL s.sensors rd))).map V.int ++ (Vbavae.told (Vbavae.sampled s rd).out).map V.int ++ [V.int (((freeN s.sensors).filter fun i => (nrsOf s rd).getD i false).map natV).length, V.int ((trusN (Vbavae.sampled s rd).sensors).map natV).length]))
          have sAll := ((((s8.trans s9).trans ((t1.trans t2).trans t3)).trans s11).trans t4).trans t5
          have BF := B7.same sAll
          have kF := (k06.trans kf).trans (Keep.of_same (F := d.foot) sAll)
          have nq : H q5 = none := by
            have nq6 : ¬ q5 ∈ d.foot := fun q => by
              obtain ⟨o, e⟩ := (B7.same ((((s8.trans s9).trans ((t1.trans t2).trans t3)).trans s11).trans t4)).track (show q5 ∈ ({ ({ d with es := es } : PD) with lv := lv } : PD).foot from q)
              rw [nq5] at e; cases e
            cases e : H q5 with
            | none => rfl
            | some o =>
              have z := ((k06.trans kf).trans (Keep.of_same (F := d.foot) ((((s8.trans s9).trans ((t1.trans t2).trans t3)).trans s11).trans t4))) q5 o e nq6
              rw [nq5] at z; cases z
          refine k _ es lv q5 BF kF nlv nq ?_
          rw [upd_same]
          unfold Vbavae.answerOf
          dsimp only
          rw [voted_is, support_is, List.map_append, List.map_append, List.append_assoc, List.length_map, List.length_map]
          rfl
end
end Vt

end
section
set_option Elab.async false
set_option linter.all false
set_option maxRecDepth 100000
set_option maxHeartbeats 2000000
namespace Vt
open PySem PySem.Spec PyProof.Rows L2
/-- a list of new sensors, at D, over the heap H0 -/
structure NewS (C : Addr) (H0 H : Hp) (D : Addr) (as : List Addr) (ss : List Sn) : Prop where
  lst : H D = some (.lst (as.map V.ref))
  nd : as.Nodup
  len : as.length = ss.length
  at_ : ∀ (j : Nat) (x : Addr), as[j]? = some x → ∃ c, ss[j]? = some c ∧ SensorAt C H x c
  new : ∀ x, x ∈ as → H0 x = none
  same : Same H0 H
theorem NewS.sens {C : Addr} {H0 H : Hp} {D : Addr} {as : List Addr} {ss : List Sn} (h : NewS C H0 H D as ss) : SensAt C H D as ss := ⟨h.lst, h.nd, h.len, h.at_⟩
theorem NewS.nil {C : Addr} {H0 : Hp} {D : Addr} (hD : H0 D = none) : NewS C H0 (upd H0 D (.lst [])) D [] [] :=
  ⟨upd_same, List.nodup_nil, rfl, fun j x e => (by simp at e), fun x h => (by cases h), same_upd hD⟩
theorem nodup_snoc {α : Type} {l : List α} {x : α} (h : l.Nodup) (n : ¬ x ∈ l) : (l ++ [x]).Nodup := by
  rw [List.nodup_append]
  refine ⟨h, by simp, fun y hy z hz e => ?_⟩
  rw [List.mem_singleton] at hz
  subst hz; subst e; exact n hy
theorem NewS.snoc {C : Addr} {H0 H H2 : Hp} {D x : Addr} {as : List Addr} {ss : List Sn} {c : Sn} (h : NewS C H0 H D as ss) (hD : H0 D = none) (s2 : Same H H2) (nx : H x = none) (hx : SensorAt C H2 x c) :
    NewS C H0 (upd H2 D (.lst (as.map V.ref ++ [.ref x]))) D (as ++ [x]) (ss ++ [c]) := by
  have nDx : x ≠ D := fun q => by rw [q, h.lst] at nx; cases nx
  have nin : ¬ x ∈ as := fun q => by
    obtain ⟨j, hj⟩ := List.getElem?_of_mem q
    obtain ⟨c', _, dx, e⟩ := h.at_ j x hj
    rw [nx] at e; cases e
  have kin : ∀ {b : Addr} {c' : Sn}, SensorAt C H2 b c' → b ≠ D → SensorAt C (upd H2 D (.lst (as.map V.ref ++ [.ref x]))) b c' := fun {b c'} ⟨dx, e⟩ n => ⟨dx, by rw [upd_ne n]; exact e⟩
  refine ⟨by rw [upd_same, List.map_append]; rfl, nodup_snoc h.nd nin, by simp [h.len], fun j y e => ?_, fun y hy => ?_, fun b o e => ?_⟩
  · by_cases hj : j < as.length
    · rw [List.getElem?_append_left hj] at e
      obtain ⟨c', q1, q2⟩ := h.at_ j y e
      refine ⟨c', by rw [List.getElem?_append_left (by rw [← h.len]; exact hj)]; exact q1, kin (q2.same s2) fun q => ?_⟩
      obtain ⟨dx, q2⟩ := q2
      rw [q, h.lst] at q2; cases q2
    · have hlt := (List.getElem?_eq_some_iff.mp e).1
      have hj2 : j = as.length := by simp at hlt; omega
      subst hj2
      rw [List.getElem?_append_right (Nat.le_refl _)] at e
      simp at e
      subst e
      exact ⟨c, by rw [h.len, List.getElem?_append_right (Nat.le_refl _)]; simp, kin hx nDx⟩
  · rcases List.mem_append.mp hy with hy | hy
    · exact h.new y hy
    · rw [List.mem_singleton.mp hy]
      exact h.same.free nx
  · rw [upd_ne (ne_of_none e hD)]; exact s2 _ _ (h.same _ _ e)
theorem same_make {H : Hp} {x dx : Addr} {o1 o2 o3 : HO} (nx : H x = none) (nd : H dx = none) : Same H (upd (upd (upd H dx o1) x o2) x o3) := fun b o e => by
  rw [upd_ne (ne_of_none e nx), upd_ne (ne_of_none e nx), upd_ne (ne_of_none e nd)]; exact e
noncomputable def spPInit (CS CP : Addr) : Sp := fun vs H Q _ => ∃ (p dx : Addr) (n : Nat) (tol : Int) (pp q : Nat) (rate : Int), vs = [.ref p, .int (n : Nat), .int tol, .int (pp : Nat), .int (q : Nat), .int rate] ∧ n ≤ 9 ∧ H p = some (.ins CP dx []) ∧
  ∀ H' ls le lv as, H' p = some (.ins CP dx (pf ⟨tol, pp, q, rate, ls, 0, le, none, 0, none, lv⟩)) → SensAt CS H' ls as (List.replicate n Vbavae.fresh) → H' le = some (.lst []) → H' lv = some (.lst []) → ls ≠ le → lv ≠ le → H ls = none → H le = none → H lv = none → (∀ x, x ∈ as → H x = none) → Keep [p] H H' → Q .non H'
theorem repl_succ (n : Nat) : List.replicate (n + 1) Vbavae.fresh = List.replicate n Vbavae.fresh ++ [Vbavae.fresh] := List.replicate_succ'
section
variable {P : Program} {w : World} {K : PySem.W.Frag} {mg : Str → Option Value} {base : Heap} {a : Ad}
theorem ok_Panel_init (T : Txt K mg a) : FnOk P w K mg base CX0 3 a.f_Panel_init a.d_Panel_init ["self", "n", "tol", "p", "q", "rate"] (spPInit a.C_Sensor a.C_Panel) := by
  refine T.F_Panel_init.ok sc_Panel_init (fun vs H Q E h => ?_) (fun cdv A outer s H vs Q E hr h => ?_)
  · obtain ⟨p, dx, n, tol, pp, q, rate, rfl, _⟩ := h; rfl
  · obtain ⟨p, dx, n, tol, pp, q, rate, rfl, hn, hp, k⟩ := h
    refine ⟨_, (pss_cons (ps_fldK K rfl (pv 0) (pv 2) rfl) (pss_cons (ps_fldK K rfl (pv 0) (pv 3) rfl) (pss_cons (ps_fldK K rfl (pv 0) (pv 4) rfl) (pss_cons (ps_fldK K rfl (pv 0) (pv 5) rfl) (pss_cons (ps_fldK K rfl (pv 0) (pe_lcO [("i", 6)] rfl sc_Panel_init.nd (blkOk_by (by rfl)) (pi_range1 rfl T.g_range (pa_cons (pv 1) pa_nil)) (fun _ _ _ _ _ => pg_name (i := 6) sc_Panel_init.nd rfl (Or.inl rfl)) (fun _ _ _ _ _ => pts_nil) (fun _ _ _ _ _ => (pe_make0 T.mk_Sensor (ok_Sensor_init T) (hr.mono (by decide)) rfl T.mg_Sensor T.b_Sensor_init .nil pass0))) rfl) (pss_cons (ps_fldK K rfl (pv 0) pe_int rfl) (pss_cons (ps_fldK K rfl (pv 0) (pe_lst pa_nil) rfl) (pss_cons (ps_fldK K rfl (pv 0) pe_non rfl) (pss_cons (ps_fldK K rfl (pv 0) pe_int rfl) (pss_cons (ps_fldK K rfl (pv 0) pe_non rfl) (pss_one (ps_fldK K rfl (pv 0) (pe_lst pa_nil) rfl)))))))))))), ?_⟩
    refine ⟨_, rfl, _, rfl, p, _, dx, _, rfl, hp, T.cl_Panel, T.n_Panel_tol, (by show 0 < 1000; decide), ?_⟩
    refine ⟨_, rfl, _, rfl, p, _, dx, _, rfl, upd_same, T.cl_Panel, T.n_Panel_p, (by show 1 < 1000; decide), ?_⟩
    rw [upd_upd]
    refine ⟨_, rfl, _, rfl, p, _, dx, _, rfl, upd_same, T.cl_Panel, T.n_Panel_q, (by show 2 < 1000; decide), ?_⟩
    rw [upd_upd]
    refine ⟨_, rfl, _, rfl, p, _, dx, _, rfl, upd_same, T.cl_Panel, T.n_Panel_rate, (by show 3 < 1000; decide), ?_⟩
    rw [upd_upd]
    refine ⟨_, rfl, _, rfl, by omega, by omega, fun D hD => ?_⟩
    rw [natV_toNat]
    refine lc_range (fun i H' => ∃ as, NewS a.C_Sensor (upd H p _) H' D as (List.replicate i Vbavae.fresh)) ⟨[], NewS.nil hD⟩ ?_ ?_
    · rintro i H' hi ⟨as, NS⟩
      refine ⟨rfl, iteT (B := False) ?_⟩
      intro x dx' nx ndx ne
      refine ⟨x, dx', rfl, upd_same, rfl, as.map V.ref, same_make nx ndx _ _ NS.lst, ?_, as ++ [x], ?_⟩
      · rw [List.length_map, NS.len, List.length_replicate]
        have : (1000 : Nat) < sizeLine := by decide
        omega
      · rw [repl_succ]
        exact NS.snoc hD (same_make nx ndx) nx ⟨dx', upd_same⟩
    · rintro H' ⟨as, NS⟩
      have hp' := NS.same _ _ upd_same
      have npD : D ≠ p := fun q => by rw [q, upd_same] at hD; cases hD
      have hDH : H D = none := by rw [upd_ne npD] at hD; exact hD
      refine ⟨_, rfl, p, _, dx, _, rfl, hp', T.cl_Panel, T.n_Panel_sensors, (by show 4 < 1000; decide), ?_⟩
      refine ⟨_, rfl, p, _, dx, _, rfl, upd_same, T.cl_Panel, T.n_Panel_samples, (by show 5 < 1000; decide), ?_⟩
      rw [upd_upd]
      refine ⟨(by decide), fun le nle => ?_⟩
      have nple : le ≠ p := fun q => by rw [q, upd_same] at nle; cases nle
      refine ⟨_, rfl, p, _, dx, _, rfl, (upd_ne (Ne.symm nple)).trans upd_same, T.cl_Panel, T.n_Panel_events, (by show 6 < 1000; decide), ?_⟩
      refine ⟨_, rfl, p, _, dx, _, rfl, upd_same, T.cl_Panel, T.n_Panel_last, (by show 7 < 1000; decide), ?_⟩
      rw [upd_upd]
      refine ⟨_, rfl, p, _, dx, _, rfl, upd_same, T.cl_Panel, T.n_Panel_age, (by show 8 < 1000; decide), ?_⟩
      rw [upd_upd]
      refine ⟨_, rfl, p, _, dx, _, rfl, upd_same, T.cl_Panel, T.n_Panel_put_out, (by show 9 < 1000; decide), ?_⟩
      rw [upd_upd]
      refine ⟨(by decide), fun lv nlv => ?_⟩
      have nplv : lv ≠ p := fun q => by rw [q, upd_same] at nlv; cases nlv
      refine ⟨_, rfl, p, _, dx, _, rfl, (upd_ne (Ne.symm nplv)).trans upd_same, T.cl_Panel, T.n_Panel_votes, (by show 10 < 1000; decide), ?_⟩
      rw [upd_ne nplv] at nlv
      rw [upd_ne nple] at nle
      have nlele : lv ≠ le := fun q => by rw [q, upd_same] at nlv; cases nlv
      have nlv' : H' lv = none := by rw [upd_ne nlele, upd_ne nplv] at nlv; exact nlv
      have nlD : D ≠ le := fun q => by rw [← q, NS.lst] at nle; cases nle
      have keyS : ∀ {o1 o2 o3 : HO} {b : Addr} {o : HO}, H' b = some o → b ≠ p → (upd (upd (upd (upd (upd H' p o1) le (.lst [])) p o2) lv (.lst [])) p o3) b = some o := fun {o1 o2 o3 b o} e n => by
        rw [upd_ne n, upd_ne (ne_of_none e nlv'), upd_ne n, upd_ne (ne_of_none e nle), upd_ne n]; exact e
      have asp : ∀ x, x ∈ as → x ≠ p := fun x hx q => by
        have := NS.new x hx
        rw [q, upd_same] at this; cases this
      refine k _ D le lv as upd_same ⟨keyS NS.lst npD, NS.nd, NS.len, fun j x e => ?_⟩ ?_ ?_ nlD nlele hDH ?_ ?_ (fun x hx => ?_) (fun b o e nb => ?_)
      · obtain ⟨c, q1, dx', q2⟩ := NS.at_ j x e
        exact ⟨c, q1, dx', keyS q2 (asp x (List.mem_of_getElem? e))⟩
      · rw [upd_ne nple, upd_ne (fun q => nlele q.symm), upd_ne nple, upd_same]
      · rw [upd_ne nplv, upd_same]
      · have := NS.same.free nle
        rw [upd_ne nple] at this; exact this
      · have := NS.same.free nlv'
        rw [upd_ne nplv] at this; exact this
      · have := NS.new x hx
        rw [upd_ne (asp x hx)] at this; exact this
      · have nbp : b ≠ p := fun q => nb (by rw [q]; simp)
        exact keyS (NS.same _ _ (by rw [upd_ne nbp]; exact e)) nbp
end
end Vt

end
section
set_option Elab.async false
set_option linter.all false
set_option maxRecDepth 100000
set_option maxHeartbeats 2000000
namespace Vt
open PySem PySem.Spec PyProof.Rows L2
noncomputable def spCopy (CS CP : Addr) : Sp := fun vs H Q _ => ∃ (d : PD) (s : Vbavae.St), vs = [.ref d.p] ∧ PanelAt CS CP H d s ∧ WfP s ∧
  ∀ H' d', PanelAt CS CP H' d' s → (∀ b, b ∈ d'.foot → H b = none) → Same H H' → Q (.ref d'.p) H'
section
variable {P : Program} {w : World} {K : PySem.W.Frag} {mg : Str → Option Value} {base : Heap} {a : Ad}
theorem ok_copied (T : Txt K mg a) : FnOk P w K mg base CX0 5 a.f_copied a.d_copied ["panel"] (spCopy a.C_Sensor a.C_Panel) := by
  refine T.F_copied.ok sc_copied (fun vs H Q E h => ?_) (fun cdv A outer s H vs Q E hr h => ?_)
  · obtain ⟨d, s, rfl, _⟩ := h; rfl
  · obtain ⟨d, s, rfl, B, wf, k⟩ := h
    refine ⟨_, (pss_cons (ps_set (i := 1) sc_copied.nd rfl (Or.inl rfl) (pe_make T.mk_Panel (ok_Panel_init T) (hr.mono (by decide)) rfl T.mg_Panel T.b_Panel_init .nil pass0 (pa_cons pe_int (pa_cons (pe_fldK K rfl (pv 0) rfl) (pa_cons (pe_fldK K rfl (pv 0) rfl) (pa_cons (pe_fldK K rfl (pv 0) rfl) (pa_cons (pe_fldK K rfl (pv 0) rfl) pa_nil))))))) (pss_cons (ps_fldK K rfl (pv 1) (pe_lcO [("sensor", 2)] rfl sc_copied.nd (blkOk_by (by rfl)) (pi_listK K rfl (pe_fldK K rfl (pv 0) rfl)) (fun _ _ _ _ _ => pg_name (i := 2) sc_copied.nd rfl (Or.inl rfl)) (fun _ _ _ _ _ => pts_nil) (fun _ _ _ _ _ => (pe_call (ok_copied_sensor T) (hr.mono (by decide)) rfl T.mg_copied_sensor T.F_copied_sensor.kp T.b_copied_sensor .nil pass0 (pa_cons (pv 2) pa_nil)))) rfl) (pss_cons (ps_fldK K rfl (pv 1) (pe_fldK K rfl (pv 0) rfl) rfl) (pss_cons (ps_fldK K rfl (pv 1) (pe_callTy (list_ofK K rfl) (by rfl) T.g_list (by rfl) (pa_cons (pe_fldK K rfl (pv 0) rfl) pa_nil)) rfl) (pss_cons (ps_fldK K rfl (pv 1) (pe_fldK K rfl (pv 0) rfl) rfl) (pss_cons (ps_fldK K rfl (pv 1) (pe_fldK K rfl (pv 0) rfl) rfl) (pss_cons (ps_fldK K rfl (pv 1) (pe_fldK K rfl (pv 0) rfl) rfl) (pss_cons (ps_fldK K rfl (pv 1) (pe_callTy (list_ofK K rfl) (by rfl) T.g_list (by rfl) (pa_cons (pe_fldK K rfl (pv 0) rfl) pa_nil)) rfl) (pss_one (ps_ret (pv 1))))))))))), ?_⟩
    refine ⟨_, rfl, d.p, _, d.dx, _, _, rfl, B.obj, T.cl_Panel, T.n_Panel_tol, pf_tol _, ?_⟩
    refine ⟨_, rfl, d.p, _, d.dx, _, _, rfl, B.obj, T.cl_Panel, T.n_Panel_p, pf_p _, ?_⟩
    refine ⟨_, rfl, d.p, _, d.dx, _, _, rfl, B.obj, T.cl_Panel, T.n_Panel_q, pf_q _, ?_⟩
    refine ⟨_, rfl, d.p, _, d.dx, _, _, rfl, B.obj, T.cl_Panel, T.n_Panel_rate, pf_rate _, ?_⟩
    intro x dxx nx ndx ne
    refine ⟨x, dxx, 0, _, _, _, _, rfl, by decide, upd_same, fun H1 ls0 le0 lv0 as0 hx1 _ _ _ _ _ _ _ _ _ k1 => ⟨rfl, ?_⟩⟩
    have s01 : Same H H1 := fun b o e => by
      refine k1 b o ?_ ?_
      · rw [upd_ne (ne_of_none e nx), upd_ne (ne_of_none e ndx)]; exact e
      · simp [ne_of_none e nx]
    have B1 := B.same s01
    have npx : d.p ≠ x := ne_of_none B.obj nx
    refine ⟨_, rfl, d.p, _, d.dx, _, _, rfl, B1.obj, T.cl_Panel, T.n_Panel_sensors, pf_sensors _, d.ls, rfl, ⟨_, SqL.of B1.sens.lst⟩, fun D hD => ?_⟩
    refine lc_list (K := K) (a := d.ls) (xs := d.as.map V.ref) (fun i H' => ∃ bs, NewS a.C_Sensor H1 H' D bs (s.sensors.take i)) ⟨[], by rw [List.take_zero]; exact NewS.nil hD⟩ (fun i H' _ ⟨_, NS⟩ => SqL.of (NS.same _ _ B1.sens.lst)) ?_ ?_
    · rintro i y H' hi ⟨bs, NS⟩
      refine ⟨rfl, iteT (B := False) ?_⟩
      obtain ⟨z, hz, rfl⟩ : ∃ z, d.as[i]? = some z ∧ y = V.ref z := by
        rw [List.getElem?_map] at hi
        cases e : d.as[i]? with
        | none => rw [e] at hi; cases hi
        | some z => rw [e] at hi; exact ⟨z, rfl, (Option.some.inj hi).symm⟩
      obtain ⟨c, hc, hzc⟩ := B1.sens.at_ i z hz
      refine ⟨_, rfl, z, c, rfl, hzc.same NS.same, fun H2 q s2 nq hq => ⟨bs.map V.ref, s2 _ _ NS.lst, ?_, bs ++ [q], ?_⟩⟩
      · rw [List.length_map, NS.len, List.length_take]
        have := wf.n9
        have : (1000 : Nat) < sizeLine := by decide
        omega
      · rw [take_snoc hc]
        exact NS.snoc hD s2 nq hq
    · rintro H2 ⟨bs, NS⟩
      rw [List.length_map, B.sens.len, List.take_length] at NS
      have hx2 := NS.same _ _ hx1
      have s02 : Same H H2 := s01.trans NS.same
      have B2 := B.same s02
      have nDx : D ≠ x := fun q => by rw [q, hx1] at hD; cases hD
      refine ⟨_, rfl, x, _, dxx, _, rfl, hx2, T.cl_Panel, T.n_Panel_sensors, (by show 11 < 1000; decide), ?_⟩
      refine ⟨_, rfl, d.p, _, d.dx, _, _, rfl, (upd_ne npx).trans B2.obj, T.cl_Panel, T.n_Panel_samples, pf_samples _, _, rfl, x, _, dxx, _, rfl, upd_same, T.cl_Panel, T.n_Panel_samples, (by show 11 < 1000; decide), ?_⟩
      rw [upd_upd]
      have nlex : d.le ≠ x := ne_of_none B.evs.lst nx
      have nlvx : d.lv ≠ x := ne_of_none B.vts nx
      refine ⟨_, rfl, d.p, _, d.dx, _, _, rfl, (upd_ne npx).trans B2.obj, T.cl_Panel, T.n_Panel_events, pf_events _, d.le, _, rfl, .inl (SqL.of ((upd_ne nlex).trans B2.evs.lst)), fun le nle => ?_⟩
      have nlx : le ≠ x := fun q => by rw [q, upd_same] at nle; cases nle
      rw [upd_ne nlx] at nle
      have npl : d.p ≠ le := ne_of_none B2.obj nle
      refine ⟨_, rfl, x, _, dxx, _, rfl, (upd_ne (Ne.symm nlx)).trans upd_same, T.cl_Panel, T.n_Panel_events, (by show 11 < 1000; decide), ?_⟩
      have oP : ∀ {o1 o2 : HO}, (upd (upd (upd H2 x o1) le (.lst (d.es.map V.ref))) x o2) d.p = some (.ins a.C_Panel d.dx (pf (pfOf d s))) := fun {o1 o2} => by
        rw [upd_ne npx, upd_ne npl, upd_ne npx]; exact B2.obj
      refine ⟨_, rfl, d.p, _, d.dx, _, _, rfl, oP, T.cl_Panel, T.n_Panel_last, pf_last _, _, rfl, x, _, dxx, _, rfl, upd_same, T.cl_Panel, T.n_Panel_last, (by show 11 < 1000; decide), ?_⟩
      rw [upd_upd]
      refine ⟨_, rfl, d.p, _, d.dx, _, _, rfl, oP, T.cl_Panel, T.n_Panel_age, pf_age _, _, rfl, x, _, dxx, _, rfl, upd_same, T.cl_Panel, T.n_Panel_age, (by show 11 < 1000; decide), ?_⟩
      rw [upd_upd]
      refine ⟨_, rfl, d.p, _, d.dx, _, _, rfl, oP, T.cl_Panel, T.n_Panel_put_out, pf_put_out _, _, rfl, x, _, dxx, _, rfl, upd_same, T.cl_Panel, T.n_Panel_put_out, (by show 11 < 1000; decide), ?_⟩
      rw [upd_upd]
      have nlvle : d.lv ≠ le := ne_of_none B2.vts nle
      refine ⟨_, rfl, d.p, _, d.dx, _, _, rfl, oP, T.cl_Panel, T.n_Panel_votes, pf_votes _, d.lv, _, rfl, .inl (SqL.of ((upd_ne nlvx).trans ((upd_ne nlvle).trans ((upd_ne nlvx).trans B2.vts)))), fun lv nlv => ?_⟩
      have nvx : lv ≠ x := fun q => by rw [q, upd_same] at nlv; cases nlv
      rw [upd_ne nvx] at nlv
      have nvl : lv ≠ le := fun q => by rw [q, upd_same] at nlv; cases nlv
      have nlv2 : H2 lv = none := by rw [upd_ne nvl, upd_ne nvx] at nlv; exact nlv
      refine ⟨_, rfl, x, _, dxx, _, rfl, (upd_ne (Ne.symm nvx)).trans upd_same, T.cl_Panel, T.n_Panel_votes, (by show 11 < 1000; decide), ?_⟩
      refine ⟨_, rfl, ?_⟩
      have keyS : ∀ {o1 o2 o3 u1 u2 : HO} {b : Addr} {o : HO}, H2 b = some o → b ≠ x → (upd (upd (upd (upd (upd H2 x o1) le u1) x o2) lv u2) x o3) b = some o := fun {o1 o2 o3 u1 u2 b o} e n => by
        rw [upd_ne n, upd_ne (ne_of_none e nlv2), upd_ne n, upd_ne (ne_of_none e nle), upd_ne n]; exact e
      have keyH : ∀ {o1 o2 o3 u1 u2 : HO}, Same H (upd (upd (upd (upd (upd H2 x o1) le u1) x o2) lv u2) x o3) := fun {o1 o2 o3 u1 u2} b o e => keyS (s02 b o e) (ne_of_none e nx)
      refine k _ ⟨x, dxx, D, le, lv, bs, d.es⟩ ⟨upd_same, ⟨keyS NS.lst nDx, NS.nd, NS.len, fun j y e => ?_⟩, ⟨?_, B.evs.len, fun j y e => ?_⟩, ?_, ?_, nvl⟩ (fun b hb => ?_) keyH
      · obtain ⟨c, q1, dc, q2⟩ := NS.at_ j y e
        refine ⟨c, q1, dc, keyS q2 fun q => ?_⟩
        have := NS.new y (List.mem_of_getElem? e)
        rw [q, hx1] at this; cases this
      · show (upd (upd (upd (upd (upd H2 x _) le _) x _) lv _) x _) le = _
        rw [upd_ne nlx, upd_ne (Ne.symm nvl), upd_ne nlx, upd_same]
      · obtain ⟨c, q1, q2⟩ := B.evs.at_ j y e
        exact ⟨c, q1, keyH _ _ q2⟩
      · show (upd (upd (upd (upd (upd H2 x _) le _) x _) lv _) x _) lv = _
        rw [upd_ne nvx, upd_same]
      · exact ne_of_none NS.lst nle
      · rcases List.mem_cons.mp hb with rfl | hb
        · exact nx
        · rcases List.mem_cons.mp hb with rfl | hb
          · exact s02.free nle
          · exact s01.free (NS.new b hb)
end
end Vt

end
section
set_option Elab.async false
set_option linter.all false
set_option maxRecDepth 100000
set_option maxHeartbeats 2000000
namespace Vt
open PySem PySem.Spec PyProof.Rows L2
theorem iteBT {A B : Prop} {b : Bool} (h : b = true) (k : A) : if b = true then A else B := by rw [if_pos h]; exact k
theorem iteBF {A B : Prop} {b : Bool} (h : b = false) (k : B) : if b = true then A else B := by rw [if_neg (by rw [h]; decide)]; exact k
noncomputable def spBar (CS CP : Addr) (b : Bool) : Sp := fun vs H Q _ => ∃ (d : PD) (s : Vbavae.St) (i : Nat), vs = [.ref d.p, .int (i : Nat)] ∧ PanelAt CS CP H d s ∧ s.log.length ≤ 6000 ∧ i < s.sensors.length ∧
  ∀ H' es, PanelAt CS CP H' { d with es := es } (Vbavae.barredBy s i b) → Keep d.foot H H' → Q .non H'
noncomputable def spSoon (CS CP : Addr) : Sp := fun vs H Q _ => ∃ (d : PD) (s : Vbavae.St) (i : Nat), vs = [.ref d.p, .int (i : Nat)] ∧ PanelAt CS CP H d s ∧ i < s.sensors.length ∧
  Q (.int (if (s.sensors.getD i sd).inn = true then ((s.form.p : Nat) : Int) - ((s.sensors.getD i sd).bad : Nat) else ((s.form.q : Nat) : Int) - ((s.sensors.getD i sd).good : Nat))) H
noncomputable def kept (f : Nat) (ns : List Int) : List Int := ((Vbavae.sortInts ns).take (ns.length - f)).drop f
noncomputable def spMean : Sp := fun vs H Q _ => ∃ (l : Addr) (ns : List Int) (f : Nat), vs = [.ref l, .int (f : Nat)] ∧ H l = some (.lst (ns.map V.int)) ∧ ns.length < 64 ∧ 2 * f + 1 ≤ ns.length ∧ ∀ H', Same H H' → Q (.int (Vbavae.sum (kept f ns) / ((kept f ns).length : Int))) H'
noncomputable def spMany (CS CP : Addr) : Sp := fun vs H Q _ => ∃ (d : PD) (s : Vbavae.St) (z : Nat), vs = [.ref d.p, .int (z : Nat)] ∧ PanelAt CS CP H d s ∧ s.log.length ≤ 6000 ∧ ∀ H', Same H H' → Q (.int ((s.log.filter fun e => e.what == z).length : Nat)) H'
noncomputable def evF (H : Hp) (z : Nat) : V → Bool
  | .ref x => match H x with
    | some (.tup [_, _, .int w]) => decide (w = (z : Nat))
    | _ => false
  | _ => false
theorem evF_is {H : Hp} {z : Nat} {x : Addr} {e : Vbavae.Event} (h : H x = some (evV e)) : evF H z (.ref x) = (e.what == z) := by
  show (match H x with | some (.tup [_, _, .int w]) => decide (w = (z : Nat)) | _ => false) = _
  rw [h]
  show decide (((e.what : Nat) : Int) = (z : Nat)) = _
  by_cases q : e.what = z
  · rw [q, decide_eq_true rfl]; simp
  · rw [decide_eq_false (by omega)]
    symm
    rw [beq_eq_false_iff_ne]; exact q
theorem cnt_is {H : Hp} {z : Nat} : ∀ (es : List Addr) (log : List Vbavae.Event), es.length = log.length → (∀ (j : Nat) (x : Addr), es[j]? = some x → ∃ e, log[j]? = some e ∧ H x = some (evV e)) → ((es.map V.ref).filter (evF H z)).length = (log.filter fun e => e.what == z).length
  | [], [], _, _ => rfl
  | [], _ :: _, h, _ => by simp at h
  | _ :: _, [], h, _ => by simp at h
  | x :: es, e :: log, h, hat => by
    have ih := cnt_is (z := z) es log (by simpa using h) fun j y hj => by
      obtain ⟨e', q1, q2⟩ := hat (j + 1) y (by simpa using hj)
      exact ⟨e', by simpa using q1, q2⟩
    obtain ⟨e', q1, q2⟩ := hat 0 x rfl
    have : e' = e := (Option.some.inj q1).symm
    subst this
    rw [List.map_cons, List.filter_cons, List.filter_cons, evF_is q2]
    split
    · rw [List.length_cons, List.length_cons, ih]
    · exact ih
theorem cut_is (xs : List V) {j m : Nat} (h1 : j ≤ m) (h2 : m ≤ xs.length) : cutV xs (some (j : Nat)) (some (m : Nat)) = (xs.drop j).take (m - j) := by
  have e : ∀ i : Nat, i ≤ xs.length → ∀ d, HT.sIx xs.length d (some (i : Nat)) = i := fun i hi d => by
    rw [HT.sIx_nat]; omega
  unfold cutV
  rw [e j (by omega), e m h2]
section
variable {P : Program} {w : World} {K : PySem.W.Frag} {mg : Str → Option Value} {base : Heap} {a : Ad}
theorem ok_bar (T : Txt K mg a) : FnOk P w K mg base CX0 2 a.f_bar a.d_bar ["panel", "i"] (spBar a.C_Sensor a.C_Panel true) := by
  refine T.F_bar.ok sc_bar (fun vs H Q E h => ?_) (fun cdv A outer s H vs Q E hr h => ?_)
  · obtain ⟨d, s, i, rfl, _⟩ := h; rfl
  · obtain ⟨d, s, i, rfl, B, hlog, hi, k⟩ := h
    refine ⟨_, (pss_cons (ps_fldK K rfl (pe_ix (ix_listK K rfl) (pe_fldK K rfl (pv 0) rfl) (pv 1) (fun _ _ => rfl)) pe_bl rfl) (pss_one (ps_expr (pe_call (ok_write_event T) (hr.mono (by decide)) rfl T.mg_write_event T.F_write_event.kp T.b_write_event .nil pass0 (pa_cons (pv 0) (pa_cons (pv 1) (pa_cons (pe_gint rfl T.c_BARRED) pa_nil))))))), ?_⟩
    obtain ⟨x, hx, dx, hS⟩ := B.sens.get hi
    have hxas : x ∈ d.as := List.mem_of_getElem? hx
    refine ⟨_, rfl, d.p, _, d.dx, _, _, rfl, B.obj, T.cl_Panel, T.n_Panel_sensors, pf_sensors _, _, rfl, d.ls, _, _, _, rfl, rfl, SqL.of B.sens.lst, at_of (j := i) rfl (map_get hx), x, _, dx, _, rfl, hS, T.cl_Sensor, T.n_Sensor_barred, (by show 4 < 1000; decide), ?_⟩
    have B1 := B.setS (H' := upd H x (.ins a.C_Sensor dx (sf { s.sensors.getD i sd with barred := true }))) hx ⟨dx, upd_same⟩ keep1
    refine ⟨_, rfl, _, rfl, d, _, i, 2, rfl, B1, hlog, fun H2 t B2 k2 => ?_⟩
    exact k H2 _ B2 ((keep1.mono fun b hb => by rw [List.mem_singleton.mp hb]; simp [PD.foot, hxas]).trans (k2.mono fun b hb => by rw [List.mem_singleton.mp hb]; simp [PD.foot]))
theorem ok_free (T : Txt K mg a) : FnOk P w K mg base CX0 2 a.f_free a.d_free ["panel", "i"] (spBar a.C_Sensor a.C_Panel false) := by
  refine T.F_free.ok sc_free (fun vs H Q E h => ?_) (fun cdv A outer s H vs Q E hr h => ?_)
  · obtain ⟨d, s, i, rfl, _⟩ := h; rfl
  · obtain ⟨d, s, i, rfl, B, hlog, hi, k⟩ := h
    refine ⟨_, (pss_cons (ps_fldK K rfl (pe_ix (ix_listK K rfl) (pe_fldK K rfl (pv 0) rfl) (pv 1) (fun _ _ => rfl)) pe_bl rfl) (pss_cons (ps_expr (pe_call (ok_begin_state T) (hr.mono (by decide)) rfl T.mg_begin_state T.F_begin_state.kp T.b_begin_state .nil pass0 (pa_cons (pe_ix (ix_listK K rfl) (pe_fldK K rfl (pv 0) rfl) (pv 1) (fun _ _ => rfl)) (pa_cons pe_bl pa_nil)))) (pss_one (ps_expr (pe_call (ok_write_event T) (hr.mono (by decide)) rfl T.mg_write_event T.F_write_event.kp T.b_write_event .nil pass0 (pa_cons (pv 0) (pa_cons (pv 1) (pa_cons (pe_gint rfl T.c_FREED) pa_nil)))))))), ?_⟩
    obtain ⟨x, hx, dx, hS⟩ := B.sens.get hi
    have hxas : x ∈ d.as := List.mem_of_getElem? hx
    refine ⟨_, rfl, d.p, _, d.dx, _, _, rfl, B.obj, T.cl_Panel, T.n_Panel_sensors, pf_sensors _, _, rfl, d.ls, _, _, _, rfl, rfl, SqL.of B.sens.lst, at_of (j := i) rfl (map_get hx), x, _, dx, _, rfl, hS, T.cl_Sensor, T.n_Sensor_barred, (by show 4 < 1000; decide), ?_⟩
    have B1 := B.setS (H' := upd H x (.ins a.C_Sensor dx (sf { s.sensors.getD i sd with barred := false }))) hx ⟨dx, upd_same⟩ keep1
    refine ⟨_, rfl, d.p, _, d.dx, _, _, rfl, B1.obj, T.cl_Panel, T.n_Panel_sensors, pf_sensors _, _, rfl, d.ls, _, _, _, rfl, rfl, SqL.of B1.sens.lst, at_of (j := i) rfl (map_get hx), x, { s.sensors.getD i sd with barred := false }, false, rfl, ⟨dx, upd_same⟩, fun H2 hc2 k2 => ?_⟩
    have B2 := B1.setS hx hc2 k2
    refine ⟨_, rfl, _, rfl, d, _, i, 3, rfl, B2, hlog, fun H3 t B3 k3 => ?_⟩
    have e : (s.sensors.set i { s.sensors.getD i sd with barred := false }).set i ⟨false, 0, 0, false⟩ = s.sensors.set i ⟨false, 0, 0, false⟩ := List.set_set ..
    have B4 : PanelAt a.C_Sensor a.C_Panel H3 { d with es := d.es ++ [t] } { s with sensors := (s.sensors.set i { s.sensors.getD i sd with barred := false }).set i ⟨false, 0, 0, false⟩, log := s.log ++ [⟨s.count, i, 3⟩] } := B3
    rw [e] at B4
    exact k H3 _ B4 (((keep1.trans k2).mono fun b hb => by rw [List.mem_singleton.mp hb]; simp [PD.foot, hxas]).trans (k3.mono fun b hb => by rw [List.mem_singleton.mp hb]; simp [PD.foot]))
theorem ok_samples_to_change (T : Txt K mg a) : FnOk P w K mg base CX0 1 a.f_samples_to_change a.d_samples_to_change ["panel", "i"] (spSoon a.C_Sensor a.C_Panel) := by
  refine T.F_samples_to_change.ok sc_samples_to_change (fun vs H Q E h => ?_) (fun cdv A outer s H vs Q E hr h => ?_)
  · obtain ⟨d, s, i, rfl, _⟩ := h; rfl
  · obtain ⟨d, s, i, rfl, B, hi, k⟩ := h
    refine ⟨_, (pss_cons (ps_set (i := 2) sc_samples_to_change.nd rfl (Or.inl rfl) (pe_ix (ix_listK K rfl) (pe_fldK K rfl (pv 0) rfl) (pv 1) (fun _ _ => rfl))) (pss_cons (ps_if (pt_val (pe_fldK K rfl (pv 2) rfl)) (pss_one (ps_ret (pe_op op_sub (pe_fldK K rfl (pv 0) rfl) (pe_fldK K rfl (pv 2) rfl)))) pss_nil) (pss_one (ps_ret (pe_op op_sub (pe_fldK K rfl (pv 0) rfl) (pe_fldK K rfl (pv 2) rfl)))))), ?_⟩
    obtain ⟨x, hx, dx, hS⟩ := B.sens.get hi
    refine ⟨_, rfl, d.p, _, d.dx, _, _, rfl, B.obj, T.cl_Panel, T.n_Panel_sensors, pf_sensors _, _, rfl, d.ls, _, _, _, rfl, rfl, SqL.of B.sens.lst, at_of (j := i) rfl (map_get hx), ?_⟩
    refine ⟨_, rfl, x, _, dx, _, _, rfl, hS, T.cl_Sensor, T.n_Sensor_trusted, sf_trusted _, _, rfl, ?_⟩
    cases e : (s.sensors.getD i sd).inn with
    | true =>
      rw [e, if_pos rfl] at k
      exact iteT ⟨_, rfl, d.p, _, d.dx, _, _, rfl, B.obj, T.cl_Panel, T.n_Panel_p, pf_p _, _, rfl, x, _, dx, _, _, rfl, hS, T.cl_Sensor, T.n_Sensor_bad, sf_bad _, _, _, rfl, rfl, k⟩
    | false =>
      rw [e, if_neg (by decide)] at k
      exact iteF ⟨_, rfl, d.p, _, d.dx, _, _, rfl, B.obj, T.cl_Panel, T.n_Panel_q, pf_q _, _, rfl, x, _, dx, _, _, rfl, hS, T.cl_Sensor, T.n_Sensor_good, sf_good _, _, _, rfl, rfl, k⟩
theorem ok_trimmed_mean (T : Txt K mg a) : FnOk P w K mg base CX0 1 a.f_trimmed_mean a.d_trimmed_mean ["numbers", "f"] spMean := by
  refine T.F_trimmed_mean.ok sc_trimmed_mean (fun vs H Q E h => ?_) (fun cdv A outer s H vs Q E hr h => ?_)
  · obtain ⟨l, ns, f, rfl, _⟩ := h; rfl
  · obtain ⟨l, ns, f, rfl, hl, hn, hf, k⟩ := h
    refine ⟨_, (pss_cons (ps_set (i := 2) sc_trimmed_mean.nd rfl (Or.inl rfl) (pe_slice (sl_listK K rfl) (pe_callB (sortedK K rfl) (by rfl) T.g_sorted (by rfl) (pa_cons (pv 0) pa_nil)) (po_some (pv 1)) (po_some (pe_op op_sub (pe_callB (len_seqK K rfl) (by rfl) T.g_len PySem.boot_len (pa_cons (pv 0) pa_nil)) (pv 1))))) (pss_one (ps_ret (pe_op op_fdiv (pe_callB (sumK K rfl rfl) (by rfl) T.g_sum (by rfl) (pa_cons (pv 2) pa_nil)) (pe_callB (len_seqK K rfl) (by rfl) T.g_len PySem.boot_len (pa_cons (pv 2) pa_nil)))))), ?_⟩
    refine ⟨_, rfl, l, ns, rfl, SqL.of hl, hn, fun ns' p hp hs np => ?_⟩
    have em := Vm.sorted_is hp hs
    subst em
    have hlen := Vm.sort_len ns
    have t1 := same_upd np (o := .lst ((Vbavae.sortInts ns).map V.int))
    refine ⟨_, rfl, _, rfl, _, rfl, l, _, rfl, .inl (SqL.of (t1 _ _ hl)), _, rfl, _, _, rfl, rfl, _, rfl, p, _, rfl, SqL.of upd_same, fun q nq => ?_⟩
    have ecut : cutV ((Vbavae.sortInts ns).map V.int) (some (f : Nat)) (some (((ns.map V.int).length : Nat) - (f : Nat))) = (kept f ns).map V.int := by
      rw [List.length_map, show ((ns.length : Nat) : Int) - (f : Nat) = ((ns.length - f : Nat) : Int) by omega, cut_is _ (by omega) (by rw [List.length_map, hlen]; omega)]
      unfold kept
      rw [List.drop_take, List.map_take, List.map_drop]
    rw [ecut]
    have t2 := same_upd nq (o := .lst ((kept f ns).map V.int))
    have hk : (kept f ns).length = ns.length - f - f := by
      unfold kept
      rw [List.length_drop, List.length_take, hlen]; omega
    refine ⟨_, rfl, q, kept f ns, rfl, SqL.of upd_same, _, rfl, q, _, rfl, .inl (SqL.of upd_same), _, _, rfl, rfl, ⟨?_, ?_⟩, ?_⟩
    · rw [List.length_map, hk]; omega
    · rw [List.length_map, hk]; omega
    · rw [List.length_map]
      have z := k _ (t1.trans t2)
      rw [Vm.sum_is] at z
      exact z
theorem ok_how_many_events (T : Txt K mg a) : FnOk P w K mg base CX0 1 a.f_how_many_events a.d_how_many_events ["panel", "what"] (spMany a.C_Sensor a.C_Panel) := by
  refine T.F_how_many_events.ok sc_how_many_events (fun vs H Q E h => ?_) (fun cdv A outer s H vs Q E hr h => ?_)
  · obtain ⟨d, s, z, rfl, _⟩ := h; rfl
  · obtain ⟨d, s, z, rfl, B, hlog, k⟩ := h
    refine ⟨_, (pss_one (ps_ret (pe_callB (len_seqK K rfl) (by rfl) T.g_len PySem.boot_len (pa_cons (pe_lcO [("event", 2)] rfl sc_how_many_events.nd (blkOk_by (by rfl)) (pi_listK K rfl (pe_fldK K rfl (pv 0) rfl)) (fun _ _ _ _ _ => pg_name (i := 2) sc_how_many_events.nd rfl (Or.inl rfl)) (fun _ _ _ _ _ => pts_one (pt_cmpR op_eq (pe_ix (ix_tupK K rfl) (pv 2) pe_int (fun _ _ => rfl)) (pv 1) (nomark _))) (fun _ _ _ _ _ => (pv 2))) pa_nil)))), ?_⟩
    refine ⟨_, rfl, d.p, _, d.dx, _, _, rfl, B.obj, T.cl_Panel, T.n_Panel_events, pf_events _, d.le, rfl, ⟨_, SqL.of B.evs.lst⟩, fun D hD => ?_⟩
    refine lc_listP (xs := d.es.map V.ref) (evF H z) (fun v => v) (by rw [List.length_map, B.evs.len]; omega) hD (SqL.of B.evs.lst) (fun i x H' Nt Ny hi sx f0 f1 => ⟨rfl, ?_⟩) (fun H' sx e => ?_)
    · obtain ⟨y, hy, rfl⟩ : ∃ y, d.es[i]? = some y ∧ x = V.ref y := by
        rw [List.getElem?_map] at hi
        cases e : d.es[i]? with
        | none => rw [e] at hi; cases hi
        | some z => rw [e] at hi; exact ⟨z, rfl, (Option.some.inj hi).symm⟩
      obtain ⟨e, _, he⟩ := B.evs.at_ i y hy
      rw [evF_is he] at f0 f1
      refine ⟨_, rfl, y, _, _, _, rfl, rfl, SqT.of (sx _ _ he), at_of (j := 2) rfl rfl, _, rfl, rfl, _, rfl, ?_⟩
      by_cases q : e.what = z
      · refine iteDT (by rw [q]) ⟨_, rfl, f1 (by rw [q]; simp)⟩
      · refine iteDF (by intro w; injection w with w; omega) (f0 (by rw [beq_eq_false_iff_ne]; exact q))
    · refine ⟨D, _, rfl, .inl (SqL.of e), ?_⟩
      rw [List.map_id', cnt_is d.es s.log B.evs.len B.evs.at_]
      exact k H' sx
end
end Vt

end
section
set_option Elab.async false
set_option linter.all false
set_option maxRecDepth 100000
set_option maxHeartbeats 2000000
namespace Vt
open PySem PySem.Spec PyProof.Rows L2
theorem ite_and {A B : Prop} {x y : Bool} (h1 : x = true → if y = true then A else B) (h2 : x = false → B) : if (x && y) = true then A else B := by
  cases x with
  | true => exact h1 rfl
  | false => exact iteF (h2 rfl)
noncomputable def layOk (n tol p q rate : Int) : Bool := Vbavae.within n 3 9 && (Vbavae.within tol 0 Vbavae.TOL && (Vbavae.within p 1 100 && (Vbavae.within q 1 100 && Vbavae.within rate 0 Vbavae.TOL)))
noncomputable def spLayF : Sp := fun vs H Q _ => ∃ n tol p q rate : Int, vs = [.int n, .int tol, .int p, .int q, .int rate] ∧ Q (.bl (layOk n tol p q rate)) H
noncomputable def rdOk (m x : Int) : Bool := (decide (m = 1) && Vbavae.within x (-Vbavae.BIG) Vbavae.BIG) || (decide (m = 0) && decide (x = 0))
noncomputable def spRdF : Sp := fun vs H Q _ => ∃ m x : Int, vs = [.int m, .int x] ∧ Q (.bl (rdOk m x)) H
theorem chain_le {σ : L2.St} {H : Hp} {Q : VK} {ta tb tc : TE} {x y z : Int} (ha : ∀ R : VK, R (.int x) H → ta σ H R) (hb : ∀ R : VK, R (.int y) H → tb σ H R) (hc : ∀ R : VK, R (.int z) H → tc σ H R) (q : Q (.bl (Vbavae.within y x z)) H) :
    tChain (rI0 fun i j => .bl (decide (i ≤ j))) (rI0 fun i j => .bl (decide (i ≤ j))) ta tb tc σ H Q := by
  refine ha _ (hb _ ⟨_, _, rfl, rfl, _, rfl, ?_⟩)
  unfold Vbavae.within at q
  by_cases h : x ≤ y
  · rw [decide_eq_true h] at q ⊢
    exact iteT (hc _ ⟨_, _, rfl, rfl, q⟩)
  · rw [decide_eq_false h] at q ⊢
    exact iteF q
section
variable {P : Program} {w : World} {K : PySem.W.Frag} {mg : Str → Option Value} {base : Heap} {a : Ad}
theorem ok_lay_fits (T : Txt K mg a) : FnOk P w K mg base CX0 1 a.f_lay_fits a.d_lay_fits ["n", "tol", "p", "q", "rate"] spLayF := by
  refine T.F_lay_fits.ok sc_lay_fits (fun vs H Q E h => ?_) (fun cdv A outer s H vs Q E hr h => ?_)
  · obtain ⟨n, tol, p, q, rate, rfl, _⟩ := h; rfl
  · obtain ⟨n, tol, p, q, rate, rfl, k⟩ := h
    refine ⟨_, (pss_cons (ps_if (pt_not (PW.pt (pw_and (pt_chain op_le op_le pe_int (pv 0) pe_int) (pw_and1 (pt_chain op_le op_le pe_int (pv 1) (pe_gint rfl T.c_GREATEST_STEP)))))) (pss_one (ps_ret pe_bl)) pss_nil) (pss_one (ps_ret (pe_and (pe_chain op_le op_le pe_int (pv 2) pe_int) (pe_and (pe_chain op_le op_le pe_int (pv 3) pe_int) (pe_one (pe_chain op_le op_le pe_int (pv 4) (pe_gint rfl T.c_GREATEST_STEP)))))))), ?_⟩
    refine chain_le (fun R h => h) (fun R h => ⟨_, rfl, h⟩) (fun R h => h) ⟨_, rfl, ?_⟩
    unfold layOk at k
    cases e1 : Vbavae.within n 3 9 with
    | false =>
      rw [e1] at k
      exact iteF (iteT k)
    | true =>
      rw [e1] at k
      refine iteT (chain_le (fun R h => h) (fun R h => ⟨_, rfl, h⟩) (fun R h => h) ⟨_, rfl, ?_⟩)
      cases e2 : Vbavae.within tol 0 Vbavae.TOL with
      | false =>
        rw [e2] at k
        have e2' : Vbavae.within tol 0 1000000000 = false := e2
        rw [e2']
        exact iteT k
      | true =>
        rw [e2] at k
        have e2' : Vbavae.within tol 0 1000000000 = true := e2
        rw [e2']
        refine iteF ?_
        simp only [tNext, tRet, tAndV]
        refine chain_le (fun R h => h) (fun R h => ⟨_, rfl, h⟩) (fun R h => h) ⟨_, rfl, ?_⟩
        cases e3 : Vbavae.within p 1 100 with
        | false => rw [e3] at k; exact iteF k
        | true =>
          rw [e3] at k
          refine iteT (chain_le (fun R h => h) (fun R h => ⟨_, rfl, h⟩) (fun R h => h) ⟨_, rfl, ?_⟩)
          cases e4 : Vbavae.within q 1 100 with
          | false => rw [e4] at k; exact iteF k
          | true =>
            rw [e4] at k
            exact iteT (chain_le (fun R h => h) (fun R h => ⟨_, rfl, h⟩) (fun R h => h) k)
theorem ok_reading_fits (T : Txt K mg a) : FnOk P w K mg base CX0 1 a.f_reading_fits a.d_reading_fits ["mark", "reading"] spRdF := by
  refine T.F_reading_fits.ok sc_reading_fits (fun vs H Q E h => ?_) (fun cdv A outer s H vs Q E hr h => ?_)
  · obtain ⟨m, x, rfl, _⟩ := h; rfl
  · obtain ⟨m, x, rfl, k⟩ := h
    refine ⟨_, (pss_cons (ps_if (pt_cmpR op_eq (pv 0) pe_int (nomark _)) (pss_one (ps_ret (pe_cmpR op_eq (pv 1) pe_int (nomark _)))) pss_nil) (pss_one (ps_ret (pe_and (pe_cmpR op_eq (pv 0) pe_int (nomark _)) (pe_one (pe_chain op_le op_le (pe_un un_neg (pe_gint rfl T.c_GREATEST_READING)) (pv 1) (pe_gint rfl T.c_GREATEST_READING))))))), ?_⟩
    refine ⟨_, rfl, rfl, _, rfl, ?_⟩
    unfold rdOk at k
    by_cases e : m = 0
    · subst e
      refine iteDT rfl ⟨_, rfl, rfl, ?_⟩
      rw [dec_int]
      simpa [decide_eq_true_eq, Bool.beq_eq_decide_eq] using k
    · refine iteDF (by intro q; injection q with q; exact e q) ?_
      refine ⟨_, rfl, rfl, _, rfl, ?_⟩
      by_cases e1 : m = 1
      · subst e1
        refine iteDT rfl (chain_le (fun R h => ⟨_, rfl, h⟩) (fun R h => ⟨_, rfl, h⟩) (fun R h => h) ?_)
        simpa [Vbavae.BIG] using k
      · refine iteDF (by intro q; injection q with q; exact e1 q) ?_
        simpa [e, e1] using k
end
end Vt

end
section
set_option Elab.async false
set_option linter.all false
set_option maxRecDepth 100000
set_option maxHeartbeats 2000000
namespace Vt
open PySem PySem.Spec PyProof.Rows L2
/-! ### a sample's list -/
theorem readings_len : ∀ (l : List Int) (r : List (Option Int)), Vbavae.readings l = some r → l.length = 2 * r.length
  | [], r, h => by
    unfold Vbavae.readings at h
    cases h; rfl
  | [_], r, h => by
    unfold Vbavae.readings at h
    cases h
  | b :: x :: l, r, h => by
    unfold Vbavae.readings at h
    split at h
    · cases e : Vbavae.readings l with
      | none => rw [e] at h; cases h
      | some q =>
        rw [e] at h
        have := readings_len l q e
        cases h
        simp; omega
    · split at h
      · cases e : Vbavae.readings l with
        | none => rw [e] at h; cases h
        | some q =>
          rw [e] at h
          have := readings_len l q e
          cases h
          simp; omega
      · cases h
noncomputable def rdAt (row : List Int) (i : Nat) : Option Int := if row.getD (2 * i) 0 = 1 then some (row.getD (2 * i + 1) 0) else none
noncomputable def okAt (row : List Int) (i : Nat) : Bool := rdOk (row.getD (2 * i) 0) (row.getD (2 * i + 1) 0)
theorem range_succ_map {α : Type} (n : Nat) (f : Nat → α) : (List.range (n + 1)).map f = f 0 :: (List.range n).map (fun i => f (i + 1)) := by
  rw [List.range_succ_eq_map, List.map_cons, List.map_map]; rfl
theorem readings_is : ∀ (n : Nat) (row : List Int), row.length = 2 * n → Vbavae.readings row = if ((List.range n).map (okAt row)).all id = true then some ((List.range n).map (rdAt row)) else none
  | 0, row, h => by
    have : row = [] := List.length_eq_zero_iff.mp (by omega)
    subst this
    unfold Vbavae.readings
    rfl
  | n + 1, row, h => by
    match row, h with
    | [], h => simp at h
    | [_], h => simp at h; omega
    | b :: x :: l, h =>
      have hl : l.length = 2 * n := by simp at h; omega
      have ih := readings_is n l hl
      have e1 : ∀ i, okAt (b :: x :: l) (i + 1) = okAt l i := fun i => by
        unfold okAt
        rw [show 2 * (i + 1) = (2 * i) + 1 + 1 by omega, show 2 * i + 1 + 1 + 1 = (2 * i + 1) + 1 + 1 by omega]
        rw [List.getD_cons_succ, List.getD_cons_succ, List.getD_cons_succ, List.getD_cons_succ]
      have e2 : ∀ i, rdAt (b :: x :: l) (i + 1) = rdAt l i := fun i => by
        unfold rdAt
        rw [show 2 * (i + 1) = (2 * i) + 1 + 1 by omega, show 2 * i + 1 + 1 + 1 = (2 * i + 1) + 1 + 1 by omega]
        rw [List.getD_cons_succ, List.getD_cons_succ, List.getD_cons_succ, List.getD_cons_succ]
      rw [range_succ_map, range_succ_map]
      simp only [e1, e2]
      unfold Vbavae.readings
      rw [ih, List.all_cons]
      have o0 : okAt (b :: x :: l) 0 = rdOk b x := rfl
      have r0 : rdAt (b :: x :: l) 0 = if b = 1 then some x else none := rfl
      show _ = if (id (okAt (b :: x :: l) 0) && ((List.range n).map (okAt l)).all id) = true then some (rdAt (b :: x :: l) 0 :: (List.range n).map (rdAt l)) else none
      rw [o0, r0]
      unfold rdOk
      generalize ((List.range n).map (okAt l)).all id = t
      by_cases hb : b = 1
      · subst hb
        cases hw : Vbavae.within x (-Vbavae.BIG) Vbavae.BIG <;> cases t <;> simp
      · by_cases h0 : b = 0
        · subst h0
          by_cases hx : x = 0
          · subst hx; cases t <;> simp
          · simp [hx]
        · simp [hb, h0]
theorem sampleOf_is (s : Vbavae.St) (row : List Int) : Vbavae.sampleOf s row = if (decide (row.length = 2 * s.sensors.length) && ((List.range s.sensors.length).map (okAt row)).all id) = true then some ((List.range s.sensors.length).map (rdAt row)) else none := by
  unfold Vbavae.sampleOf
  by_cases h : row.length = 2 * s.sensors.length
  · rw [readings_is s.sensors.length row h, decide_eq_true h, Bool.true_and]
    split
    · rw [Option.filter_some, if_pos (by simp)]
    · rfl
  · rw [decide_eq_false h, Bool.false_and, if_neg (by decide)]
    cases e : Vbavae.readings row with
    | none => rfl
    | some r =>
      have := readings_len row r e
      rw [Option.filter_some, if_neg]
      intro q
      have q : r.length = s.sensors.length := eq_of_beq q
      omega
noncomputable def spSFit : Sp := fun vs H Q _ => ∃ (r : Addr) (row : List Int) (n : Nat), vs = [.ref r, .int (n : Nat)] ∧ H r = some (.lst (row.map V.int)) ∧ n ≤ 9 ∧ ∀ H', Same H H' → Q (.bl (decide (row.length = 2 * n) && ((List.range n).map (okAt row)).all id)) H'
section
variable {P : Program} {w : World} {K : PySem.W.Frag} {mg : Str → Option Value} {base : Heap} {a : Ad}
theorem rd_row {H : Hp} {r : Addr} {row : List Int} {i : Nat} (h : i < row.length) : (row.map V.int)[i]? = some (V.int (row.getD i 0)) := by
  rw [List.getElem?_map, List.getD_eq_getElem?_getD, List.getElem?_eq_getElem h]; rfl
theorem ok_sample_fits (T : Txt K mg a) : FnOk P w K mg base CX0 2 a.f_sample_fits a.d_sample_fits ["row", "n"] spSFit := by
  refine T.F_sample_fits.ok sc_sample_fits (fun vs H Q E h => ?_) (fun cdv A outer s H vs Q E hr h => ?_)
  · obtain ⟨r, row, n, rfl, _⟩ := h; rfl
  · obtain ⟨r, row, n, rfl, hr1, hn, k⟩ := h
    refine ⟨_, (pss_cons (ps_if (pt_cmpR op_ne (pe_callB (len_seqK K rfl) (by rfl) T.g_len PySem.boot_len (pa_cons (pv 0) pa_nil)) (pe_op op_mul pe_int (pv 1)) (nomark _)) (pss_one (ps_ret pe_bl)) pss_nil) (pss_one (ps_ret (pe_callB (allK K rfl rfl) (by rfl) T.g_all (by rfl) (pa_cons (pe_lcO [("i", 2)] rfl sc_sample_fits.nd (blkOk_by (by rfl)) (pi_range1 rfl T.g_range (pa_cons (pv 1) pa_nil)) (fun _ _ _ _ _ => pg_name (i := 2) sc_sample_fits.nd rfl (Or.inl rfl)) (fun _ _ _ _ _ => pts_nil) (fun _ _ _ _ _ => (pe_call (ok_reading_fits T) (hr.mono (by decide)) rfl T.mg_reading_fits T.F_reading_fits.kp T.b_reading_fits .nil pass0 (pa_cons (pe_ix (ix_listK K rfl) (pv 0) (pe_op op_mul pe_int (pv 2)) (fun _ _ => rfl)) (pa_cons (pe_ix (ix_listK K rfl) (pv 0) (pe_op op_add (pe_op op_mul pe_int (pv 2)) pe_int) (fun _ _ => rfl)) pa_nil))))) pa_nil))))), ?_⟩
    refine ⟨_, rfl, r, _, rfl, .inl (SqL.of hr1), _, rfl, _, _, rfl, rfl, .inl ⟨by decide, by decide⟩, rfl, _, rfl, ?_⟩
    by_cases h : row.length = 2 * n
    · rw [decide_eq_true h] at k
      refine iteNS (by rw [List.length_map]; congr 1; omega) ?_
      refine ⟨_, rfl, _, rfl, by omega, by omega, fun D hD => ?_⟩
      rw [natV_toNat]
      refine lc_rangeP (fun _ => true) (fun i => V.bl (okAt row i)) (by omega) hD (fun i H' Nt Ny hi s f0 f1 => ⟨rfl, iteT (B := Nt H') ?_⟩) (fun H' s e => ?_)
      · have hH := s _ _ hr1
        refine ⟨_, rfl, _, rfl, _, _, rfl, rfl, .inl ⟨by decide, by decide⟩, r, _, _, _, rfl, rfl, SqL.of hH, at_of (j := 2 * i) (by omega) (rd_row (H := H) (r := r) (by omega)), ?_⟩
        refine ⟨_, rfl, _, rfl, _, _, rfl, rfl, .inl ⟨by decide, by decide⟩, _, _, rfl, rfl, r, _, _, _, rfl, rfl, SqL.of hH, at_of (j := 2 * i + 1) (by omega) (rd_row (H := H) (r := r) (by omega)), ?_⟩
        exact ⟨_, _, rfl, f1 rfl⟩
      · rw [filt_true] at e
        refine ⟨D, (List.range n).map (okAt row), rfl, SqL.of (by rw [e, List.map_map]; rfl), ?_⟩
        exact k H' s
    · rw [decide_eq_false h] at k
      exact iteDN (by rw [List.length_map]; intro q; injection q with q; omega) (k H (Same.refl H))
end
end Vt

end
section
set_option Elab.async false
set_option linter.all false
set_option maxRecDepth 100000
set_option maxHeartbeats 2000000
namespace Vt
open PySem PySem.Spec PyProof.Rows L2
noncomputable def sampSt (s : Vbavae.St) (row : List Int) : Vbavae.St := match Vbavae.sampleOf s row with
  | none => s
  | some r => Vbavae.sampled s r
noncomputable def sampAns (s : Vbavae.St) (row : List Int) : List Int := match Vbavae.sampleOf s row with
  | none => [-1]
  | some r => Vbavae.answerOf s r
noncomputable def spSample (CS CP : Addr) : Sp := fun vs H Q _ => ∃ (d : PD) (s : Vbavae.St) (r : Addr) (row : List Int), vs = [.ref d.p, .ref r] ∧ PanelAt CS CP H d s ∧ WfP s ∧ s.log.length ≤ 5000 ∧ H r = some (.lst (row.map V.int)) ∧
  ∀ H' d' q, PanelAt CS CP H' d' (sampSt s row) → d'.p = d.p → d'.foot = d.foot → d'.ls = d.ls → (d'.lv = d.lv ∨ H d'.lv = none) → Keep d.foot H H' → H q = none → H' q = some (.lst ((sampAns s row).map V.int)) → Q (.ref q) H'
/-- a look at the panel: it stays, a new list is answered -/
noncomputable def spLook (CS CP : Addr) (f : Vbavae.St → List Int) : Sp := fun vs H Q _ => ∃ (d : PD) (s : Vbavae.St), vs = [.ref d.p] ∧ PanelAt CS CP H d s ∧ WfP s ∧ ∀ H' q, Same H H' → H q = none → H' q = some (.lst ((f s).map V.int)) → Q (.ref q) H'
noncomputable def spLookI (CS CP : Addr) (f : Vbavae.St → Int → List Int) : Sp := fun vs H Q _ => ∃ (d : PD) (s : Vbavae.St) (i : Int), vs = [.ref d.p, .int i] ∧ PanelAt CS CP H d s ∧ WfP s ∧ ∀ H' q, Same H H' → H q = none → H' q = some (.lst ((f s i).map V.int)) → Q (.ref q) H'
noncomputable def ansValue (s : Vbavae.St) : List Int := Vbavae.told s.value ++ ((s.age : Int) :: Vbavae.told s.out)
noncomputable def ansSensor (s : Vbavae.St) (i : Int) : List Int := if Vbavae.nodeOk s i = false then [-1] else
  [Vbavae.bit (Vbavae.sensorAt s i.toNat).inn, ((Vbavae.sensorAt s i.toNat).bad : Int), ((Vbavae.sensorAt s i.toNat).good : Int), Vbavae.bit (Vbavae.sensorAt s i.toNat).barred]
noncomputable def ansOne (c : Sn) : List Int := [Vbavae.bit c.inn, (c.bad : Int), (c.good : Int), Vbavae.bit c.barred]
noncomputable def spState (C : Addr) : Sp := fun vs H Q _ => ∃ (x : Addr) (c : Sn), vs = [.ref x] ∧ SensorAt C H x c ∧ ∀ H' q, Same H H' → H q = none → H' q = some (.lst ((ansOne c).map V.int)) → Q (.ref q) H'
noncomputable def ansTrusted (s : Vbavae.St) : List Int := Vbavae.listed (Vbavae.ints (Vbavae.trustedIn s))
theorem rdRow_if (row : List Int) (i : Nat) : optV (rdAt row i) = if row.getD (2 * i) 0 = 1 then V.int (row.getD (2 * i + 1) 0) else V.non := by
  unfold rdAt; split <;> rfl
/-- 0 <= i < n -/
theorem nodeOk_is (s : Vbavae.St) (i : Int) : Vbavae.nodeOk s i = (decide (0 ≤ i) && decide (i < (s.sensors.length : Nat))) := by
  unfold Vbavae.nodeOk Vbavae.within
  congr 1
  by_cases h : i < (s.sensors.length : Nat)
  · rw [decide_eq_true h, decide_eq_true (by omega)]
  · rw [decide_eq_false h, decide_eq_false (by omega)]
section
variable {P : Program} {w : World} {K : PySem.W.Frag} {mg : Str → Option Value} {base : Heap} {a : Ad}
theorem ok_sample (T : Txt K mg a) : FnOk P w K mg base CX0 5 a.f_sample a.d_sample ["panel", "row"] (spSample a.C_Sensor a.C_Panel) := by
  refine T.F_sample.ok sc_sample (fun vs H Q E h => ?_) (fun cdv A outer s H vs Q E hr h => ?_)
  · obtain ⟨d, s, r, row, rfl, _⟩ := h; rfl
  · obtain ⟨d, s, r, row, rfl, B, wf, hlog, hr1, k⟩ := h
    refine ⟨_, (pss_cons (ps_set (i := 2) sc_sample.nd rfl (Or.inl rfl) (pe_callB (len_seqK K rfl) (by rfl) T.g_len PySem.boot_len (pa_cons (pe_fldK K rfl (pv 0) rfl) pa_nil))) (pss_cons (ps_if (pt_not (pt_val (pe_call (ok_sample_fits T) (hr.mono (by decide)) rfl T.mg_sample_fits T.F_sample_fits.kp T.b_sample_fits .nil pass0 (pa_cons (pv 1) (pa_cons (pv 2) pa_nil))))) (pss_one (ps_ret (pe_lst (pa_cons (pe_gint rfl T.c_OUT_OF_RANGE) pa_nil)))) pss_nil) (pss_one (ps_ret (pe_call (ok_take_sample T) (hr.mono (by decide)) rfl T.mg_take_sample T.F_take_sample.kp T.b_take_sample .nil pass0 (pa_cons (pv 0) (pa_cons (pe_lcO [("i", 3)] rfl sc_sample.nd (blkOk_by (by rfl)) (pi_range1 rfl T.g_range (pa_cons (pv 2) pa_nil)) (fun _ _ _ _ _ => pg_name (i := 3) sc_sample.nd rfl (Or.inl rfl)) (fun _ _ _ _ _ => pts_nil) (fun _ _ _ _ _ => (pe_ifExp (pt_cmpR op_eq (pe_ix (ix_listK K rfl) (pv 1) (pe_op op_mul pe_int (pv 3)) (fun _ _ => rfl)) pe_int (nomark _)) (pe_ix (ix_listK K rfl) (pv 1) (pe_op op_add (pe_op op_mul pe_int (pv 3)) pe_int) (fun _ _ => rfl)) pe_non))) pa_nil))))))), ?_⟩
    refine ⟨_, rfl, d.p, _, d.dx, _, _, rfl, B.obj, T.cl_Panel, T.n_Panel_sensors, pf_sensors _, d.ls, _, rfl, .inl (SqL.of B.sens.lst), ?_⟩
    have hlen : (d.as.map V.ref).length = s.sensors.length := by rw [List.length_map, B.sens.len]
    rw [hlen]
    refine ⟨_, rfl, _, rfl, r, row, s.sensors.length, rfl, hr1, wf.n9, fun H1 s1 => ⟨_, rfl, ?_⟩⟩
    have hS := sampleOf_is s row
    have B1 := B.same s1
    cases e : (decide (row.length = 2 * s.sensors.length) && ((List.range s.sensors.length).map (okAt row)).all id) with
    | false =>
      rw [e, if_neg (by decide)] at hS
      refine iteT ⟨by show 1 ≤ sizeLine; decide, fun q nq => ?_⟩
      have eS : sampSt s row = s := by unfold sampSt; rw [hS]
      have eA : sampAns s row = [-1] := by unfold sampAns; rw [hS]
      rw [eS, eA] at k
      exact k _ d q (B1.same (same_upd nq)) rfl rfl rfl (.inl rfl) (Keep.of_same (s1.trans (same_upd nq))) (s1.free nq) upd_same
    | true =>
      rw [e, if_pos rfl] at hS
      have hl : row.length = 2 * s.sensors.length := by
        have := (Bool.and_eq_true_iff.mp e).1
        exact of_decide_eq_true this
      have eS : sampSt s row = Vbavae.sampled s ((List.range s.sensors.length).map (rdAt row)) := by unfold sampSt; rw [hS]
      have eA : sampAns s row = Vbavae.answerOf s ((List.range s.sensors.length).map (rdAt row)) := by unfold sampAns; rw [hS]
      rw [eS, eA] at k
      refine iteF ?_
      simp only [tNext, tRet, tCall]
      refine ⟨_, rfl, _, rfl, _, rfl, by have := wf.n9; omega, by have := wf.n9; omega, fun D hD => ?_⟩
      rw [natV_toNat]
      refine lc_rangeP (fun _ => true) (fun i => optV (rdAt row i)) (by have := wf.n9; omega) hD (fun i H' Nt Ny hi sx f0 f1 => ⟨rfl, iteT (B := Nt H') ?_⟩) (fun H2 s2 e2 => ?_)
      · have hH := sx _ _ (s1 _ _ hr1)
        have q := f1 rfl
        rw [rdRow_if] at q
        refine ⟨_, rfl, _, rfl, _, _, rfl, rfl, .inl ⟨by decide, by decide⟩, r, _, _, _, rfl, rfl, SqL.of hH, at_of (j := 2 * i) (by omega) (rd_row (H := H) (r := r) (by omega)), rfl, _, rfl, ?_⟩
        by_cases h1 : row.getD (2 * i) 0 = 1
        · rw [if_pos h1] at q
          refine iteDT (by rw [h1]) ?_
          exact ⟨_, rfl, _, rfl, _, _, rfl, rfl, .inl ⟨by decide, by decide⟩, _, _, rfl, rfl, r, _, _, _, rfl, rfl, SqL.of hH, at_of (j := 2 * i + 1) (by omega) (rd_row (H := H) (r := r) (by omega)), q⟩
        · rw [if_neg h1] at q
          exact iteDF (by intro z; injection z with z; exact h1 z) q
      · rw [filt_true] at e2
        have B2 := B1.same s2
        refine ⟨d, s, D, (List.range s.sensors.length).map (rdAt row), rfl, B2, wf, hlog, by rw [e2, List.map_map]; rfl, by simp, fun H' es lv q BF kF nlv nq hq => ?_⟩
        exact k H' _ q BF rfl rfl rfl (.inr ((s1.trans s2).free nlv)) (fun b o eb nb => kF b o (s2 b o (s1 b o eb)) nb) ((s1.trans s2).free nq) hq
theorem ok_value (T : Txt K mg a) : FnOk P w K mg base CX0 2 a.f_value a.d_value ["panel"] (spLook a.C_Sensor a.C_Panel ansValue) := by
  refine T.F_value.ok sc_value (fun vs H Q E h => ?_) (fun cdv A outer s H vs Q E hr h => ?_)
  · obtain ⟨d, s, rfl, _⟩ := h; rfl
  · obtain ⟨d, s, rfl, B, wf, k⟩ := h
    refine ⟨_, (pss_one (ps_ret (pe_op op_cat (pe_op op_cat (pe_call (ok_told T) (hr.mono (by decide)) rfl T.mg_told T.F_told.kp T.b_told .nil pass0 (pa_cons (pe_fldK K rfl (pv 0) rfl) pa_nil)) (pe_lst (pa_cons (pe_fldK K rfl (pv 0) rfl) pa_nil))) (pe_call (ok_told T) (hr.mono (by decide)) rfl T.mg_told T.F_told.kp T.b_told .nil pass0 (pa_cons (pe_fldK K rfl (pv 0) rfl) pa_nil))))), ?_⟩
    refine ⟨_, rfl, d.p, _, d.dx, _, _, rfl, B.obj, T.cl_Panel, T.n_Panel_last, pf_last _, _, rfl, fun q1 nq1 => ?_⟩
    have t1 := same_upd nq1 (o := .lst ((Vbavae.told s.value).map V.int))
    refine ⟨_, rfl, d.p, _, d.dx, _, _, rfl, (B.same t1).obj, T.cl_Panel, T.n_Panel_age, pf_age _, by show 1 ≤ sizeLine; decide, fun q2 nq2 => ?_⟩
    have t2 := same_upd nq2 (o := .lst [V.int (s.age : Nat)])
    refine ⟨q1, q2, _, _, rfl, rfl, t2 _ _ upd_same, upd_same, by rw [told_len]; show 2 + 1 ≤ sizeLine; decide, fun q3 nq3 => ?_⟩
    have t3 := same_upd nq3 (o := .lst ((Vbavae.told s.value).map V.int ++ [V.int (s.age : Nat)]))
    have B3 := ((B.same t1).same t2).same t3
    refine ⟨_, rfl, d.p, _, d.dx, _, _, rfl, B3.obj, T.cl_Panel, T.n_Panel_put_out, pf_put_out _, _, rfl, fun q4 nq4 => ?_⟩
    have t4 := same_upd nq4 (o := .lst ((Vbavae.told s.out).map V.int))
    refine ⟨q3, q4, _, _, rfl, rfl, t4 _ _ upd_same, upd_same, by rw [List.length_append, told_len, told_len]; show 2 + 1 + 2 ≤ sizeLine; decide, fun q5 nq5 => ?_⟩
    have t5 := same_upd nq5 (o := .lst ((Vbavae.told s.value).map V.int ++ [V.int (s.age : Nat)] ++ (Vbavae.told s.out).map V.int))
    refine k _ q5 ((((t1.trans t2).trans t3).trans t4).trans t5) ((((t1.trans t2).trans t3).trans t4).free nq5) ?_
    rw [upd_same]
    unfold ansValue
    rw [List.map_append, List.append_assoc]
    rfl
theorem ok_trusted_list (T : Txt K mg a) : FnOk P w K mg base CX0 2 a.f_trusted_list a.d_trusted_list ["panel"] (spLook a.C_Sensor a.C_Panel ansTrusted) := by
  refine T.F_trusted_list.ok sc_trusted_list (fun vs H Q E h => ?_) (fun cdv A outer s H vs Q E hr h => ?_)
  · obtain ⟨d, s, rfl, _⟩ := h; rfl
  · obtain ⟨d, s, rfl, B, wf, k⟩ := h
    refine ⟨_, (pss_cons (ps_set (i := 1) sc_trusted_list.nd rfl (Or.inl rfl) (pe_call (ok_trusted_numbers T) (hr.mono (by decide)) rfl T.mg_trusted_numbers T.F_trusted_numbers.kp T.b_trusted_numbers .nil pass0 (pa_cons (pe_fldK K rfl (pv 0) rfl) pa_nil))) (pss_one (ps_ret (pe_op op_cat (pe_lst (pa_cons (pe_callB (len_seqK K rfl) (by rfl) T.g_len PySem.boot_len (pa_cons (pv 1) pa_nil)) pa_nil)) (pv 1))))), ?_⟩
    refine ⟨_, rfl, d.p, _, d.dx, _, _, rfl, B.obj, T.cl_Panel, T.n_Panel_sensors, pf_sensors _, d.ls, d.as, _, rfl, B.sens, wf.n9, fun H1 u s1 nu hu => ?_⟩
    refine ⟨_, rfl, u, _, rfl, .inl (SqL.of hu), by show 1 ≤ sizeLine; decide, fun q1 nq1 => ?_⟩
    have t1 := same_upd nq1 (o := .lst [V.int ((trusN s.sensors).map natV).length])
    have hl9 : (trusN s.sensors).length ≤ 9 := Nat.le_trans (filt_len _ _) wf.n9
    refine ⟨_, rfl, q1, u, _, _, rfl, rfl, upd_same, t1 _ _ hu, ?_, fun q2 nq2 => ?_⟩
    · rw [List.length_map]
      show 1 + _ ≤ sizeLine
      have : (1000 : Nat) < sizeLine := by decide
      omega
    · refine k _ q2 ((s1.trans t1).trans (same_upd nq2)) ((s1.trans t1).free nq2) ?_
      rw [upd_same]
      show some (HO.lst (V.int ((trusN s.sensors).map natV).length :: (trusN s.sensors).map natV)) = some (HO.lst (V.int ((Vbavae.ints (trusN s.sensors)).length : Nat) :: (Vbavae.ints (trusN s.sensors)).map V.int))
      unfold Vbavae.ints
      rw [List.length_map, List.length_map, List.map_map]
      rfl
theorem ok_sensor_state (T : Txt K mg a) : FnOk P w K mg base CX0 1 a.f_sensor_state a.d_sensor_state ["sensor"] (spState a.C_Sensor) := by
  refine T.F_sensor_state.ok sc_sensor_state (fun vs H Q E h => ?_) (fun cdv A outer s H vs Q E hr h => ?_)
  · obtain ⟨x, c, rfl, _⟩ := h; rfl
  · obtain ⟨x, c, rfl, ⟨dx, hS⟩, k⟩ := h
    refine ⟨_, (pss_one (ps_ret (pe_lst (pa_cons (pe_ifExp (pt_val (pe_fldK K rfl (pv 0) rfl)) pe_int pe_int) (pa_cons (pe_fldK K rfl (pv 0) rfl) (pa_cons (pe_fldK K rfl (pv 0) rfl) (pa_cons (pe_ifExp (pt_val (pe_fldK K rfl (pv 0) rfl)) pe_int pe_int) pa_nil))))))), ?_⟩
    refine ⟨_, rfl, x, _, dx, _, _, rfl, hS, T.cl_Sensor, T.n_Sensor_trusted, sf_trusted _, _, rfl, ?_⟩
    have fin : ∀ c1 c2 : Bool, c.inn = c1 → c.barred = c2 → ∀ q, H q = none → Q (.ref q) (upd H q (.lst [V.int (if c1 = true then 1 else 0), V.int (c.bad : Nat), V.int (c.good : Nat), V.int (if c2 = true then 1 else 0)])) := fun c1 c2 e1 e2 q nq => by
      refine k _ q (same_upd nq) nq ?_
      unfold ansOne
      rw [upd_same, e1, e2]; rfl
    have rest : ∀ c1 : Bool, c.inn = c1 → tCons (tFld K (tVar 0) "bad") (tCons (tFld K (tVar 0) "good") (tCons (tIf (tB (tFld K (tVar 0) "barred")) (tC (V.int 1)) (tC (V.int 0))) tNil)) [some (.ref x)] H (fun xs H2 => ((V.int (if c1 = true then 1 else 0)) :: xs).length ≤ sizeLine ∧ ∀ p, H2 p = none → Q (.ref p) (upd H2 p (.lst ((V.int (if c1 = true then 1 else 0)) :: xs)))) := fun c1 e1 => by
      refine ⟨_, rfl, x, _, dx, _, _, rfl, hS, T.cl_Sensor, T.n_Sensor_bad, sf_bad _, _, rfl, x, _, dx, _, _, rfl, hS, T.cl_Sensor, T.n_Sensor_good, sf_good _, _, rfl, x, _, dx, _, _, rfl, hS, T.cl_Sensor, T.n_Sensor_barred, sf_barred _, _, rfl, ?_⟩
      cases e2 : c.barred with
      | true => exact iteT ⟨by show 4 ≤ sizeLine; decide, fin c1 true e1 e2⟩
      | false => exact iteF ⟨by show 4 ≤ sizeLine; decide, fin c1 false e1 e2⟩
    cases e1 : c.inn with
    | true => exact iteT (rest true e1)
    | false => exact iteF (rest false e1)
end
end Vt

end
section
set_option Elab.async false
set_option linter.all false
set_option maxRecDepth 100000
set_option maxHeartbeats 2000000
namespace Vt
open PySem PySem.Spec PyProof.Rows L2
/-! ### the desk -/
noncomputable def footO : Option PD → List Addr
  | none => []
  | some d => d.foot
noncomputable def reachO : Option PD → List Addr
  | none => []
  | some d => d.reach
theorem foot_reach {o : Option PD} {b : Addr} (h : b ∈ footO o) : b ∈ reachO o := by
  cases o with
  | none => cases h
  | some d => exact List.mem_cons_of_mem _ (List.mem_cons_of_mem _ h)
noncomputable def DeskAt (a : Ad) (H : Hp) (k : Addr) : Option PD → Vbavae.St → Prop
  | none, s => s.laid = false ∧ ∃ dk, H k = some (.ins a.C_Desk dk [("panel", .non)])
  | some d, s => s.laid = true ∧ WfP s ∧ PanelAt a.C_Sensor a.C_Panel H d s ∧ ∃ dk, H k = some (.ins a.C_Desk dk [("panel", .ref d.p)])
/-- what a call's answer must reach -/
noncomputable def Post (a : Ad) (H : Hp) (k : Addr) (o : Option PD) (r : Vbavae.St × List Int) (Q : VK) : Prop :=
  ∀ H' o' q, DeskAt a H' k o' r.1 → (∀ b, b ∈ reachO o' → b ∈ reachO o ∨ H b = none) → Keep (k :: footO o) H H' → H q = none → H' q = some (.lst (r.2.map V.int)) → Q (.ref q) H'
theorem DeskAt.same {a : Ad} {H H' : Hp} {k : Addr} {o : Option PD} {s : Vbavae.St} (h : DeskAt a H k o s) (e : Same H H') : DeskAt a H' k o s := by
  cases o with
  | none => obtain ⟨h1, dk, h2⟩ := h; exact ⟨h1, dk, e _ _ h2⟩
  | some d => obtain ⟨h1, h2, h3, dk, h4⟩ := h; exact ⟨h1, h2, h3.same e, dk, e _ _ h4⟩
theorem DeskAt.obj {a : Ad} {H : Hp} {k : Addr} {o : Option PD} {s : Vbavae.St} (h : DeskAt a H k o s) : ∃ dk v, H k = some (.ins a.C_Desk dk [("panel", v)]) := by
  cases o with
  | none => obtain ⟨h1, dk, h2⟩ := h; exact ⟨dk, _, h2⟩
  | some d => obtain ⟨h1, h2, h3, dk, h4⟩ := h; exact ⟨dk, _, h4⟩
theorem DeskAt.track {a : Ad} {H : Hp} {k : Addr} {o : Option PD} {s : Vbavae.St} (h : DeskAt a H k o s) {b : Addr} (hb : b ∈ k :: footO o) : ∃ u, H b = some u := by
  rcases List.mem_cons.mp hb with rfl | hb
  · obtain ⟨dk, v, e⟩ := h.obj; exact ⟨_, e⟩
  · cases o with
    | none => cases hb
    | some d => exact h.2.2.1.track hb
/-- a list that is no part of it is written -/
theorem DeskAt.out {a : Ad} {H : Hp} {k g : Addr} {o : Option PD} {s : Vbavae.St} {xs ys : List V} (h : DeskAt a H k o s) (hg : H g = some (.lst xs)) (gk : g ≠ k) (go : ¬ g ∈ reachO o) : DeskAt a (upd H g (.lst ys)) k o s := by
  cases o with
  | none => obtain ⟨h1, dk, h2⟩ := h; exact ⟨h1, dk, by rw [upd_ne (Ne.symm gk)]; exact h2⟩
  | some d =>
    obtain ⟨h1, h2, h3, dk, h4⟩ := h
    have k1 : ∀ {b : Addr} {u : HO}, H b = some u → b ≠ g → (upd H g (.lst ys)) b = some u := fun {b u} e n => by rw [upd_ne n]; exact e
    have n1 : d.ls ≠ g := fun q => go (by rw [← q]; exact List.mem_cons_self)
    have n2 : d.lv ≠ g := fun q => go (by rw [← q]; exact List.mem_cons_of_mem _ List.mem_cons_self)
    have n3 : ∀ b, b ∈ d.foot → b ≠ g := fun b hb q => go (by rw [← q]; exact List.mem_cons_of_mem _ (List.mem_cons_of_mem _ hb))
    refine ⟨h1, h2, ⟨k1 h3.obj (n3 _ List.mem_cons_self), ⟨k1 h3.sens.lst n1, h3.sens.nd, h3.sens.len, fun j x e => ?_⟩, ⟨k1 h3.evs.lst (n3 _ (List.mem_cons_of_mem _ List.mem_cons_self)), h3.evs.len, fun j x e => ?_⟩, k1 h3.vts n2, h3.nle, h3.nve⟩, dk, k1 h4 (Ne.symm gk)⟩
    · obtain ⟨c, q1, dx, q2⟩ := h3.sens.at_ j x e
      exact ⟨c, q1, dx, k1 q2 (n3 _ (List.mem_cons_of_mem _ (List.mem_cons_of_mem _ (List.mem_of_getElem? e))))⟩
    · obtain ⟨c, q1, q2⟩ := h3.evs.at_ j x e
      exact ⟨c, q1, k1 q2 fun q => by rw [q, hg] at q2; cases q2⟩
/-- a refusal, or a look: nothing changes -/
theorem Post.same {a : Ad} {H H' : Hp} {k : Addr} {o : Option PD} {s : Vbavae.St} {l : List Int} {Q : VK} (h : DeskAt a H k o s) (p : Post a H k o (s, l) Q) (e : Same H H') {q : Addr} (nq : H q = none) (hq : H' q = some (.lst (l.map V.int))) : Q (.ref q) H' :=
  p H' o q (h.same e) (fun b hb => .inl hb) (Keep.of_same e) nq hq
noncomputable def spLay (a : Ad) : Sp := fun vs H Q _ => ∃ (k : Addr) (o : Option PD) (s : Vbavae.St) (l : Addr) (n tol p q rate : Int), vs = [.ref k, .ref l] ∧ DeskAt a H k o s ∧ H l = some (.lst [.int n, .int tol, .int p, .int q, .int rate]) ∧ Post a H k o (Vbavae.act s (.lay n tol p q rate)) Q
theorem begun_wf {n p q : Nat} {tol rate : Int} (h1 : 3 ≤ n) (h2 : n ≤ 9) (h3 : 1 ≤ p) (h4 : 1 ≤ q) (h5 : 0 ≤ rate) : WfP (Vbavae.begun ⟨n, tol, p, q, rate⟩) := by
  refine ⟨?_, ?_, h5, fun i hi => ?_, Nat.zero_le _⟩
  · show 3 ≤ (List.replicate n Vbavae.fresh).length; rw [List.length_replicate]; exact h1
  · show (List.replicate n Vbavae.fresh).length ≤ 9; rw [List.length_replicate]; exact h2
  · have hi' : i < n := by
      have : i < (List.replicate n Vbavae.fresh).length := hi
      rwa [List.length_replicate] at this
    have e : (List.replicate n Vbavae.fresh).getD i sd = Vbavae.fresh := by
      rw [List.getD_eq_getElem?_getD, List.getElem?_replicate, if_pos hi']; rfl
    show WfS p q ((List.replicate n Vbavae.fresh).getD i sd)
    rw [e]
    exact ⟨fun _ => rfl, fun h => (by cases h), (by show 0 < p; omega), (by show 0 < q; omega)⟩
theorem layOk_iff {n tol p q rate : Int} (h : layOk n tol p q rate = true) : 3 ≤ n ∧ n ≤ 9 ∧ 1 ≤ p ∧ 1 ≤ q ∧ 0 ≤ rate := by
  unfold layOk Vbavae.within at h
  simp only [Bool.and_eq_true, decide_eq_true_eq] at h
  omega
section
variable {P : Program} {w : World} {K : PySem.W.Frag} {mg : Str → Option Value} {base : Heap} {a : Ad}
theorem ok_lay (T : Txt K mg a) : FnOk P w K mg base CX0 5 a.f_lay a.d_lay ["desk", "numbers"] (spLay a) := by
  refine T.F_lay.ok sc_lay (fun vs H Q E h => ?_) (fun cdv A outer s H vs Q E hr h => ?_)
  · obtain ⟨k, o, s, l, n, tol, p, q, rate, rfl, _⟩ := h; rfl
  · obtain ⟨k, o, s, l, n, tol, p, q, rate, rfl, D, hl, post⟩ := h
    refine ⟨_, (pss_cons (ps_set (i := 2) sc_lay.nd rfl (Or.inl rfl) (pe_ix (ix_listK K rfl) (pv 1) pe_int (fun _ _ => rfl))) (pss_cons (ps_set (i := 3) sc_lay.nd rfl (Or.inl rfl) (pe_ix (ix_listK K rfl) (pv 1) pe_int (fun _ _ => rfl))) (pss_cons (ps_set (i := 4) sc_lay.nd rfl (Or.inl rfl) (pe_ix (ix_listK K rfl) (pv 1) pe_int (fun _ _ => rfl))) (pss_cons (ps_set (i := 5) sc_lay.nd rfl (Or.inl rfl) (pe_ix (ix_listK K rfl) (pv 1) pe_int (fun _ _ => rfl))) (pss_cons (ps_set (i := 6) sc_lay.nd rfl (Or.inl rfl) (pe_ix (ix_listK K rfl) (pv 1) pe_int (fun _ _ => rfl))) (pss_cons (ps_if (pt_not (pt_val (pe_call (ok_lay_fits T) (hr.mono (by decide)) rfl T.mg_lay_fits T.F_lay_fits.kp T.b_lay_fits .nil pass0 (pa_cons (pv 2) (pa_cons (pv 3) (pa_cons (pv 4) (pa_cons (pv 5) (pa_cons (pv 6) pa_nil)))))))) (pss_one (ps_ret (pe_lst (pa_cons (pe_gint rfl T.c_OUT_OF_RANGE) pa_nil)))) pss_nil) (pss_cons (ps_fldK K rfl (pv 0) (pe_make T.mk_Panel (ok_Panel_init T) (hr.mono (by decide)) rfl T.mg_Panel T.b_Panel_init .nil pass0 (pa_cons (pv 2) (pa_cons (pv 3) (pa_cons (pv 4) (pa_cons (pv 5) (pa_cons (pv 6) pa_nil)))))) rfl) (pss_one (ps_ret (pe_lst (pa_cons pe_int pa_nil))))))))))), ?_⟩
    refine ⟨_, rfl, l, _, _, _, rfl, rfl, SqL.of hl, at_of (j := 0) rfl rfl, ?_⟩
    refine ⟨_, rfl, l, _, _, _, rfl, rfl, SqL.of hl, at_of (j := 1) rfl rfl, ?_⟩
    refine ⟨_, rfl, l, _, _, _, rfl, rfl, SqL.of hl, at_of (j := 2) rfl rfl, ?_⟩
    refine ⟨_, rfl, l, _, _, _, rfl, rfl, SqL.of hl, at_of (j := 3) rfl rfl, ?_⟩
    refine ⟨_, rfl, l, _, _, _, rfl, rfl, SqL.of hl, at_of (j := 4) rfl rfl, ?_⟩
    refine ⟨_, rfl, _, rfl, _, rfl, _, rfl, _, rfl, n, tol, p, q, rate, rfl, _, rfl, ?_⟩
    have eact : Vbavae.act s (.lay n tol p q rate) = if layOk n tol p q rate = false then (s, [-1]) else (Vbavae.begun ⟨n.toNat, tol, p.toNat, q.toNat, rate⟩, [0]) := rfl
    rw [eact] at post
    cases e : layOk n tol p q rate with
    | false =>
      rw [e, if_pos rfl] at post
      exact iteT ⟨by show 1 ≤ sizeLine; decide, fun z nz => post.same D (same_upd nz) nz upd_same⟩
    | true =>
      rw [e, if_neg (by decide)] at post
      obtain ⟨b1, b2, b3, b4, b5⟩ := layOk_iff e
      refine iteF ?_
      refine ⟨_, rfl, _, rfl, _, rfl, _, rfl, _, rfl, ?_⟩
      intro x dxx nx ndx ne
      refine ⟨x, dxx, n.toNat, tol, p.toNat, q.toNat, rate, ?_, by omega, upd_same, fun H1 ls le lv as hx1 S1 hle hlv n1 n2 m1 m2 m3 m4 k1 => ⟨rfl, ?_⟩⟩
      · rw [show ((n.toNat : Nat) : Int) = n by omega, show ((p.toNat : Nat) : Int) = p by omega, show ((q.toNat : Nat) : Int) = q by omega]; rfl
      have s01 : Same H H1 := fun b o e => by
        refine k1 b o ?_ ?_
        · rw [upd_ne (ne_of_none e nx), upd_ne (ne_of_none e ndx)]; exact e
        · simp [ne_of_none e nx]
      have fr : ∀ {b : Addr}, (upd (upd H dxx (.own x)) x (.ins a.C_Panel dxx [])) b = none → H b = none := fun {b} e => by
        by_cases h1 : b = x
        · subst h1; exact nx
        · rw [upd_ne h1] at e
          by_cases h2 : b = dxx
          · subst h2; exact ndx
          · rw [upd_ne h2] at e; exact e
      obtain ⟨dk, v, hk⟩ := D.obj
      have hk1 := s01 _ _ hk
      have nkx : k ≠ x := ne_of_none hk nx
      refine ⟨_, rfl, k, _, dk, _, rfl, hk1, T.cl_Desk, T.n_Desk_panel, (by show 1 < 1000; decide), ?_⟩
      refine ⟨by show 1 ≤ sizeLine; decide, fun z nz => ?_⟩
      have kin : ∀ {b : Addr} {o : HO}, H1 b = some o → b ≠ k → (upd (upd H1 k (.ins a.C_Desk dk [("panel", .ref x)])) z (.lst [V.int 0])) b = some o := fun {b o} e nk => by
        have q := (upd_ne (o := .ins a.C_Desk dk [("panel", .ref x)]) nk).trans e
        rw [upd_ne (ne_of_none q nz)]; exact q
      have kls : ∀ {b : Addr} {xs : List V}, H1 b = some (.lst xs) → b ≠ k := fun {b xs} e q => by rw [q, hk1] at e; cases e
      have asn : ∀ y, y ∈ as → y ≠ k := fun y hy q => by
        have := fr (m4 y hy)
        rw [q, hk] at this; cases this
      have nkz : k ≠ z := ne_of_none upd_same nz
      refine post _ (some ⟨x, dxx, ls, le, lv, as, []⟩) z ⟨rfl, begun_wf (by omega) (by omega) (by omega) (by omega) b5, ⟨kin hx1 (Ne.symm nkx), ⟨kin S1.lst (kls S1.lst), S1.nd, S1.len, fun j y ey => ?_⟩, ⟨kin hle (kls hle), rfl, fun j y ey => (by simp at ey)⟩, kin hlv (kls hlv), n1, n2⟩, dk, ?_⟩ (fun b hb => .inr ?_) (fun b u eb nb => ?_) ?_ upd_same
      · obtain ⟨c, q1, dy, q2⟩ := S1.at_ j y ey
        exact ⟨c, q1, dy, kin q2 (asn y (List.mem_of_getElem? ey))⟩
      · rw [upd_ne nkz]; exact upd_same
      · rcases List.mem_cons.mp hb with rfl | hb
        · exact fr m1
        rcases List.mem_cons.mp hb with rfl | hb
        · exact fr m3
        rcases List.mem_cons.mp hb with rfl | hb
        · exact nx
        · rcases List.mem_cons.mp hb with rfl | hb
          · exact fr m2
          · exact fr (m4 b hb)
      · exact kin (s01 b u eb) fun q => nb (by rw [q]; simp)
      · have z1 : z ≠ k := Ne.symm nkz
        rw [upd_ne z1] at nz
        exact s01.free nz
end
end Vt

end
section
set_option Elab.async false
set_option linter.all false
set_option maxRecDepth 100000
set_option maxHeartbeats 2000000
namespace Vt
/-- the numbers behind a call's own -/
noncomputable def Dec : Int → List Int → Vbavae.Call → Prop
  | x, nums, .lay n t p q r => x = 0 ∧ nums = [n, t, p, q, r]
  | x, nums, .sample l => x = 1 ∧ nums = ((l.length : Nat) : Int) :: l
  | x, nums, .would l => x = 2 ∧ nums = ((l.length : Nat) : Int) :: l
  | x, nums, .value => x = 3 ∧ nums = []
  | x, nums, .sensor i => x = 4 ∧ nums = [i]
  | x, nums, .trusted => x = 5 ∧ nums = []
  | x, nums, .bar i => x = 6 ∧ nums = [i]
  | x, nums, .free i => x = 7 ∧ nums = [i]
  | x, nums, .soonest i => x = 8 ∧ nums = [i]
  | x, nums, .trim f => x = 9 ∧ nums = [f]
  | x, nums, .log k => x = 10 ∧ nums = [k]
  | x, nums, .totals => x = 11 ∧ nums = []
theorem take1 {r : List Int} (h : ¬ r.length < 1) : ∃ x r', r = x :: r' := by
  cases r with
  | nil => simp at h
  | cons x r' => exact ⟨x, r', rfl⟩
theorem take5 {r : List Int} (h : ¬ r.length < 5) : ∃ x1 x2 x3 x4 x5 r', r = x1 :: x2 :: x3 :: x4 :: x5 :: r' := by
  match r, h with
  | [], h => simp at h
  | [_], h => simp at h
  | [_, _], h => simp at h
  | [_, _, _], h => simp at h
  | [_, _, _, _], h => simp at h
  | x1 :: x2 :: x3 :: x4 :: x5 :: r', _ => exact ⟨x1, x2, x3, x4, x5, r', rfl⟩
theorem row_is {r x t : List Int} (h : PyFlat.row r = some (x, t)) : r = ((x.length : Nat) : Int) :: x ++ t := by
  cases r with
  | nil => cases h
  | cons n r =>
    rw [PyFlat.row] at h
    split at h
    · rename_i hn
      injection h with h
      injection h with h1 h2
      subst h1; subst h2
      have : (r.take n.toNat).length = n.toNat := by rw [List.length_take]; omega
      rw [this, List.cons_append, List.take_append_drop, show ((n.toNat : Nat) : Int) = n by omega]
    · cases h
theorem rows1 {r : List Int} {xs : List (List Int)} {t : List Int} (h : PyFlat.rows 1 r = some (xs, t)) : ∃ x, xs = [x] ∧ r = ((x.length : Nat) : Int) :: x ++ t := by
  unfold PyFlat.rows at h
  cases e : PyFlat.row r with
  | none => rw [e] at h; cases h
  | some xt =>
    obtain ⟨x, s⟩ := xt
    rw [e] at h
    unfold PyFlat.rows at h
    injection h with h
    injection h with h1 h2
    subst h1; subst h2
    exact ⟨x, rfl, row_is e⟩
theorem rows0 {r : List Int} {xs : List (List Int)} {t : List Int} (h : PyFlat.rows 0 r = some (xs, t)) : xs = [] ∧ r = t := by
  unfold PyFlat.rows at h
  injection h with h
  injection h with h1 h2
  exact ⟨h1.symm, h2⟩
theorem call_shape {p : Int} {r t : List Int} {c : List (List Int)} (h : PyFlat.call PyVbavae.shape (p :: r) = some (c, t)) : ∃ n k xs, PyVbavae.shape p = some (n, k) ∧ ¬ r.length < n ∧ PyFlat.rows k (r.drop n) = some (xs, t) ∧ c = (p :: r.take n) :: xs := by
  rw [PyFlat.call] at h
  cases e : PyVbavae.shape p with
  | none => rw [e] at h; cases h
  | some nk =>
    obtain ⟨n, k⟩ := nk
    rw [e] at h
    dsimp only at h
    split at h
    · cases h
    · rename_i hl
      cases e2 : PyFlat.rows k (r.drop n) with
      | none => rw [e2] at h; cases h
      | some xt =>
        obtain ⟨xs, t'⟩ := xt
        rw [e2] at h
        injection h with h
        injection h with h1 h2
        subst h1; subst h2
        exact ⟨n, k, xs, rfl, hl, e2, rfl⟩
theorem call_dec {p : Int} {r t : List Int} {c : List (List Int)} (h : PyFlat.call PyVbavae.shape (p :: r) = some (c, t)) : ∃ d nums, r = nums ++ t ∧ Dec p nums d ∧ Vbavae.decode (PyVbavae.whole c) = some d := by
  obtain ⟨n, k, xs, hs, hl, hr, rfl⟩ := call_shape h
  unfold PyVbavae.shape at hs
  by_cases e0 : p = 0
  · subst e0
    rw [if_pos rfl] at hs
    injection hs with hs; injection hs with h1 h2; subst h1; subst h2
    obtain ⟨x1, x2, x3, x4, x5, r', rfl⟩ := take5 hl
    obtain ⟨rfl, rfl⟩ := rows0 hr
    exact ⟨.lay x1 x2 x3 x4 x5, _, rfl, ⟨rfl, rfl⟩, rfl⟩
  rw [if_neg e0] at hs
  by_cases e1 : p = 1
  · subst e1
    rw [if_pos rfl] at hs
    injection hs with hs; injection hs with h1 h2; subst h1; subst h2
    obtain ⟨x, rfl, e⟩ := rows1 hr
    exact ⟨.sample x, _, e, ⟨rfl, rfl⟩, rfl⟩
  rw [if_neg e1] at hs
  by_cases e2 : p = 2
  · subst e2
    rw [if_pos rfl] at hs
    injection hs with hs; injection hs with h1 h2; subst h1; subst h2
    obtain ⟨x, rfl, e⟩ := rows1 hr
    exact ⟨.would x, _, e, ⟨rfl, rfl⟩, rfl⟩
  rw [if_neg e2] at hs
  by_cases e3 : p = 3
  · subst e3
    rw [if_pos rfl] at hs
    injection hs with hs; injection hs with h1 h2; subst h1; subst h2
    obtain ⟨rfl, rfl⟩ := rows0 hr
    exact ⟨.value, [], rfl, ⟨rfl, rfl⟩, rfl⟩
  rw [if_neg e3] at hs
  by_cases e4 : p = 4
  · subst e4
    rw [if_pos rfl] at hs
    injection hs with hs; injection hs with h1 h2; subst h1; subst h2
    obtain ⟨x, r', rfl⟩ := take1 hl
    obtain ⟨rfl, rfl⟩ := rows0 hr
    exact ⟨.sensor x, _, rfl, ⟨rfl, rfl⟩, rfl⟩
  rw [if_neg e4] at hs
  by_cases e5 : p = 5
  · subst e5
    rw [if_pos rfl] at hs
    injection hs with hs; injection hs with h1 h2; subst h1; subst h2
    obtain ⟨rfl, rfl⟩ := rows0 hr
    exact ⟨.trusted, [], rfl, ⟨rfl, rfl⟩, rfl⟩
  rw [if_neg e5] at hs
  by_cases e6 : p = 6
  · subst e6
    rw [if_pos rfl] at hs
    injection hs with hs; injection hs with h1 h2; subst h1; subst h2
    obtain ⟨x, r', rfl⟩ := take1 hl
    obtain ⟨rfl, rfl⟩ := rows0 hr
    exact ⟨.bar x, _, rfl, ⟨rfl, rfl⟩, rfl⟩
  rw [if_neg e6] at hs
  by_cases e7 : p = 7
  · subst e7
    rw [if_pos rfl] at hs
    injection hs with hs; injection hs with h1 h2; subst h1; subst h2
    obtain ⟨x, r', rfl⟩ := take1 hl
    obtain ⟨rfl, rfl⟩ := rows0 hr
    exact ⟨.free x, _, rfl, ⟨rfl, rfl⟩, rfl⟩
  rw [if_neg e7] at hs
  by_cases e8 : p = 8
  · subst e8
    rw [if_pos rfl] at hs
    injection hs with hs; injection hs with h1 h2; subst h1; subst h2
    obtain ⟨x, r', rfl⟩ := take1 hl
    obtain ⟨rfl, rfl⟩ := rows0 hr
    exact ⟨.soonest x, _, rfl, ⟨rfl, rfl⟩, rfl⟩
  rw [if_neg e8] at hs
  by_cases e9 : p = 9
  · subst e9
    rw [if_pos rfl] at hs
    injection hs with hs; injection hs with h1 h2; subst h1; subst h2
    obtain ⟨x, r', rfl⟩ := take1 hl
    obtain ⟨rfl, rfl⟩ := rows0 hr
    exact ⟨.trim x, _, rfl, ⟨rfl, rfl⟩, rfl⟩
  rw [if_neg e9] at hs
  by_cases e10 : p = 10
  · subst e10
    rw [if_pos rfl] at hs
    injection hs with hs; injection hs with h1 h2; subst h1; subst h2
    obtain ⟨x, r', rfl⟩ := take1 hl
    obtain ⟨rfl, rfl⟩ := rows0 hr
    exact ⟨.log x, _, rfl, ⟨rfl, rfl⟩, rfl⟩
  rw [if_neg e10] at hs
  by_cases e11 : p = 11
  · subst e11
    rw [if_pos rfl] at hs
    injection hs with hs; injection hs with h1 h2; subst h1; subst h2
    obtain ⟨rfl, rfl⟩ := rows0 hr
    exact ⟨.totals, [], rfl, ⟨rfl, rfl⟩, rfl⟩
  rw [if_neg e11] at hs
  cases hs
/-- the calls, one taken -/
theorem calls_cons {f : Nat} {p : Int} {r : List Int} {cs : List (List (List Int))} (h : PyFlat.calls PyVbavae.shape f (p :: r) = some cs) : ∃ f' c t cs', cs = c :: cs' ∧ PyFlat.call PyVbavae.shape (p :: r) = some (c, t) ∧ PyFlat.calls PyVbavae.shape f' t = some cs' := by
  cases f with
  | zero => unfold PyFlat.calls at h; cases h
  | succ f =>
    unfold PyFlat.calls at h
    cases e : PyFlat.call PyVbavae.shape (p :: r) with
    | none => rw [e] at h; cases h
    | some ct =>
      obtain ⟨c, t⟩ := ct
      rw [e] at h
      dsimp only at h
      cases e2 : PyFlat.calls PyVbavae.shape f t with
      | none => rw [e2] at h; cases h
      | some cs' =>
        rw [e2] at h
        injection h with h
        exact ⟨f, c, t, cs', h.symm, rfl, e2⟩
theorem calls_nil {f : Nat} {cs : List (List (List Int))} (h : PyFlat.calls PyVbavae.shape f [] = some cs) : cs = [] := by
  cases f <;> (unfold PyFlat.calls at h; injection h with h; exact h.symm)
/-! ### sizes -/
theorem flat3_len (l : List Vbavae.Event) : (l.flatMap fun (e : Vbavae.Event) => [(e.time : Int), (e.who : Int), (e.what : Int)]).length = 3 * l.length := by
  induction l with
  | nil => rfl
  | cons e l ih => rw [List.flatMap_cons, List.length_append, ih, List.length_cons]; simp; omega
theorem toldl (o : Option Int) : (Vbavae.told o).length = 2 := by cases o <;> rfl
theorem act_len (s : Vbavae.St) (h : s.laid = true → s.sensors.length ≤ 9) (d : Vbavae.Call) : (Vbavae.act s d).2.length ≤ 160 := by
  have hA : ∀ r, (Vbavae.answerOf s r).length ≤ 160 := fun r => by
    unfold Vbavae.answerOf
    simp only [List.length_append, toldl, List.length_cons, List.length_nil]
    omega
  have hT : s.laid = true → (Vbavae.listed (Vbavae.ints (Vbavae.trustedIn s))).length ≤ 160 := fun hl => by
    have h := h hl
    unfold Vbavae.listed Vbavae.ints Vbavae.trustedIn Vbavae.numbers
    have := List.length_filter_le (fun i => (Vbavae.sensorAt s i).inn && !(Vbavae.sensorAt s i).barred) (List.range s.sensors.length)
    rw [List.length_range] at this
    simp only [List.length_cons, List.length_map]
    omega
  have hL : ∀ k : Nat, (Vbavae.listed (((s.log.drop k).take Vbavae.SHOWN).flatMap fun (e : Vbavae.Event) => [(e.time : Int), (e.who : Int), (e.what : Int)])).length ≤ 160 := fun k => by
    unfold Vbavae.listed
    rw [List.length_cons, flat3_len, List.length_take]
    have : Vbavae.SHOWN = 50 := rfl
    omega
  cases d <;> unfold Vbavae.act <;> dsimp only
  case value => split <;> simp [toldl]
  case trusted =>
    split
    · simp
    · rename_i hl
      exact hT (by simpa using hl)
  case totals => split <;> simp
  case lay => split <;> simp
  case sample =>
    split
    · simp
    · split
      · simp
      · exact hA _
  case would =>
    split
    · simp
    · split
      · simp
      · exact hA _
  case log =>
    split
    · simp
    · split
      · simp
      · exact hL _
  case trim =>
    split
    · simp
    · split
      · simp
      · split <;> simp
  all_goals repeat' (first | (simp; done) | split)
theorem act_log (s : Vbavae.St) (w : s.laid = true → WfP s) (d : Vbavae.Call) : (Vbavae.act s d).1.log.length ≤ s.log.length + 9 := by
  have hb : ∀ i b, (Vbavae.barredBy s i b).log.length ≤ s.log.length + 9 := fun i b => by
    unfold Vbavae.barredBy
    rw [List.length_append]; simp
  cases d <;> unfold Vbavae.act <;> dsimp only
  case sample =>
    split
    · simp
    · rename_i h
      have wf := w (by simpa using h)
      split
      · simp
      · exact sampled_log wf _
  case lay =>
    split
    · simp
    · show ([] : List Vbavae.Event).length ≤ _; simp
  case bar =>
    split
    · simp
    · split
      · simp
      · split
        · simp
        · exact hb _ _
  case free =>
    split
    · simp
    · split
      · simp
      · split
        · simp
        · exact hb _ _
  all_goals repeat' (first | (simp; done) | split)
end Vt

end
section
set_option Elab.async false
set_option linter.all false
set_option maxRecDepth 100000
set_option maxHeartbeats 2000000
namespace Vt
open PySem PySem.Spec PyProof.Rows L2
/-! ### calls on one panel -/
noncomputable def PPost (CS CP : Addr) (H : Hp) (d : PD) (r : Vbavae.St × List Int) (Q : VK) : Prop :=
  ∀ H' d' q, PanelAt CS CP H' d' r.1 → d'.p = d.p → d'.foot = d.foot → d'.ls = d.ls → (d'.lv = d.lv ∨ H d'.lv = none) → Keep d.foot H H' → H q = none → H' q = some (.lst (r.2.map V.int)) → Q (.ref q) H'
theorem PPost.same {CS CP : Addr} {H H' : Hp} {d : PD} {s : Vbavae.St} {l : List Int} {Q : VK} (p : PPost CS CP H d (s, l) Q) (B : PanelAt CS CP H d s) (e : Same H H') {q : Addr} (nq : H q = none) (hq : H' q = some (.lst (l.map V.int))) : Q (.ref q) H' :=
  p H' d q (B.same e) rfl rfl rfl (.inl rfl) (Keep.of_same e) nq hq
theorem PPost.pre {CS CP : Addr} {H H1 : Hp} {d : PD} {r : Vbavae.St × List Int} {Q : VK} (p : PPost CS CP H d r Q) (e : Same H H1) : PPost CS CP H1 d r Q :=
  fun H' d' q h1 h2 h3 h4 h5 h6 h7 h8 => p H' d' q h1 h2 h3 h4 (h5.imp_right e.free) ((Keep.of_same e).trans h6) (e.free h7) h8
theorem keep_free {CS CP : Addr} {H H1 : Hp} {d d' : PD} {s' : Vbavae.St} {q : Addr} (B1 : PanelAt CS CP H1 d' s') (hf : d'.foot = d.foot) (k : Keep d.foot H H1) (nq : H1 q = none) : H q = none := by
  cases e : H q with
  | none => rfl
  | some o =>
    have nf : ¬ q ∈ d.foot := fun z => by
      obtain ⟨u, e1⟩ := B1.track (b := q) (by rw [hf]; exact z)
      rw [nq] at e1; cases e1
    have := k q o e nf
    rw [nq] at this; cases this
noncomputable def actBar (s : Vbavae.St) (i : Nat) : Vbavae.St × List Int := if (s.sensors.getD i sd).barred = true then (s, [-3]) else (Vbavae.barredBy s i true, [1])
noncomputable def actFree (s : Vbavae.St) (i : Nat) : Vbavae.St × List Int := if (s.sensors.getD i sd).barred = false then (s, [-4]) else (Vbavae.barredBy s i false, [1])
noncomputable def actSoon (s : Vbavae.St) (i : Nat) : Vbavae.St × List Int := if (s.sensors.getD i sd).barred = true then (s, [-3]) else
  (s, [if (s.sensors.getD i sd).inn = true then ((s.form.p - (s.sensors.getD i sd).bad : Nat) : Int) else ((s.form.q - (s.sensors.getD i sd).good : Nat) : Int)])
noncomputable def spOn (CS CP : Addr) (f : Vbavae.St → Nat → Vbavae.St × List Int) : Sp := fun vs H Q _ => ∃ (d : PD) (s : Vbavae.St) (i : Nat), vs = [.ref d.p, .int (i : Nat)] ∧ PanelAt CS CP H d s ∧ WfP s ∧ s.log.length ≤ 6000 ∧ i < s.sensors.length ∧ PPost CS CP H d (f s i) Q
noncomputable def ofSens (x i : Int) (dc : Vbavae.Call) : Prop := (x = 4 ∧ dc = .sensor i) ∨ (x = 6 ∧ dc = .bar i) ∨ (x = 7 ∧ dc = .free i) ∨ (x = 8 ∧ dc = .soonest i)
noncomputable def spOfS (CS CP : Addr) : Sp := fun vs H Q _ => ∃ (d : PD) (s : Vbavae.St) (x i : Int) (dc : Vbavae.Call), vs = [.ref d.p, .int x, .int i] ∧ PanelAt CS CP H d s ∧ WfP s ∧ s.laid = true ∧ s.log.length ≤ 6000 ∧ ofSens x i dc ∧ PPost CS CP H d (Vbavae.act s dc) Q
section
variable {s : Vbavae.St} {i : Int}
theorem act_bad {x : Int} {dc : Vbavae.Call} (hl : s.laid = true) (h : ofSens x i dc) (hn : Vbavae.nodeOk s i = false) : Vbavae.act s dc = (s, [-1]) := by
  have hl' : ¬ s.laid = false := by rw [hl]; decide
  rcases h with ⟨_, rfl⟩ | ⟨_, rfl⟩ | ⟨_, rfl⟩ | ⟨_, rfl⟩ <;> (unfold Vbavae.act; dsimp only; rw [if_neg hl', if_pos hn])
theorem act_sensor {j : Nat} (hl : s.laid = true) (hn : ¬ Vbavae.nodeOk s (j : Nat) = false) : Vbavae.act s (.sensor (j : Nat)) = (s, ansOne (s.sensors.getD j sd)) := by
  have hl' : ¬ s.laid = false := by rw [hl]; decide
  unfold Vbavae.act; dsimp only; rw [if_neg hl', if_neg hn, Int.toNat_natCast]; rfl
theorem act_bar {j : Nat} (hl : s.laid = true) (hn : ¬ Vbavae.nodeOk s (j : Nat) = false) : Vbavae.act s (.bar (j : Nat)) = actBar s j := by
  have hl' : ¬ s.laid = false := by rw [hl]; decide
  unfold Vbavae.act; dsimp only; rw [if_neg hl', if_neg hn, Int.toNat_natCast]; rfl
theorem act_free {j : Nat} (hl : s.laid = true) (hn : ¬ Vbavae.nodeOk s (j : Nat) = false) : Vbavae.act s (.free (j : Nat)) = actFree s j := by
  have hl' : ¬ s.laid = false := by rw [hl]; decide
  unfold Vbavae.act; dsimp only; rw [if_neg hl', if_neg hn, Int.toNat_natCast]; rfl
theorem act_soon {j : Nat} (hl : s.laid = true) (hn : ¬ Vbavae.nodeOk s (j : Nat) = false) : Vbavae.act s (.soonest (j : Nat)) = actSoon s j := by
  have hl' : ¬ s.laid = false := by rw [hl]; decide
  unfold Vbavae.act; dsimp only; rw [if_neg hl', if_neg hn, Int.toNat_natCast]; rfl
end
section
variable {P : Program} {w : World} {K : PySem.W.Frag} {mg : Str → Option Value} {base : Heap} {a : Ad}
theorem ok_bar_sensor (T : Txt K mg a) : FnOk P w K mg base CX0 3 a.f_bar_sensor a.d_bar_sensor ["panel", "i"] (spOn a.C_Sensor a.C_Panel actBar) := by
  refine T.F_bar_sensor.ok sc_bar_sensor (fun vs H Q E h => ?_) (fun cdv A outer s H vs Q E hr h => ?_)
  · obtain ⟨d, s, i, rfl, _⟩ := h; rfl
  · obtain ⟨d, s, i, rfl, B, wf, hlog, hi, post⟩ := h
    refine ⟨_, (pss_cons (ps_if (pt_val (pe_fldK K rfl (pe_ix (ix_listK K rfl) (pe_fldK K rfl (pv 0) rfl) (pv 1) (fun _ _ => rfl)) rfl)) (pss_one (ps_ret (pe_lst (pa_cons (pe_gint rfl T.c_IS_BARRED) pa_nil)))) pss_nil) (pss_cons (ps_expr (pe_call (ok_bar T) (hr.mono (by decide)) rfl T.mg_bar T.F_bar.kp T.b_bar .nil pass0 (pa_cons (pv 0) (pa_cons (pv 1) pa_nil)))) (pss_one (ps_ret (pe_lst (pa_cons pe_int pa_nil)))))), ?_⟩
    obtain ⟨x, hx, dx, hS⟩ := B.sens.get hi
    refine ⟨_, rfl, d.p, _, d.dx, _, _, rfl, B.obj, T.cl_Panel, T.n_Panel_sensors, pf_sensors _, _, rfl, d.ls, _, _, _, rfl, rfl, SqL.of B.sens.lst, at_of (j := i) rfl (map_get hx), x, _, dx, _, _, rfl, hS, T.cl_Sensor, T.n_Sensor_barred, sf_barred _, _, rfl, ?_⟩
    unfold actBar at post
    cases e : (s.sensors.getD i sd).barred with
    | true =>
      rw [e, if_pos rfl] at post
      exact iteT ⟨by show 1 ≤ sizeLine; decide, fun q nq => post.same B (same_upd nq) nq upd_same⟩
    | false =>
      rw [e, if_neg (by decide)] at post
      refine iteF ⟨_, rfl, _, rfl, d, s, i, rfl, B, hlog, hi, fun H1 es B1 k1 => ⟨by show 1 ≤ sizeLine; decide, fun q nq => ?_⟩⟩
      exact post _ { d with es := es } q (B1.same (same_upd nq)) rfl rfl rfl (.inl rfl) (k1.trans (Keep.of_same (same_upd nq))) (keep_free B1 rfl k1 nq) upd_same
theorem ok_free_sensor (T : Txt K mg a) : FnOk P w K mg base CX0 3 a.f_free_sensor a.d_free_sensor ["panel", "i"] (spOn a.C_Sensor a.C_Panel actFree) := by
  refine T.F_free_sensor.ok sc_free_sensor (fun vs H Q E h => ?_) (fun cdv A outer s H vs Q E hr h => ?_)
  · obtain ⟨d, s, i, rfl, _⟩ := h; rfl
  · obtain ⟨d, s, i, rfl, B, wf, hlog, hi, post⟩ := h
    refine ⟨_, (pss_cons (ps_if (pt_not (pt_val (pe_fldK K rfl (pe_ix (ix_listK K rfl) (pe_fldK K rfl (pv 0) rfl) (pv 1) (fun _ _ => rfl)) rfl))) (pss_one (ps_ret (pe_lst (pa_cons (pe_gint rfl T.c_NOT_BARRED) pa_nil)))) pss_nil) (pss_cons (ps_expr (pe_call (ok_free T) (hr.mono (by decide)) rfl T.mg_free T.F_free.kp T.b_free .nil pass0 (pa_cons (pv 0) (pa_cons (pv 1) pa_nil)))) (pss_one (ps_ret (pe_lst (pa_cons pe_int pa_nil)))))), ?_⟩
    obtain ⟨x, hx, dx, hS⟩ := B.sens.get hi
    refine ⟨_, rfl, d.p, _, d.dx, _, _, rfl, B.obj, T.cl_Panel, T.n_Panel_sensors, pf_sensors _, _, rfl, d.ls, _, _, _, rfl, rfl, SqL.of B.sens.lst, at_of (j := i) rfl (map_get hx), x, _, dx, _, _, rfl, hS, T.cl_Sensor, T.n_Sensor_barred, sf_barred _, _, rfl, ?_⟩
    unfold actFree at post
    cases e : (s.sensors.getD i sd).barred with
    | false =>
      rw [e, if_pos rfl] at post
      exact iteT ⟨by show 1 ≤ sizeLine; decide, fun q nq => post.same B (same_upd nq) nq upd_same⟩
    | true =>
      rw [e, if_neg (by decide)] at post
      refine iteF ⟨_, rfl, _, rfl, d, s, i, rfl, B, hlog, hi, fun H1 es B1 k1 => ⟨by show 1 ≤ sizeLine; decide, fun q nq => ?_⟩⟩
      exact post _ { d with es := es } q (B1.same (same_upd nq)) rfl rfl rfl (.inl rfl) (k1.trans (Keep.of_same (same_upd nq))) (keep_free B1 rfl k1 nq) upd_same
theorem ok_soonest (T : Txt K mg a) : FnOk P w K mg base CX0 2 a.f_soonest a.d_soonest ["panel", "i"] (spOn a.C_Sensor a.C_Panel actSoon) := by
  refine T.F_soonest.ok sc_soonest (fun vs H Q E h => ?_) (fun cdv A outer s H vs Q E hr h => ?_)
  · obtain ⟨d, s, i, rfl, _⟩ := h; rfl
  · obtain ⟨d, s, i, rfl, B, wf, hlog, hi, post⟩ := h
    refine ⟨_, (pss_cons (ps_if (pt_val (pe_fldK K rfl (pe_ix (ix_listK K rfl) (pe_fldK K rfl (pv 0) rfl) (pv 1) (fun _ _ => rfl)) rfl)) (pss_one (ps_ret (pe_lst (pa_cons (pe_gint rfl T.c_IS_BARRED) pa_nil)))) pss_nil) (pss_one (ps_ret (pe_lst (pa_cons (pe_call (ok_samples_to_change T) (hr.mono (by decide)) rfl T.mg_samples_to_change T.F_samples_to_change.kp T.b_samples_to_change .nil pass0 (pa_cons (pv 0) (pa_cons (pv 1) pa_nil))) pa_nil))))), ?_⟩
    obtain ⟨x, hx, dx, hS⟩ := B.sens.get hi
    refine ⟨_, rfl, d.p, _, d.dx, _, _, rfl, B.obj, T.cl_Panel, T.n_Panel_sensors, pf_sensors _, _, rfl, d.ls, _, _, _, rfl, rfl, SqL.of B.sens.lst, at_of (j := i) rfl (map_get hx), x, _, dx, _, _, rfl, hS, T.cl_Sensor, T.n_Sensor_barred, sf_barred _, _, rfl, ?_⟩
    unfold actSoon at post
    have ws := wf.ws i hi
    have w1 := ws.bp
    have w2 := ws.gq
    cases e : (s.sensors.getD i sd).barred with
    | true =>
      rw [e, if_pos rfl] at post
      exact iteT ⟨by show 1 ≤ sizeLine; decide, fun q nq => post.same B (same_upd nq) nq upd_same⟩
    | false =>
      rw [e, if_neg (by decide)] at post
      refine iteF ⟨_, rfl, _, rfl, d, s, i, rfl, B, hi, by show 1 ≤ sizeLine; decide, fun q nq => ?_⟩
      have e1 : (if (s.sensors.getD i sd).inn = true then ((s.form.p : Nat) : Int) - ((s.sensors.getD i sd).bad : Nat) else ((s.form.q : Nat) : Int) - ((s.sensors.getD i sd).good : Nat)) = (if (s.sensors.getD i sd).inn = true then ((s.form.p - (s.sensors.getD i sd).bad : Nat) : Int) else ((s.form.q - (s.sensors.getD i sd).good : Nat) : Int)) := by
        split <;> omega
      rw [e1]
      exact post.same B (same_upd nq) nq upd_same
theorem ok_answer_of_sensor (T : Txt K mg a) : FnOk P w K mg base CX0 4 a.f_answer_of_sensor a.d_answer_of_sensor ["panel", "call", "i"] (spOfS a.C_Sensor a.C_Panel) := by
  refine T.F_answer_of_sensor.ok sc_answer_of_sensor (fun vs H Q E h => ?_) (fun cdv A outer s H vs Q E hr h => ?_)
  · obtain ⟨d, s, x, i, dc, rfl, _⟩ := h; rfl
  · obtain ⟨d, s, x, i, dc, rfl, B, wf, hl, hlog, hof, post⟩ := h
    refine ⟨_, (pss_cons (ps_if (pt_not (pt_chain op_le op_lt pe_int (pv 2) (pe_callB (len_seqK K rfl) (by rfl) T.g_len PySem.boot_len (pa_cons (pe_fldK K rfl (pv 0) rfl) pa_nil)))) (pss_one (ps_ret (pe_lst (pa_cons (pe_gint rfl T.c_OUT_OF_RANGE) pa_nil)))) pss_nil) (pss_cons (ps_if (pt_cmpR op_eq (pv 1) (pe_gint rfl T.c_SENSOR) (nomark _)) (pss_one (ps_ret (pe_call (ok_sensor_state T) (hr.mono (by decide)) rfl T.mg_sensor_state T.F_sensor_state.kp T.b_sensor_state .nil pass0 (pa_cons (pe_ix (ix_listK K rfl) (pe_fldK K rfl (pv 0) rfl) (pv 2) (fun _ _ => rfl)) pa_nil)))) pss_nil) (pss_cons (ps_if (pt_cmpR op_eq (pv 1) (pe_gint rfl T.c_BAR) (nomark _)) (pss_one (ps_ret (pe_call (ok_bar_sensor T) (hr.mono (by decide)) rfl T.mg_bar_sensor T.F_bar_sensor.kp T.b_bar_sensor .nil pass0 (pa_cons (pv 0) (pa_cons (pv 2) pa_nil))))) pss_nil) (pss_cons (ps_if (pt_cmpR op_eq (pv 1) (pe_gint rfl T.c_FREE) (nomark _)) (pss_one (ps_ret (pe_call (ok_free_sensor T) (hr.mono (by decide)) rfl T.mg_free_sensor T.F_free_sensor.kp T.b_free_sensor .nil pass0 (pa_cons (pv 0) (pa_cons (pv 2) pa_nil))))) pss_nil) (pss_one (ps_ret (pe_call (ok_soonest T) (hr.mono (by decide)) rfl T.mg_soonest T.F_soonest.kp T.b_soonest .nil pass0 (pa_cons (pv 0) (pa_cons (pv 2) pa_nil))))))))), ?_⟩
    have hlen : (d.as.map V.ref).length = s.sensors.length := by rw [List.length_map, B.sens.len]
    have bad : ¬ (0 ≤ i ∧ i < (s.sensors.length : Nat)) → ∀ q, H q = none → Q (.ref q) (upd H q (.lst [V.int (-1)])) := fun h q nq => by
      rw [act_bad hl hof (by rw [nodeOk_is, Bool.and_eq_false_iff, decide_eq_false_iff_not, decide_eq_false_iff_not]; omega)] at post
      exact post.same B (same_upd nq) nq upd_same
    refine ⟨_, rfl, _, _, rfl, rfl, _, rfl, ?_⟩
    by_cases h0 : 0 ≤ i
    · rw [decide_eq_true h0]
      refine iteT ⟨_, rfl, d.p, _, d.dx, _, _, rfl, B.obj, T.cl_Panel, T.n_Panel_sensors, pf_sensors _, d.ls, _, rfl, .inl (SqL.of B.sens.lst), _, _, rfl, rfl, _, rfl, ?_⟩
      rw [hlen]
      by_cases h1 : i < (s.sensors.length : Nat)
      · rw [decide_eq_true h1]
        refine iteF ?_
        obtain ⟨j, hj⟩ : ∃ j : Nat, i = (j : Nat) := ⟨i.toNat, by omega⟩
        subst hj
        have hjl : j < s.sensors.length := by omega
        have hn : ¬ Vbavae.nodeOk s (j : Nat) = false := by rw [nodeOk_is, Bool.and_eq_false_iff, decide_eq_false_iff_not, decide_eq_false_iff_not]; omega
        refine ⟨_, rfl, rfl, _, rfl, ?_⟩
        rcases hof with ⟨rfl, rfl⟩ | ⟨rfl, rfl⟩ | ⟨rfl, rfl⟩ | ⟨rfl, rfl⟩
        · rw [act_sensor hl hn] at post
          obtain ⟨x, hx, hS⟩ := B.sens.get hjl
          refine iteDT rfl ⟨_, rfl, d.p, _, d.dx, _, _, rfl, B.obj, T.cl_Panel, T.n_Panel_sensors, pf_sensors _, _, rfl, d.ls, _, _, _, rfl, rfl, SqL.of B.sens.lst, at_of (j := j) rfl (map_get hx), x, _, rfl, hS, fun H' q e nq hq => post.same B e nq hq⟩
        · rw [act_bar hl hn] at post
          refine iteDF (by intro q; injection q with q; omega) ⟨_, rfl, rfl, _, rfl, ?_⟩
          exact iteDT rfl ⟨_, rfl, _, rfl, d, s, j, rfl, B, wf, hlog, hjl, post⟩
        · rw [act_free hl hn] at post
          refine iteDF (by intro q; injection q with q; omega) ⟨_, rfl, rfl, _, rfl, ?_⟩
          refine iteDF (by intro q; injection q with q; omega) ⟨_, rfl, rfl, _, rfl, ?_⟩
          exact iteDT rfl ⟨_, rfl, _, rfl, d, s, j, rfl, B, wf, hlog, hjl, post⟩
        · rw [act_soon hl hn] at post
          refine iteDF (by intro q; injection q with q; omega) ⟨_, rfl, rfl, _, rfl, ?_⟩
          refine iteDF (by intro q; injection q with q; omega) ⟨_, rfl, rfl, _, rfl, ?_⟩
          refine iteDF (by intro q; injection q with q; omega) ?_
          exact ⟨_, rfl, _, rfl, d, s, j, rfl, B, wf, hlog, hjl, post⟩
      · rw [decide_eq_false h1]
        exact iteT ⟨by show 1 ≤ sizeLine; decide, bad (by omega)⟩
    · rw [decide_eq_false h0]
      exact iteF ⟨_, rfl, iteT ⟨by show 1 ≤ sizeLine; decide, bad (by omega)⟩⟩
end
end Vt

end
section
set_option Elab.async false
set_option linter.all false
set_option maxRecDepth 100000
set_option maxHeartbeats 2000000
namespace Vt
open PySem PySem.Spec PyProof.Rows L2
/-! ### trim, log, totals -/
noncomputable def ansTrim (s : Vbavae.St) (f : Int) : List Int := if Vbavae.within f 0 4 = false then [-1] else match Vbavae.trimmed f.toNat s.votes with
  | none => [-5]
  | some x => [0, x]
noncomputable def flat3 (l : List Vbavae.Event) : List Int := l.flatMap fun (e : Vbavae.Event) => [(e.time : Int), (e.who : Int), (e.what : Int)]
noncomputable def ansLog (s : Vbavae.St) (k : Int) : List Int := if Vbavae.within k 0 100000 = false then [-1] else Vbavae.listed (flat3 ((s.log.drop k.toNat).take 50))
noncomputable def ansTotals (s : Vbavae.St) : List Int := [(s.count : Int), (s.log.length : Int), ((s.log.filter fun e => e.what == 0).length : Int), ((s.log.filter fun e => e.what == 1).length : Int)]
noncomputable def spLookE (CS CP : Addr) (f : Vbavae.St → List Int) : Sp := fun vs H Q _ => ∃ (d : PD) (s : Vbavae.St), vs = [.ref d.p] ∧ PanelAt CS CP H d s ∧ s.log.length ≤ 6000 ∧ ∀ H' q, Same H H' → H q = none → H' q = some (.lst ((f s).map V.int)) → Q (.ref q) H'
theorem cut50 (xs : List V) (j : Nat) : cutV xs (some (j : Nat)) (some ((j : Nat) + 50)) = (xs.drop j).take 50 := by
  unfold cutV
  rw [show ((j : Nat) : Int) + 50 = ((j + 50 : Nat) : Int) by omega, HT.sIx_nat, HT.sIx_nat]
  by_cases h : j ≤ xs.length
  · rw [Nat.min_eq_left h]
    by_cases h2 : j + 50 ≤ xs.length
    · rw [Nat.min_eq_left h2]; congr 1; omega
    · rw [Nat.min_eq_right (by omega), List.take_of_length_le (by rw [List.length_drop]; omega), List.take_of_length_le (by rw [List.length_drop]; omega)]
  · rw [Nat.min_eq_right (by omega : xs.length ≤ j), List.drop_length, List.drop_eq_nil_of_le (by omega : xs.length ≤ j)]
    simp
theorem dt_get {α : Type} (l : List α) (j i : Nat) (h : i < 50) : ((l.drop j).take 50)[i]? = l[j + i]? := by
  rw [List.getElem?_take, if_pos h, List.getElem?_drop]
theorem flat3_snoc (l : List Vbavae.Event) (e : Vbavae.Event) : flat3 (l ++ [e]) = flat3 l ++ [(e.time : Int), (e.who : Int), (e.what : Int)] := by
  unfold flat3; rw [List.flatMap_append, List.flatMap_singleton]
theorem flat3_l (l : List Vbavae.Event) : (flat3 l).length = 3 * l.length := flat3_len l
section
variable {P : Program} {w : World} {K : PySem.W.Frag} {mg : Str → Option Value} {base : Heap} {a : Ad}
theorem ok_trim (T : Txt K mg a) : FnOk P w K mg base CX0 2 a.f_trim a.d_trim ["panel", "f"] (spLookI a.C_Sensor a.C_Panel ansTrim) := by
  refine T.F_trim.ok sc_trim (fun vs H Q E h => ?_) (fun cdv A outer s H vs Q E hr h => ?_)
  · obtain ⟨d, s, f, rfl, _⟩ := h; rfl
  · obtain ⟨d, s, f, rfl, B, wf, k⟩ := h
    refine ⟨_, (pss_cons (ps_if (pt_not (pt_chain op_le op_le pe_int (pv 1) (pe_gint rfl T.c_GREATEST_TRIM))) (pss_one (ps_ret (pe_lst (pa_cons (pe_gint rfl T.c_OUT_OF_RANGE) pa_nil)))) pss_nil) (pss_cons (ps_if (pt_cmpR op_lt (pe_callB (len_seqK K rfl) (by rfl) T.g_len PySem.boot_len (pa_cons (pe_fldK K rfl (pv 0) rfl) pa_nil)) (pe_op op_add (pe_op op_mul pe_int (pv 1)) pe_int) (nomark _)) (pss_one (ps_ret (pe_lst (pa_cons (pe_gint rfl T.c_TOO_FEW_VOTES) pa_nil)))) pss_nil) (pss_one (ps_ret (pe_lst (pa_cons pe_int (pa_cons (pe_call (ok_trimmed_mean T) (hr.mono (by decide)) rfl T.mg_trimmed_mean T.F_trimmed_mean.kp T.b_trimmed_mean .nil pass0 (pa_cons (pe_fldK K rfl (pv 0) rfl) (pa_cons (pv 1) pa_nil))) pa_nil))))))), ?_⟩
    refine chain_le (fun R h => h) (fun R h => ⟨_, rfl, h⟩) (fun R h => h) ⟨_, rfl, ?_⟩
    unfold ansTrim at k
    cases e : Vbavae.within f 0 4 with
    | false =>
      rw [e, if_pos rfl] at k
      exact iteT ⟨by show 1 ≤ sizeLine; decide, fun q nq => k _ q (same_upd nq) nq upd_same⟩
    | true =>
      rw [e, if_neg (by decide)] at k
      have hf0 : 0 ≤ f ∧ f ≤ 4 := by
        unfold Vbavae.within at e
        simpa [Bool.and_eq_true, decide_eq_true_eq] using e
      obtain ⟨j, hj⟩ : ∃ j : Nat, f = (j : Nat) := ⟨f.toNat, by omega⟩
      subst hj
      rw [Int.toNat_natCast] at k
      have hv := wf.vt
      refine iteF ⟨_, rfl, d.p, _, d.dx, _, _, rfl, B.obj, T.cl_Panel, T.n_Panel_votes, pf_votes _, d.lv, _, rfl, .inl (SqL.of B.vts), _, rfl, _, _, rfl, rfl, .inl ⟨by decide, by decide⟩, _, _, rfl, rfl, _, _, rfl, rfl, _, rfl, ?_⟩
      rw [List.length_map]
      by_cases h : s.votes.length < 2 * j + 1
      · have et : Vbavae.trimmed j s.votes = none := by unfold Vbavae.trimmed; dsimp only; rw [if_pos h]
        rw [et] at k
        refine iteDT (by omega) ⟨by show 1 ≤ sizeLine; decide, fun q nq => k _ q (same_upd nq) nq upd_same⟩
      · have et : Vbavae.trimmed j s.votes = some (Vbavae.sum (kept j s.votes) / ((kept j s.votes).length : Int)) := by unfold Vbavae.trimmed; dsimp only; rw [if_neg h]; rfl
        rw [et] at k
        refine iteDF (by omega) ⟨_, rfl, d.p, _, d.dx, _, _, rfl, B.obj, T.cl_Panel, T.n_Panel_votes, pf_votes _, _, rfl, d.lv, s.votes, j, rfl, B.vts, by omega, by omega, fun H1 s1 => ⟨by show 2 ≤ sizeLine; decide, fun q nq => ?_⟩⟩
        exact k _ q (s1.trans (same_upd nq)) (s1.free nq) upd_same
theorem ok_totals (T : Txt K mg a) : FnOk P w K mg base CX0 2 a.f_totals a.d_totals ["panel"] (spLookE a.C_Sensor a.C_Panel ansTotals) := by
  refine T.F_totals.ok sc_totals (fun vs H Q E h => ?_) (fun cdv A outer s H vs Q E hr h => ?_)
  · obtain ⟨d, s, rfl, _⟩ := h; rfl
  · obtain ⟨d, s, rfl, B, hlog, k⟩ := h
    refine ⟨_, (pss_cons (ps_set (i := 1) sc_totals.nd rfl (Or.inl rfl) (pe_call (ok_how_many_events T) (hr.mono (by decide)) rfl T.mg_how_many_events T.F_how_many_events.kp T.b_how_many_events .nil pass0 (pa_cons (pv 0) (pa_cons (pe_gint rfl T.c_SHUT_OUT) pa_nil)))) (pss_cons (ps_set (i := 2) sc_totals.nd rfl (Or.inl rfl) (pe_call (ok_how_many_events T) (hr.mono (by decide)) rfl T.mg_how_many_events T.F_how_many_events.kp T.b_how_many_events .nil pass0 (pa_cons (pv 0) (pa_cons (pe_gint rfl T.c_TRUSTED_AGAIN) pa_nil)))) (pss_one (ps_ret (pe_lst (pa_cons (pe_fldK K rfl (pv 0) rfl) (pa_cons (pe_callB (len_seqK K rfl) (by rfl) T.g_len PySem.boot_len (pa_cons (pe_fldK K rfl (pv 0) rfl) pa_nil)) (pa_cons (pv 1) (pa_cons (pv 2) pa_nil))))))))), ?_⟩
    refine ⟨_, rfl, d, s, 0, rfl, B, hlog, fun H1 s1 => ?_⟩
    refine ⟨_, rfl, d, s, 1, rfl, B.same s1, hlog, fun H2 s2 => ?_⟩
    have B2 := B.same (s1.trans s2)
    refine ⟨_, rfl, d.p, _, d.dx, _, _, rfl, B2.obj, T.cl_Panel, T.n_Panel_samples, pf_samples _, _, rfl, d.p, _, d.dx, _, _, rfl, B2.obj, T.cl_Panel, T.n_Panel_events, pf_events _, d.le, _, rfl, .inl (SqL.of B2.evs.lst), _, rfl, _, rfl, by show 4 ≤ sizeLine; decide, fun q nq => ?_⟩
    refine k _ q ((s1.trans s2).trans (same_upd nq)) ((s1.trans s2).free nq) ?_
    rw [upd_same, List.length_map, B.evs.len]; rfl
theorem ok_log (T : Txt K mg a) : FnOk P w K mg base CX0 1 a.f_log a.d_log ["panel", "k"] (spLookI a.C_Sensor a.C_Panel ansLog) := by
  refine T.F_log.ok sc_log (fun vs H Q E h => ?_) (fun cdv A outer s H vs Q E hr h => ?_)
  · obtain ⟨d, s, z, rfl, _⟩ := h; rfl
  · obtain ⟨d, s, z, rfl, B, wf, k⟩ := h
    refine ⟨_, (pss_cons (ps_if (pt_not (pt_chain op_le op_le pe_int (pv 1) (pe_gint rfl T.c_GREATEST_EVENT))) (pss_one (ps_ret (pe_lst (pa_cons (pe_gint rfl T.c_OUT_OF_RANGE) pa_nil)))) pss_nil) (pss_cons (ps_set (i := 2) sc_log.nd rfl (Or.inl rfl) (pe_lst pa_nil)) (pss_cons (ps_for PassesOwn.never rfl (pi_listK K rfl (pe_slice (sl_listK K rfl) (pe_fldK K rfl (pv 0) rfl) (po_some (pv 1)) (po_some (pe_op op_add (pv 1) (pe_gint rfl T.c_EVENTS_AT_ONCE))))) (pg_name (i := 3) sc_log.nd rfl (Or.inl rfl)) (pss_one (ps_expr (pe_bm PySem.F.plainAttrs_list PySem.F.slot_list_extend PySem.F.type_list_extend (mt_extendT K rfl) (pv 2) (pa_cons (pv 3) pa_nil))))) (pss_one (ps_ret (pe_op op_cat (pe_lst (pa_cons (pe_callB (len_seqK K rfl) (by rfl) T.g_len PySem.boot_len (pa_cons (pv 2) pa_nil)) pa_nil)) (pv 2))))))), ?_⟩
    refine chain_le (fun R h => h) (fun R h => ⟨_, rfl, h⟩) (fun R h => h) ⟨_, rfl, ?_⟩
    unfold ansLog at k
    cases e : Vbavae.within z 0 100000 with
    | false =>
      rw [e, if_pos rfl] at k
      exact iteT ⟨by show 1 ≤ sizeLine; decide, fun q nq => k _ q (same_upd nq) nq upd_same⟩
    | true =>
      rw [e, if_neg (by decide)] at k
      have hf0 : 0 ≤ z := by
        unfold Vbavae.within at e
        simp [Bool.and_eq_true, decide_eq_true_eq] at e
        exact e.1
      obtain ⟨j, hj⟩ : ∃ j : Nat, z = (j : Nat) := ⟨z.toNat, by omega⟩
      subst hj
      rw [Int.toNat_natCast] at k
      refine iteF ⟨by decide, fun g ng => ?_⟩
      have t0 := same_upd ng (o := .lst [])
      have B0 := B.same t0
      refine ⟨_, rfl, d.p, _, d.dx, _, _, rfl, B0.obj, T.cl_Panel, T.n_Panel_events, pf_events _, _, rfl, _, rfl, _, rfl, _, _, rfl, rfl, _, rfl, d.le, _, rfl, SqL.of B0.evs.lst, fun l nl => ?_⟩
      rw [cut50]
      have t1 := same_upd nl (o := .lst (((d.es.map V.ref).drop j).take 50))
      have ngl : g ≠ l := ne_of_none upd_same nl
      have hxl : (((d.es.map V.ref).drop j).take 50).length = ((s.log.drop j).take 50).length := by
        rw [List.length_take, List.length_drop, List.length_map, B.evs.len, List.length_take, List.length_drop]
      have h50 : ((s.log.drop j).take 50).length ≤ 50 := by rw [List.length_take]; omega
      refine ⟨l, rfl, ⟨_, SqL.of upd_same⟩, for_list (K := K) (a := l) (xs := ((d.es.map V.ref).drop j).take 50) (fun i σ H' => ∃ v3, σ = [some (.ref d.p), some (.int (j : Nat)), some (.ref g), v3] ∧
          H' g = some (.lst ((flat3 (((s.log.drop j).take 50).take i)).map V.int)) ∧ H' l = some (.lst (((d.es.map V.ref).drop j).take 50)) ∧ Same H H')
        ⟨none, rfl, ?_, upd_same, t0.trans t1⟩ (fun i σ H' _ ⟨_, _, _, hl, _⟩ => SqL.of hl) ?_ ?_⟩
      · rw [upd_ne ngl, upd_same]; rfl
      · rintro i y σ H' hi ⟨v3, rfl, hg, hl, sx⟩
        have hi' := (List.getElem?_eq_some_iff.mp hi).1
        have hi5 : i < 50 := by omega
        rw [dt_get _ _ _ hi5, List.getElem?_map] at hi
        obtain ⟨x, hx, rfl⟩ : ∃ x, d.es[j + i]? = some x ∧ y = V.ref x := by
          cases e : d.es[j + i]? with
          | none => rw [e] at hi; cases hi
          | some x => rw [e] at hi; exact ⟨x, rfl, (Option.some.inj hi).symm⟩
        obtain ⟨ev, hev, hxe⟩ := B.evs.at_ _ _ hx
        have hev' : ((s.log.drop j).take 50)[i]? = some ev := by rw [dt_get _ _ _ hi5]; exact hev
        refine ⟨_, rfl, .inl ⟨rfl, _, SqL.of hg⟩, _, rfl, g, x, _, _, rfl, rfl, hg, SqT.of (sx _ _ hxe), ?_, ?_⟩
        · rw [List.length_map, flat3_l, List.length_take]
          show _ + 3 ≤ sizeLine
          have : (1000 : Nat) < sizeLine := by decide
          omega
        · refine ⟨_, rfl, ?_, ?_, fun b o eb => ?_⟩
          · rw [upd_same, take_snoc hev', flat3_snoc, List.map_append]; rfl
          · rw [upd_ne (Ne.symm ngl)]; exact hl
          · rw [upd_ne (ne_of_none eb ng)]; exact sx b o eb
      · rintro σ H' ⟨v3, rfl, hg, hl, sx⟩
        rw [hxl, List.take_length] at hg
        refine ⟨_, rfl, g, _, rfl, .inl (SqL.of hg), by show 1 ≤ sizeLine; decide, fun q1 nq1 => ?_⟩
        have u1 := same_upd nq1 (o := .lst [V.int ((flat3 ((s.log.drop j).take 50)).map V.int).length])
        refine ⟨_, rfl, q1, g, _, _, rfl, rfl, upd_same, u1 _ _ hg, ?_, fun q2 nq2 => ?_⟩
        · rw [List.length_map, flat3_l]
          show 1 + _ ≤ sizeLine
          have : (1000 : Nat) < sizeLine := by decide
          omega
        · refine k _ q2 ((sx.trans u1).trans (same_upd nq2)) ((sx.trans u1).free nq2) ?_
          rw [upd_same, List.length_map]
          rfl
end
end Vt

end
section
set_option Elab.async false
set_option linter.all false
set_option maxRecDepth 100000
set_option maxHeartbeats 2000000
namespace Vt
open PySem PySem.Spec PyProof.Rows L2
/-! ### a call on what is laid -/
theorem barred_wf {s : Vbavae.St} (w : WfP s) {i : Nat} (hi : i < s.sensors.length) (b : Bool) : WfP (Vbavae.barredBy s i b) := by
  have hl : (Vbavae.barredBy s i b).sensors.length = s.sensors.length := by
    show (s.sensors.set i _).length = _; rw [List.length_set]
  refine ⟨by rw [hl]; exact w.n3, by rw [hl]; exact w.n9, w.rt, fun j hj => ?_, w.vt⟩
  rw [hl] at hj
  have hw := w.ws i hi
  show WfS s.form.p s.form.q ((s.sensors.set i (if b = true then { Vbavae.sensorAt s i with barred := true } else ⟨false, 0, 0, false⟩)).getD j sd)
  rw [List.getD_eq_getElem?_getD]
  by_cases e : i = j
  · subst e
    rw [List.getElem?_set_self hi]
    show WfS s.form.p s.form.q (if b = true then { Vbavae.sensorAt s i with barred := true } else ⟨false, 0, 0, false⟩)
    split
    · exact ⟨hw.g0, hw.b0, hw.bp, hw.gq⟩
    · have h1 := hw.bp
      have h2 := hw.gq
      exact ⟨fun q => (by cases q), fun _ => rfl, (by show 0 < s.form.p; omega), (by show 0 < s.form.q; omega)⟩
  · rw [List.getElem?_set_ne e, ← List.getD_eq_getElem?_getD]
    exact w.ws j hj
theorem nodeOk_lt {s : Vbavae.St} {i : Int} (h : ¬ Vbavae.nodeOk s i = false) : i.toNat < s.sensors.length := by
  rw [nodeOk_is, Bool.and_eq_false_iff, decide_eq_false_iff_not, decide_eq_false_iff_not] at h
  omega
theorem act_wf {s : Vbavae.St} (w : WfP s) (hl : s.laid = true) {x : Int} {nums : List Int} {dc : Vbavae.Call} (hd : Dec x nums dc) (hx : x ≠ 0) : WfP (Vbavae.act s dc).1 ∧ (Vbavae.act s dc).1.laid = true := by
  have hl' : ¬ s.laid = false := by rw [hl]; decide
  cases dc with
  | lay n t p q r => exact absurd hd.1 hx
  | sample l =>
    unfold Vbavae.act; dsimp only; rw [if_neg hl']
    split
    · exact ⟨w, hl⟩
    · exact ⟨sampled_wf w _, by rw [sampled_is]; exact hl⟩
  | would l =>
    unfold Vbavae.act; dsimp only; rw [if_neg hl']
    split <;> exact ⟨w, hl⟩
  | value => unfold Vbavae.act; dsimp only; rw [if_neg hl']; exact ⟨w, hl⟩
  | trusted => unfold Vbavae.act; dsimp only; rw [if_neg hl']; exact ⟨w, hl⟩
  | totals => unfold Vbavae.act; dsimp only; rw [if_neg hl']; exact ⟨w, hl⟩
  | sensor i =>
    unfold Vbavae.act; dsimp only; rw [if_neg hl']
    split <;> exact ⟨w, hl⟩
  | bar i =>
    unfold Vbavae.act; dsimp only; rw [if_neg hl']
    split
    · exact ⟨w, hl⟩
    · rename_i hn
      split
      · exact ⟨w, hl⟩
      · exact ⟨barred_wf w (nodeOk_lt hn) _, hl⟩
  | free i =>
    unfold Vbavae.act; dsimp only; rw [if_neg hl']
    split
    · exact ⟨w, hl⟩
    · rename_i hn
      split
      · exact ⟨w, hl⟩
      · exact ⟨barred_wf w (nodeOk_lt hn) _, hl⟩
  | soonest i =>
    unfold Vbavae.act; dsimp only; rw [if_neg hl']
    split
    · exact ⟨w, hl⟩
    · split <;> exact ⟨w, hl⟩
  | trim f =>
    unfold Vbavae.act; dsimp only; rw [if_neg hl']
    split
    · exact ⟨w, hl⟩
    · split <;> exact ⟨w, hl⟩
  | log k =>
    unfold Vbavae.act; dsimp only; rw [if_neg hl']
    split <;> exact ⟨w, hl⟩
section
variable {s : Vbavae.St}
theorem act_sample (hl : s.laid = true) (l : List Int) : Vbavae.act s (.sample l) = (sampSt s l, sampAns s l) := by
  have hl' : ¬ s.laid = false := by rw [hl]; decide
  unfold Vbavae.act sampSt sampAns; dsimp only; rw [if_neg hl']
  cases Vbavae.sampleOf s l <;> rfl
theorem act_would (hl : s.laid = true) (l : List Int) : Vbavae.act s (.would l) = (s, sampAns s l) := by
  have hl' : ¬ s.laid = false := by rw [hl]; decide
  unfold Vbavae.act sampAns; dsimp only; rw [if_neg hl']
  cases Vbavae.sampleOf s l <;> rfl
theorem act_value (hl : s.laid = true) : Vbavae.act s .value = (s, ansValue s) := by
  have hl' : ¬ s.laid = false := by rw [hl]; decide
  unfold Vbavae.act; dsimp only; rw [if_neg hl']; rfl
theorem act_trusted (hl : s.laid = true) : Vbavae.act s .trusted = (s, ansTrusted s) := by
  have hl' : ¬ s.laid = false := by rw [hl]; decide
  unfold Vbavae.act; dsimp only; rw [if_neg hl']; rfl
theorem act_totals (hl : s.laid = true) : Vbavae.act s .totals = (s, ansTotals s) := by
  have hl' : ¬ s.laid = false := by rw [hl]; decide
  unfold Vbavae.act; dsimp only; rw [if_neg hl']; rfl
theorem act_trim (hl : s.laid = true) (f : Int) : Vbavae.act s (.trim f) = (s, ansTrim s f) := by
  have hl' : ¬ s.laid = false := by rw [hl]; decide
  unfold Vbavae.act ansTrim; dsimp only; rw [if_neg hl']
  split
  · rfl
  · cases Vbavae.trimmed f.toNat s.votes <;> rfl
theorem act_logs (hl : s.laid = true) (k : Int) : Vbavae.act s (.log k) = (s, ansLog s k) := by
  have hl' : ¬ s.laid = false := by rw [hl]; decide
  unfold Vbavae.act ansLog; dsimp only; rw [if_neg hl']
  split <;> rfl
end
theorem cut1 (n : Int) (l : List Int) : cutV ((n :: l).map V.int) (some 1) none = l.map V.int := by
  unfold cutV
  rw [show (1 : Int) = ((1 : Nat) : Int) from rfl, HT.sIx_nat, HT.sIx_none, List.length_map, List.length_cons, Nat.min_eq_left (by omega)]
  rw [List.map_cons, List.drop_succ_cons, List.drop_zero, List.take_of_length_le (by rw [List.length_map]; omega)]
noncomputable def spAL (CS CP : Addr) : Sp := fun vs H Q _ => ∃ (d : PD) (s : Vbavae.St) (x : Int) (l : Addr) (nums : List Int) (dc : Vbavae.Call), vs = [.ref d.p, .int x, .ref l] ∧ PanelAt CS CP H d s ∧ WfP s ∧ s.laid = true ∧ s.log.length ≤ 4000 ∧ H l = some (.lst (nums.map V.int)) ∧ Dec x nums dc ∧ x ≠ 0 ∧ PPost CS CP H d (Vbavae.act s dc) Q
section
variable {P : Program} {w : World} {K : PySem.W.Frag} {mg : Str → Option Value} {base : Heap} {a : Ad}
theorem ok_answer_laid (T : Txt K mg a) : FnOk P w K mg base CX0 6 a.f_answer_laid a.d_answer_laid ["panel", "call", "numbers"] (spAL a.C_Sensor a.C_Panel) := by
  refine T.F_answer_laid.ok sc_answer_laid (fun vs H Q E h => ?_) (fun cdv A outer s H vs Q E hr h => ?_)
  · obtain ⟨d, s, x, l, nums, dc, rfl, _⟩ := h; rfl
  · obtain ⟨d, s, x, l, nums, dc, rfl, B, wf, hl, hlog, hnum, hdec, hx0, post⟩ := h
    refine ⟨_, (pss_cons (ps_if (pt_cmpR op_eq (pv 1) (pe_gint rfl T.c_SAMPLE) (nomark _)) (pss_one (ps_ret (pe_call (ok_sample T) (hr.mono (by decide)) rfl T.mg_sample T.F_sample.kp T.b_sample .nil pass0 (pa_cons (pv 0) (pa_cons (pe_slice (sl_listK K rfl) (pv 2) (po_some pe_int) po_none) pa_nil))))) pss_nil) (pss_cons (ps_if (pt_cmpR op_eq (pv 1) (pe_gint rfl T.c_WOULD) (nomark _)) (pss_one (ps_ret (pe_call (ok_sample T) (hr.mono (by decide)) rfl T.mg_sample T.F_sample.kp T.b_sample .nil pass0 (pa_cons (pe_call (ok_copied T) (hr.mono (by decide)) rfl T.mg_copied T.F_copied.kp T.b_copied .nil pass0 (pa_cons (pv 0) pa_nil)) (pa_cons (pe_slice (sl_listK K rfl) (pv 2) (po_some pe_int) po_none) pa_nil))))) pss_nil) (pss_cons (ps_if (pt_cmpR op_eq (pv 1) (pe_gint rfl T.c_VALUE) (nomark _)) (pss_one (ps_ret (pe_call (ok_value T) (hr.mono (by decide)) rfl T.mg_value T.F_value.kp T.b_value .nil pass0 (pa_cons (pv 0) pa_nil)))) pss_nil) (pss_cons (ps_if (pt_cmpR op_eq (pv 1) (pe_gint rfl T.c_TRUSTED) (nomark _)) (pss_one (ps_ret (pe_call (ok_trusted_list T) (hr.mono (by decide)) rfl T.mg_trusted_list T.F_trusted_list.kp T.b_trusted_list .nil pass0 (pa_cons (pv 0) pa_nil)))) pss_nil) (pss_cons (ps_if (pt_cmpR op_eq (pv 1) (pe_gint rfl T.c_TRIM) (nomark _)) (pss_one (ps_ret (pe_call (ok_trim T) (hr.mono (by decide)) rfl T.mg_trim T.F_trim.kp T.b_trim .nil pass0 (pa_cons (pv 0) (pa_cons (pe_ix (ix_listK K rfl) (pv 2) pe_int (fun _ _ => rfl)) pa_nil))))) pss_nil) (pss_cons (ps_if (pt_cmpR op_eq (pv 1) (pe_gint rfl T.c_LOG) (nomark _)) (pss_one (ps_ret (pe_call (ok_log T) (hr.mono (by decide)) rfl T.mg_log T.F_log.kp T.b_log .nil pass0 (pa_cons (pv 0) (pa_cons (pe_ix (ix_listK K rfl) (pv 2) pe_int (fun _ _ => rfl)) pa_nil))))) pss_nil) (pss_cons (ps_if (pt_cmpR op_eq (pv 1) (pe_gint rfl T.c_TOTALS) (nomark _)) (pss_one (ps_ret (pe_call (ok_totals T) (hr.mono (by decide)) rfl T.mg_totals T.F_totals.kp T.b_totals .nil pass0 (pa_cons (pv 0) pa_nil)))) pss_nil) (pss_one (ps_ret (pe_call (ok_answer_of_sensor T) (hr.mono (by decide)) rfl T.mg_answer_of_sensor T.F_answer_of_sensor.kp T.b_answer_of_sensor .nil pass0 (pa_cons (pv 0) (pa_cons (pv 1) (pa_cons (pe_ix (ix_listK K rfl) (pv 2) pe_int (fun _ _ => rfl)) pa_nil))))))))))))), ?_⟩
    have hno : ∀ {x y : Int}, x ≠ y → ¬ (V.int x = V.int y) := fun {x y} h q => by injection q with q; exact h q
    have one : ∀ i : Int, nums = [i] → ((nums.map V.int)[0]? = some (V.int i)) := fun i e => by rw [e]; rfl
    refine ⟨_, rfl, rfl, _, rfl, ?_⟩
    cases dc with
    | lay n t p q r => exact absurd hdec.1 hx0
    | sample row =>
      obtain ⟨rfl, rfl⟩ := hdec
      rw [act_sample hl] at post
      refine iteDT rfl ⟨_, rfl, _, rfl, _, rfl, l, _, rfl, SqL.of hnum, fun r nr => ?_⟩
      rw [cut1]
      have t1 := same_upd nr (o := .lst (row.map V.int))
      exact ⟨d, s, r, row, rfl, B.same t1, wf, by omega, upd_same, post.pre t1⟩
    | would row =>
      obtain ⟨rfl, rfl⟩ := hdec
      rw [act_would hl] at post
      refine iteDF (hno (by decide)) ⟨_, rfl, rfl, _, rfl, ?_⟩
      refine iteDT rfl ⟨_, rfl, d, s, rfl, B, wf, fun H1 d' B1 nf s1 => ⟨_, rfl, _, rfl, l, _, rfl, SqL.of (s1 _ _ hnum), fun r nr => ?_⟩⟩
      rw [cut1]
      have t1 := same_upd nr (o := .lst (row.map V.int))
      refine ⟨d', s, r, row, rfl, B1.same t1, wf, by omega, upd_same, fun H2 d2 q B2 _ _ _ _ k2 nq hq => ?_⟩
      refine post.same B (fun b o e => k2 b o (t1 _ _ (s1 _ _ e)) fun z => ?_) ((s1.trans t1).free nq) hq
      rw [nf b z] at e; cases e
    | value =>
      obtain ⟨rfl, rfl⟩ := hdec
      rw [act_value hl] at post
      refine iteDF (hno (by decide)) ⟨_, rfl, rfl, _, rfl, ?_⟩
      refine iteDF (hno (by decide)) ⟨_, rfl, rfl, _, rfl, ?_⟩
      exact iteDT rfl ⟨_, rfl, d, s, rfl, B, wf, fun H' q e nq hq => post.same B e nq hq⟩
    | trusted =>
      obtain ⟨rfl, rfl⟩ := hdec
      rw [act_trusted hl] at post
      refine iteDF (hno (by decide)) ⟨_, rfl, rfl, _, rfl, ?_⟩
      refine iteDF (hno (by decide)) ⟨_, rfl, rfl, _, rfl, ?_⟩
      refine iteDF (hno (by decide)) ⟨_, rfl, rfl, _, rfl, ?_⟩
      exact iteDT rfl ⟨_, rfl, d, s, rfl, B, wf, fun H' q e nq hq => post.same B e nq hq⟩
    | trim f =>
      obtain ⟨rfl, rfl⟩ := hdec
      rw [act_trim hl] at post
      refine iteDF (hno (by decide)) ⟨_, rfl, rfl, _, rfl, ?_⟩
      refine iteDF (hno (by decide)) ⟨_, rfl, rfl, _, rfl, ?_⟩
      refine iteDF (hno (by decide)) ⟨_, rfl, rfl, _, rfl, ?_⟩
      refine iteDF (hno (by decide)) ⟨_, rfl, rfl, _, rfl, ?_⟩
      exact iteDT rfl ⟨_, rfl, _, rfl, l, _, _, _, rfl, rfl, SqL.of hnum, at_of (j := 0) rfl rfl, d, s, f, rfl, B, wf, fun H' q e nq hq => post.same B e nq hq⟩
    | log k =>
      obtain ⟨rfl, rfl⟩ := hdec
      rw [act_logs hl] at post
      refine iteDF (hno (by decide)) ⟨_, rfl, rfl, _, rfl, ?_⟩
      refine iteDF (hno (by decide)) ⟨_, rfl, rfl, _, rfl, ?_⟩
      refine iteDF (hno (by decide)) ⟨_, rfl, rfl, _, rfl, ?_⟩
      refine iteDF (hno (by decide)) ⟨_, rfl, rfl, _, rfl, ?_⟩
      refine iteDF (hno (by decide)) ⟨_, rfl, rfl, _, rfl, ?_⟩
      exact iteDT rfl ⟨_, rfl, _, rfl, l, _, _, _, rfl, rfl, SqL.of hnum, at_of (j := 0) rfl rfl, d, s, k, rfl, B, wf, fun H' q e nq hq => post.same B e nq hq⟩
    | totals =>
      obtain ⟨rfl, rfl⟩ := hdec
      rw [act_totals hl] at post
      refine iteDF (hno (by decide)) ⟨_, rfl, rfl, _, rfl, ?_⟩
      refine iteDF (hno (by decide)) ⟨_, rfl, rfl, _, rfl, ?_⟩
      refine iteDF (hno (by decide)) ⟨_, rfl, rfl, _, rfl, ?_⟩
      refine iteDF (hno (by decide)) ⟨_, rfl, rfl, _, rfl, ?_⟩
      refine iteDF (hno (by decide)) ⟨_, rfl, rfl, _, rfl, ?_⟩
      refine iteDF (hno (by decide)) ⟨_, rfl, rfl, _, rfl, ?_⟩
      exact iteDT rfl ⟨_, rfl, d, s, rfl, B, by omega, fun H' q e nq hq => post.same B e nq hq⟩
    | sensor i =>
      obtain ⟨rfl, rfl⟩ := hdec
      refine iteDF (hno (by decide)) ⟨_, rfl, rfl, _, rfl, ?_⟩
      refine iteDF (hno (by decide)) ⟨_, rfl, rfl, _, rfl, ?_⟩
      refine iteDF (hno (by decide)) ⟨_, rfl, rfl, _, rfl, ?_⟩
      refine iteDF (hno (by decide)) ⟨_, rfl, rfl, _, rfl, ?_⟩
      refine iteDF (hno (by decide)) ⟨_, rfl, rfl, _, rfl, ?_⟩
      refine iteDF (hno (by decide)) ⟨_, rfl, rfl, _, rfl, ?_⟩
      refine iteDF (hno (by decide)) ?_
      exact ⟨_, rfl, _, rfl, _, rfl, l, _, _, _, rfl, rfl, SqL.of hnum, at_of (j := 0) rfl rfl, d, s, 4, i, .sensor i, rfl, B, wf, hl, by omega, .inl ⟨rfl, rfl⟩, post⟩
    | bar i =>
      obtain ⟨rfl, rfl⟩ := hdec
      refine iteDF (hno (by decide)) ⟨_, rfl, rfl, _, rfl, ?_⟩
      refine iteDF (hno (by decide)) ⟨_, rfl, rfl, _, rfl, ?_⟩
      refine iteDF (hno (by decide)) ⟨_, rfl, rfl, _, rfl, ?_⟩
      refine iteDF (hno (by decide)) ⟨_, rfl, rfl, _, rfl, ?_⟩
      refine iteDF (hno (by decide)) ⟨_, rfl, rfl, _, rfl, ?_⟩
      refine iteDF (hno (by decide)) ⟨_, rfl, rfl, _, rfl, ?_⟩
      refine iteDF (hno (by decide)) ?_
      exact ⟨_, rfl, _, rfl, _, rfl, l, _, _, _, rfl, rfl, SqL.of hnum, at_of (j := 0) rfl rfl, d, s, 6, i, .bar i, rfl, B, wf, hl, by omega, .inr (.inl ⟨rfl, rfl⟩), post⟩
    | free i =>
      obtain ⟨rfl, rfl⟩ := hdec
      refine iteDF (hno (by decide)) ⟨_, rfl, rfl, _, rfl, ?_⟩
      refine iteDF (hno (by decide)) ⟨_, rfl, rfl, _, rfl, ?_⟩
      refine iteDF (hno (by decide)) ⟨_, rfl, rfl, _, rfl, ?_⟩
      refine iteDF (hno (by decide)) ⟨_, rfl, rfl, _, rfl, ?_⟩
      refine iteDF (hno (by decide)) ⟨_, rfl, rfl, _, rfl, ?_⟩
      refine iteDF (hno (by decide)) ⟨_, rfl, rfl, _, rfl, ?_⟩
      refine iteDF (hno (by decide)) ?_
      exact ⟨_, rfl, _, rfl, _, rfl, l, _, _, _, rfl, rfl, SqL.of hnum, at_of (j := 0) rfl rfl, d, s, 7, i, .free i, rfl, B, wf, hl, by omega, .inr (.inr (.inl ⟨rfl, rfl⟩)), post⟩
    | soonest i =>
      obtain ⟨rfl, rfl⟩ := hdec
      refine iteDF (hno (by decide)) ⟨_, rfl, rfl, _, rfl, ?_⟩
      refine iteDF (hno (by decide)) ⟨_, rfl, rfl, _, rfl, ?_⟩
      refine iteDF (hno (by decide)) ⟨_, rfl, rfl, _, rfl, ?_⟩
      refine iteDF (hno (by decide)) ⟨_, rfl, rfl, _, rfl, ?_⟩
      refine iteDF (hno (by decide)) ⟨_, rfl, rfl, _, rfl, ?_⟩
      refine iteDF (hno (by decide)) ⟨_, rfl, rfl, _, rfl, ?_⟩
      refine iteDF (hno (by decide)) ?_
      exact ⟨_, rfl, _, rfl, _, rfl, l, _, _, _, rfl, rfl, SqL.of hnum, at_of (j := 0) rfl rfl, d, s, 8, i, .soonest i, rfl, B, wf, hl, by omega, .inr (.inr (.inr ⟨rfl, rfl⟩)), post⟩
end
end Vt

end
section
set_option Elab.async false
set_option linter.all false
set_option maxRecDepth 100000
set_option maxHeartbeats 2000000
namespace Vt
open PySem PySem.Spec PyProof.Rows L2
noncomputable def spNB (K : PySem.W.Frag) : Sp := fun vs H Q _ => ∃ (c : Addr) (ns : List Int) (i : Nat) (x : Int) (nums t : List Int) (d : Vbavae.Call), vs = [.ref c, .int (i : Nat)] ∧ SqL K H c (ns.map V.int) ∧ ns.drop i = x :: (nums ++ t) ∧ Dec x nums d ∧ ∀ H', Same H H' → Q (.int (nums.length : Nat)) H'
noncomputable def spAC (a : Ad) : Sp := fun vs H Q _ => ∃ (k : Addr) (o : Option PD) (s : Vbavae.St) (x : Int) (l : Addr) (nums : List Int) (d : Vbavae.Call), vs = [.ref k, .int x, .ref l] ∧ DeskAt a H k o s ∧ s.log.length ≤ 4000 ∧ H l = some (.lst (nums.map V.int)) ∧ ¬ l ∈ k :: footO o ∧ Dec x nums d ∧ Post a H k o (Vbavae.act s d) Q
noncomputable def spDInit (C : Addr) : Sp := fun vs H Q _ => ∃ (p dx : Addr), vs = [.ref p] ∧ H p = some (.ins C dx []) ∧ Q .non (upd H p (.ins C dx [("panel", .non)]))
noncomputable def spAns (K : PySem.W.Frag) : Sp := fun vs H Q _ => ∃ (c : Addr) (ns : List Int), vs = [.ref c] ∧ SqL K H c (ns.map V.int) ∧ ns.length ≤ 16000 ∧ PyVbavae.answers_asked ns = true ∧ ∀ (H' : Hp) (p : Addr), H' p = some (.lst ((PyVbavae.answers ns).map V.int)) → Q (.ref p) H'
theorem asked_is {ns : List Int} (h : PyVbavae.answers_asked ns = true) : ∃ cs, PyFlat.calls PyVbavae.shape ns.length ns = some cs ∧ cs.length ≤ 400 ∧ PyVbavae.answers ns = PyFlat.told (PyFlat.played VbavaeNeutral.step Vbavae.start (cs.map PyVbavae.whole)) := by
  unfold PyVbavae.answers_asked at h
  unfold PyVbavae.answers
  cases e : PyFlat.calls PyVbavae.shape ns.length ns with
  | none => unfold PyVbavae.calls at h; rw [e] at h; cases h
  | some cs =>
    have e2 : PyVbavae.calls ns = some (cs.map PyVbavae.whole) := by unfold PyVbavae.calls; rw [e]
    rw [e2] at h ⊢
    dsimp only at h
    rw [Bool.and_eq_true] at h
    have := h.1
    unfold PyFlat.atMost at this
    rw [decide_eq_true_eq, List.length_map] at this
    exact ⟨cs, rfl, this, rfl⟩
theorem told_cons (x : List Int) (l : List (List Int)) : PyFlat.told (x :: l) = ((x.length : Nat) : Int) :: x ++ PyFlat.told l := by
  unfold PyFlat.told; rw [List.flatMap_cons]
theorem step_is {s : Vbavae.St} {c : List (List Int)} {d : Vbavae.Call} (h : Vbavae.decode c = some d) : VbavaeNeutral.step s c = Vbavae.act s d := by
  unfold VbavaeNeutral.step Vbavae.stepRows; rw [h]
theorem drop_parts {ns : List Int} {i : Nat} {x : Int} {nums t : List Int} (h : ns.drop i = x :: (nums ++ t)) : i < ns.length ∧ ns[i]? = some x ∧ i + 1 + nums.length ≤ ns.length ∧ (ns.drop (i + 1)).take nums.length = nums ∧ ns.drop (i + 1 + nums.length) = t := by
  have h0 : i < ns.length := by
    have := congrArg List.length h
    rw [List.length_drop] at this
    simp at this; omega
  have h1 : ns.drop (i + 1) = nums ++ t := by
    rw [← List.drop_drop, h]; rfl
  have h2 : (nums ++ t).length = ns.length - (i + 1) := by rw [← h1, List.length_drop]
  rw [List.length_append] at h2
  refine ⟨h0, ?_, by omega, by rw [h1, List.take_left], by rw [← List.drop_drop, h1, List.drop_left]⟩
  have := congrArg (fun l => l[0]?) h
  simpa using this
structure LoopI (a : Ad) (H H' : Hp) (k gv : Addr) (ns : List Int) (i f : Nat) (cs : List (List (List Int))) (s : Vbavae.St) (o : Option PD) (g : List Int) : Prop where
  le : i ≤ ns.length
  pcs : PyFlat.calls PyVbavae.shape f (ns.drop i) = some cs
  desk : DeskAt a H' k o s
  giv : H' gv = some (.lst (g.map V.int))
  gk : gv ≠ k
  go : ¬ gv ∈ reachO o
  same : Same H H'
  nk : H k = none
  ng : H gv = none
  no : ∀ b, b ∈ reachO o → H b = none
  log : s.log.length + 9 * cs.length ≤ 4000
  len : g.length + 161 * cs.length ≤ 100000
  eq : g ++ PyFlat.told (PyFlat.played VbavaeNeutral.step s (cs.map PyVbavae.whole)) = PyVbavae.answers ns
theorem LoopI.pre {a : Ad} {H H1 H2 : Hp} {k gv : Addr} {ns : List Int} {i f : Nat} {cs : List (List (List Int))} {s : Vbavae.St} {o : Option PD} {g : List Int} (L : LoopI a H H1 k gv ns i f cs s o g) (e : Same H1 H2) : LoopI a H H2 k gv ns i f cs s o g :=
  { L with desk := L.desk.same e, giv := e _ _ L.giv, same := L.same.trans e }
noncomputable def mu (n : Nat) (σ : List (Option V)) : Nat := match σ[3]? with
  | some (some (V.int z)) => ((n : Int) - z).toNat
  | _ => 0
theorem DeskAt.wf {a : Ad} {H : Hp} {k : Addr} {o : Option PD} {s : Vbavae.St} (h : DeskAt a H k o s) : s.laid = true → WfP s := by
  cases o with
  | none => intro e; rw [h.1] at e; cases e
  | some d => exact fun _ => h.2.1
section
variable {P : Program} {w : World} {K : PySem.W.Frag} {mg : Str → Option Value} {base : Heap} {a : Ad}
theorem ok_Desk_init (T : Txt K mg a) : FnOk P w K mg base CX0 1 a.f_Desk_init a.d_Desk_init ["self"] (spDInit a.C_Desk) := by
  refine T.F_Desk_init.ok sc_Desk_init (fun vs H Q E h => ?_) (fun cdv A outer s H vs Q E hr h => ?_)
  · obtain ⟨p, dx, rfl, _⟩ := h; rfl
  · obtain ⟨p, dx, rfl, hp, k⟩ := h
    refine ⟨_, (pss_one (ps_fldK K rfl (pv 0) pe_non rfl)), ?_⟩
    exact ⟨_, rfl, p, _, dx, _, rfl, hp, T.cl_Desk, T.n_Desk_panel, (by show 0 < 1000; decide), k⟩
theorem ok_numbers_behind (T : Txt K mg a) : FnOk P w K mg base CX0 1 a.f_numbers_behind a.d_numbers_behind ["calls", "at"] (spNB K) := by
  refine T.F_numbers_behind.ok sc_numbers_behind (fun vs H Q E h => ?_) (fun cdv A outer s H vs Q E hr h => ?_)
  · obtain ⟨c, ns, i, x, nums, t, d, rfl, _⟩ := h; rfl
  · obtain ⟨c, ns, i, x, nums, t, dc, rfl, hS, hdrop, hdec, k⟩ := h
    refine ⟨_, (pss_cons (ps_set (i := 2) sc_numbers_behind.nd rfl (Or.inl rfl) (pe_ix (ix_listK K rfl) (pv 0) (pv 1) (fun _ _ => rfl))) (pss_cons (ps_if (pt_cmpR op_eq (pv 2) (pe_gint rfl T.c_LAY) (nomark _)) (pss_one (ps_ret pe_int)) pss_nil) (pss_cons (ps_if (PW.pt (pw_or (pt_cmpR op_eq (pv 2) (pe_gint rfl T.c_SAMPLE) (nomark _)) (pw_or1 (pt_cmpR op_eq (pv 2) (pe_gint rfl T.c_WOULD) (nomark _))))) (pss_one (ps_ret (pe_op op_add pe_int (pe_ix (ix_listK K rfl) (pv 0) (pe_op op_add (pv 1) pe_int) (fun _ _ => rfl))))) pss_nil) (pss_cons (ps_if (pt_cmpR (op_inK K rfl) (pv 2) (pe_tup (pa_cons (pe_gint rfl T.c_SENSOR) (pa_cons (pe_gint rfl T.c_BAR) (pa_cons (pe_gint rfl T.c_FREE) (pa_cons (pe_gint rfl T.c_SOONEST) (pa_cons (pe_gint rfl T.c_TRIM) (pa_cons (pe_gint rfl T.c_LOG) pa_nil))))))) rfl) (pss_one (ps_ret pe_int)) pss_nil) (pss_cons (ps_if (pt_cmpR (op_inK K rfl) (pv 2) (pe_tup (pa_cons (pe_gint rfl T.c_VALUE) (pa_cons (pe_gint rfl T.c_TRUSTED) (pa_cons (pe_gint rfl T.c_TOTALS) pa_nil)))) rfl) (pss_one (ps_ret pe_int)) pss_nil) (pss_one ps_never)))))), ?_⟩
    obtain ⟨_, hx, hle, htk, hdr⟩ := drop_parts hdrop
    have hxi : (ns.map V.int)[i]? = some (V.int x) := map_get hx
    have hno : ∀ {x y : Int}, x ≠ y → ¬ (V.int x = V.int y) := fun {x y} h q => by injection q with q; exact h q
    have nxt : ∀ n r, nums = n :: r → (ns.map V.int)[i + 1]? = some (V.int n) := fun n r e => by
      refine map_get ?_
      have h1 := congrArg (fun l => l[1]?) hdrop
      rw [e] at h1
      simpa using h1
    refine ⟨_, rfl, _, rfl, c, _, _, _, rfl, rfl, hS, at_of (j := i) rfl hxi, ?_⟩
    refine ⟨_, rfl, rfl, _, rfl, ?_⟩
    have k0 := k H (Same.refl H)
    cases dc with
    | lay n t p q r =>
      obtain ⟨rfl, rfl⟩ := hdec
      exact iteDT rfl k0
    | sample l =>
      obtain ⟨rfl, rfl⟩ := hdec
      refine iteDF (hno (by decide)) ⟨_, rfl, rfl, _, rfl, ?_⟩
      refine iteDT rfl (iteT ⟨_, rfl, _, rfl, _, _, rfl, rfl, c, _, _, _, rfl, rfl, hS, at_of (j := i + 1) (by omega) (nxt _ _ rfl), _, _, rfl, rfl, ?_⟩)
      rw [List.length_cons] at k0
      show Q (.int ((1 : Int) + ((l.length : Nat) : Int))) H
      rw [show (1 : Int) + ((l.length : Nat) : Int) = ((l.length + 1 : Nat) : Int) by omega]
      exact k0
    | would l =>
      obtain ⟨rfl, rfl⟩ := hdec
      refine iteDF (hno (by decide)) ⟨_, rfl, rfl, _, rfl, ?_⟩
      refine iteDF (hno (by decide)) ⟨_, rfl, rfl, _, rfl, ?_⟩
      refine iteDT rfl ⟨_, rfl, _, rfl, _, _, rfl, rfl, c, _, _, _, rfl, rfl, hS, at_of (j := i + 1) (by omega) (nxt _ _ rfl), _, _, rfl, rfl, ?_⟩
      rw [List.length_cons] at k0
      show Q (.int ((1 : Int) + ((l.length : Nat) : Int))) H
      rw [show (1 : Int) + ((l.length : Nat) : Int) = ((l.length + 1 : Nat) : Int) by omega]
      exact k0
    | sensor i =>
      obtain ⟨rfl, rfl⟩ := hdec
      refine iteDF (hno (by decide)) ⟨_, rfl, rfl, _, rfl, ?_⟩
      refine iteDF (hno (by decide)) ⟨_, rfl, rfl, _, rfl, ?_⟩
      refine iteDF (hno (by decide)) ⟨_, rfl, by show 6 ≤ sizeLine; decide, fun t nt => ⟨t, _, rfl, .inr (SqT.of upd_same), rfl, rfl, _, rfl, ?_⟩⟩
      exact iteBT rfl (k _ (same_upd nt))
    | bar i =>
      obtain ⟨rfl, rfl⟩ := hdec
      refine iteDF (hno (by decide)) ⟨_, rfl, rfl, _, rfl, ?_⟩
      refine iteDF (hno (by decide)) ⟨_, rfl, rfl, _, rfl, ?_⟩
      refine iteDF (hno (by decide)) ⟨_, rfl, by show 6 ≤ sizeLine; decide, fun t nt => ⟨t, _, rfl, .inr (SqT.of upd_same), rfl, rfl, _, rfl, ?_⟩⟩
      exact iteBT rfl (k _ (same_upd nt))
    | free i =>
      obtain ⟨rfl, rfl⟩ := hdec
      refine iteDF (hno (by decide)) ⟨_, rfl, rfl, _, rfl, ?_⟩
      refine iteDF (hno (by decide)) ⟨_, rfl, rfl, _, rfl, ?_⟩
      refine iteDF (hno (by decide)) ⟨_, rfl, by show 6 ≤ sizeLine; decide, fun t nt => ⟨t, _, rfl, .inr (SqT.of upd_same), rfl, rfl, _, rfl, ?_⟩⟩
      exact iteBT rfl (k _ (same_upd nt))
    | soonest i =>
      obtain ⟨rfl, rfl⟩ := hdec
      refine iteDF (hno (by decide)) ⟨_, rfl, rfl, _, rfl, ?_⟩
      refine iteDF (hno (by decide)) ⟨_, rfl, rfl, _, rfl, ?_⟩
      refine iteDF (hno (by decide)) ⟨_, rfl, by show 6 ≤ sizeLine; decide, fun t nt => ⟨t, _, rfl, .inr (SqT.of upd_same), rfl, rfl, _, rfl, ?_⟩⟩
      exact iteBT rfl (k _ (same_upd nt))
    | trim i =>
      obtain ⟨rfl, rfl⟩ := hdec
      refine iteDF (hno (by decide)) ⟨_, rfl, rfl, _, rfl, ?_⟩
      refine iteDF (hno (by decide)) ⟨_, rfl, rfl, _, rfl, ?_⟩
      refine iteDF (hno (by decide)) ⟨_, rfl, by show 6 ≤ sizeLine; decide, fun t nt => ⟨t, _, rfl, .inr (SqT.of upd_same), rfl, rfl, _, rfl, ?_⟩⟩
      exact iteBT rfl (k _ (same_upd nt))
    | log i =>
      obtain ⟨rfl, rfl⟩ := hdec
      refine iteDF (hno (by decide)) ⟨_, rfl, rfl, _, rfl, ?_⟩
      refine iteDF (hno (by decide)) ⟨_, rfl, rfl, _, rfl, ?_⟩
      refine iteDF (hno (by decide)) ⟨_, rfl, by show 6 ≤ sizeLine; decide, fun t nt => ⟨t, _, rfl, .inr (SqT.of upd_same), rfl, rfl, _, rfl, ?_⟩⟩
      exact iteBT rfl (k _ (same_upd nt))
    | value =>
      obtain ⟨rfl, rfl⟩ := hdec
      refine iteDF (hno (by decide)) ⟨_, rfl, rfl, _, rfl, ?_⟩
      refine iteDF (hno (by decide)) ⟨_, rfl, rfl, _, rfl, ?_⟩
      refine iteDF (hno (by decide)) ⟨_, rfl, by show 6 ≤ sizeLine; decide, fun t nt => ⟨t, _, rfl, .inr (SqT.of upd_same), rfl, rfl, _, rfl, ?_⟩⟩
      refine iteBF rfl ⟨_, rfl, by show 3 ≤ sizeLine; decide, fun t2 nt2 => ⟨t2, _, rfl, .inr (SqT.of upd_same), rfl, rfl, _, rfl, ?_⟩⟩
      exact iteBT rfl (k _ ((same_upd nt).trans (same_upd nt2)))
    | trusted =>
      obtain ⟨rfl, rfl⟩ := hdec
      refine iteDF (hno (by decide)) ⟨_, rfl, rfl, _, rfl, ?_⟩
      refine iteDF (hno (by decide)) ⟨_, rfl, rfl, _, rfl, ?_⟩
      refine iteDF (hno (by decide)) ⟨_, rfl, by show 6 ≤ sizeLine; decide, fun t nt => ⟨t, _, rfl, .inr (SqT.of upd_same), rfl, rfl, _, rfl, ?_⟩⟩
      refine iteBF rfl ⟨_, rfl, by show 3 ≤ sizeLine; decide, fun t2 nt2 => ⟨t2, _, rfl, .inr (SqT.of upd_same), rfl, rfl, _, rfl, ?_⟩⟩
      exact iteBT rfl (k _ ((same_upd nt).trans (same_upd nt2)))
    | totals =>
      obtain ⟨rfl, rfl⟩ := hdec
      refine iteDF (hno (by decide)) ⟨_, rfl, rfl, _, rfl, ?_⟩
      refine iteDF (hno (by decide)) ⟨_, rfl, rfl, _, rfl, ?_⟩
      refine iteDF (hno (by decide)) ⟨_, rfl, by show 6 ≤ sizeLine; decide, fun t nt => ⟨t, _, rfl, .inr (SqT.of upd_same), rfl, rfl, _, rfl, ?_⟩⟩
      refine iteBF rfl ⟨_, rfl, by show 3 ≤ sizeLine; decide, fun t2 nt2 => ⟨t2, _, rfl, .inr (SqT.of upd_same), rfl, rfl, _, rfl, ?_⟩⟩
      exact iteBT rfl (k _ ((same_upd nt).trans (same_upd nt2)))
theorem ok_answer_call (T : Txt K mg a) : FnOk P w K mg base CX0 7 a.f_answer_call a.d_answer_call ["desk", "call", "numbers"] (spAC a) := by
  refine T.F_answer_call.ok sc_answer_call (fun vs H Q E h => ?_) (fun cdv A outer s H vs Q E hr h => ?_)
  · obtain ⟨k, o, s, x, l, nums, d, rfl, _⟩ := h; rfl
  · obtain ⟨k, o, s, x, l, nums, dc, rfl, D, hlog, hl, _, hdec, post⟩ := h
    refine ⟨_, (pss_cons (ps_if (pt_cmpR op_eq (pv 1) (pe_gint rfl T.c_LAY) (nomark _)) (pss_one (ps_ret (pe_call (ok_lay T) (hr.mono (by decide)) rfl T.mg_lay T.F_lay.kp T.b_lay .nil pass0 (pa_cons (pv 0) (pa_cons (pv 2) pa_nil))))) pss_nil) (pss_cons (ps_if (pt_cmp (pc_isN (pe_fldK K rfl (pv 0) rfl))) (pss_one (ps_ret (pe_lst (pa_cons (pe_gint rfl T.c_NOTHING_LAID) pa_nil)))) pss_nil) (pss_one (ps_ret (pe_call (ok_answer_laid T) (hr.mono (by decide)) rfl T.mg_answer_laid T.F_answer_laid.kp T.b_answer_laid .nil pass0 (pa_cons (pe_fldK K rfl (pv 0) rfl) (pa_cons (pv 1) (pa_cons (pv 2) pa_nil)))))))), ?_⟩
    refine ⟨_, rfl, rfl, _, rfl, ?_⟩
    by_cases hx : x = 0
    · subst hx
      refine iteDT rfl ⟨_, rfl, _, rfl, ?_⟩
      cases dc with
      | lay n tol p q r =>
        obtain ⟨_, rfl⟩ := hdec
        exact ⟨k, o, s, l, n, tol, p, q, r, rfl, D, hl, post⟩
      | _ => exact absurd hdec.1 (by decide)
    · refine iteDF (by intro q; injection q with q; exact hx q) ?_
      cases o with
      | none =>
        have D0 := D
        obtain ⟨hlaid, dk, hk⟩ := D
        refine ⟨_, rfl, k, _, dk, _, _, rfl, hk, T.cl_Desk, T.n_Desk_panel, rfl, _, rfl, ?_⟩
        have e : Vbavae.act s dc = (s, [-2]) := by
          cases dc with
          | lay n tol p q r => exact absurd hdec.1 hx
          | _ => unfold Vbavae.act; dsimp only; rw [if_pos hlaid]
        rw [e] at post
        exact iteT ⟨by show 1 ≤ sizeLine; decide, fun q nq => post.same D0 (same_upd nq) nq upd_same⟩
      | some d =>
        obtain ⟨hlaid, wf, B, dk, hk⟩ := D
        refine ⟨_, rfl, k, _, dk, _, _, rfl, hk, T.cl_Desk, T.n_Desk_panel, rfl, _, rfl, ?_⟩
        refine iteF ⟨_, rfl, k, _, dk, _, _, rfl, hk, T.cl_Desk, T.n_Desk_panel, rfl, _, rfl, _, rfl, ?_⟩
        refine ⟨d, s, x, l, nums, dc, rfl, B, wf, hlaid, hlog, hl, hdec, hx, fun H' d' q B' ep ef els elv kp nq hq => ?_⟩
        obtain ⟨wf', hlaid'⟩ := act_wf wf hlaid hdec hx
        have nkf : ¬ k ∈ d.foot := fun z => by
          rcases List.mem_cons.mp z with rfl | z
          · rw [B.obj] at hk
            injection hk with hk; injection hk with _ _ hk
            have := congrArg List.length hk
            simp [pf] at this
          · rcases List.mem_cons.mp z with rfl | z
            · rw [B.evs.lst] at hk; cases hk
            · obtain ⟨c, dx, e⟩ := B.as_at z
              rw [hk] at e
              injection e with e; injection e with _ _ e
              have := congrArg List.length e
              simp [sf] at this
        refine post H' (some d') q ⟨hlaid', wf', B', dk, by rw [ep]; exact kp _ _ hk nkf⟩ (fun b hb => ?_) (kp.mono fun b hb => List.mem_cons_of_mem _ hb) nq hq
        rcases List.mem_cons.mp hb with rfl | hb
        · exact .inl (by rw [els]; exact List.mem_cons_self)
        rcases List.mem_cons.mp hb with rfl | hb
        · rcases elv with e | e
          · exact .inl (by rw [e]; exact List.mem_cons_of_mem _ List.mem_cons_self)
          · exact .inr e
        · rw [ef] at hb
          exact .inl (List.mem_cons_of_mem _ (List.mem_cons_of_mem _ hb))
theorem ok_answers (T : Txt K mg a) : FnOk P w K mg base CX0 8 a.f_answers a.d_answers ["calls"] (spAns K) := by
  refine T.F_answers.ok sc_answers (fun vs H Q E h => ?_) (fun cdv A outer s H vs Q E hr h => ?_)
  · obtain ⟨c, ns, rfl, _⟩ := h; rfl
  · obtain ⟨c, ns, rfl, hS, hlen, hask, k⟩ := h
    refine ⟨_, (pss_cons (ps_set (i := 1) sc_answers.nd rfl (Or.inl rfl) (pe_make0 T.mk_Desk (ok_Desk_init T) (hr.mono (by decide)) rfl T.mg_Desk T.b_Desk_init .nil pass0)) (pss_cons (ps_set (i := 2) sc_answers.nd rfl (Or.inl rfl) (pe_lst pa_nil)) (pss_cons (ps_set (i := 3) sc_answers.nd rfl (Or.inl rfl) pe_int) (pss_cons (ps_while PassesOwn.never (pt_cmpR op_lt (pv 3) (pe_callB (len_seqK K rfl) (by rfl) T.g_len PySem.boot_len (pa_cons (pv 0) pa_nil)) (nomark _)) (pss_cons (ps_set (i := 4) sc_answers.nd rfl (Or.inl rfl) (pe_op op_add (pe_op op_add (pv 3) pe_int) (pe_call (ok_numbers_behind T) (hr.mono (by decide)) rfl T.mg_numbers_behind T.F_numbers_behind.kp T.b_numbers_behind .nil pass0 (pa_cons (pv 0) (pa_cons (pv 3) pa_nil))))) (pss_cons (ps_set (i := 5) sc_answers.nd rfl (Or.inl rfl) (pe_call (ok_answer_call T) (hr.mono (by decide)) rfl T.mg_answer_call T.F_answer_call.kp T.b_answer_call .nil pass0 (pa_cons (pv 1) (pa_cons (pe_ix (ix_listK K rfl) (pv 0) (pv 3) (fun _ _ => rfl)) (pa_cons (pe_slice (sl_listK K rfl) (pv 0) (po_some (pe_op op_add (pv 3) pe_int)) (po_some (pv 4))) pa_nil))))) (pss_cons (ps_expr (pe_bm PySem.F.plainAttrs_list PySem.F.slot_list_append PySem.F.type_list_append mt_append (pv 2) (pa_cons (pe_callB (len_seqK K rfl) (by rfl) T.g_len PySem.boot_len (pa_cons (pv 5) pa_nil)) pa_nil))) (pss_cons (ps_expr (pe_bm PySem.F.plainAttrs_list PySem.F.slot_list_extend PySem.F.type_list_extend mt_extend (pv 2) (pa_cons (pv 5) pa_nil))) (pss_one (ps_set (i := 3) sc_answers.nd rfl (Or.inl rfl) (pv 4)))))))) (pss_one (ps_ret (pv 2))))))), ?_⟩
    obtain ⟨cs0, hc0, hc4, hans⟩ := asked_is hask
    intro kk dk nk ndk nek
    refine ⟨kk, dk, rfl, upd_same, rfl, by decide, fun gv ngv => ?_⟩
    rw [upd_upd] at ngv ⊢
    have nkg : kk ≠ gv := ne_of_none upd_same ngv
    have ngH : H gv = none := by
      rw [upd_ne (Ne.symm nkg)] at ngv
      by_cases q : gv = dk
      · rw [q]; exact ndk
      · rw [upd_ne q] at ngv; exact ngv
    have s0 : Same H (upd (upd (upd H dk (.own kk)) kk (.ins a.C_Desk dk [("panel", .non)])) gv (.lst [])) := fun b o e => by
      rw [upd_ne (ne_of_none e ngH), upd_ne (ne_of_none e nk), upd_ne (ne_of_none e ndk)]; exact e
    change tWhile _ _ _ _ _
    refine while_by (fun σ H' => ∃ (i f : Nat) (cs : List (List (List Int))) (s : Vbavae.St) (o : Option PD) (g : List Int) (v4 v5 : Option V), σ = [some (.ref c), some (.ref kk), some (.ref gv), some (.int (i : Nat)), v4, v5] ∧ LoopI a H H' kk gv ns i f cs s o g) (fun σ _ => mu ns.length σ) ?_ ?_ ?mono
    case mono =>
      rintro σ H Q Q' h ⟨v, e1, w, e2, p, ys, e3, e4, i, j, e5, e6, b, e7, q⟩
      exact ⟨v, e1, w, e2, p, ys, e3, e4, i, j, e5, e6, b, e7, h _ _ q⟩
    · refine ⟨0, ns.length, cs0, Vbavae.start, none, [], none, none, rfl, ⟨Nat.zero_le _, hc0, ⟨rfl, dk, ?_⟩, upd_same, Ne.symm nkg, by simp [reachO], s0, nk, ngH, fun b hb => (by cases hb), by show 0 + _ ≤ _; omega, by show 0 + _ ≤ _; omega, by rw [hans]; rfl⟩⟩
      rw [upd_ne nkg]; exact upd_same
    · rintro σ H1 ⟨i, f, cs, s, o, g, v4, v5, rfl, L⟩
      refine ⟨_, rfl, _, rfl, c, _, rfl, .inl (L.same.seq hS), _, _, rfl, rfl, _, rfl, ?_⟩
      rw [List.length_map]
      by_cases hi : i < ns.length
      · refine iteDT (by omega) ?_
        obtain ⟨x, r, hxr⟩ : ∃ x r, ns.drop i = x :: r := ⟨ns[i], ns.drop (i + 1), List.drop_eq_getElem_cons hi⟩
        have hcs := L.pcs
        rw [hxr] at hcs
        obtain ⟨f', cc, t, cs', ecs, hcall, hrest⟩ := calls_cons hcs
        obtain ⟨d, nums, er, hdec, hdc⟩ := call_dec hcall
        subst er
        obtain ⟨_, hx, hle, htk, hdr⟩ := drop_parts hxr
        have hxi : (ns.map V.int)[i]? = some (V.int x) := map_get hx
        refine ⟨_, rfl, _, _, rfl, rfl, _, rfl, _, rfl, c, ns, i, x, nums, t, d, rfl, L.same.seq hS, hxr, hdec, fun H1 sb => ⟨_, _, rfl, rfl, ?_⟩⟩
        have L := L.pre sb
        refine ⟨_, rfl, _, rfl, _, rfl, c, _, _, _, rfl, rfl, L.same.seq hS, at_of (j := i) rfl hxi, ?_⟩
        refine ⟨_, rfl, _, rfl, _, _, rfl, rfl, _, rfl, _, rfl, _, rfl, c, _, rfl, L.same.seq hS, fun l nl => ?_⟩
        have ecut : cutV (ns.map V.int) (some ((i : Nat) + 1)) (some ((i : Nat) + 1 + (nums.length : Nat))) = nums.map V.int := by
          have := cut_is (ns.map V.int) (j := i + 1) (m := i + 1 + nums.length) (by omega) (by rw [List.length_map]; omega)
          rw [show ((i : Nat) : Int) + 1 = ((i + 1 : Nat) : Int) by omega, show ((i + 1 : Nat) : Int) + (nums.length : Nat) = ((i + 1 + nums.length : Nat) : Int) by omega, this, ← List.map_drop, ← List.map_take]
          rw [show i + 1 + nums.length - (i + 1) = nums.length by omega, htk]
        rw [ecut]
        have t1 := same_upd nl (o := .lst (nums.map V.int))
        have hclen : cs.length = cs'.length + 1 := by rw [ecs]; rfl
        have hlog := L.log
        have hglen := L.len
        refine ⟨kk, o, s, x, l, nums, d, rfl, L.desk.same t1, by omega, upd_same, fun q => ?_, hdec, fun H3 o' z D3 ff kp nz hz => ?_⟩
        · obtain ⟨u, e⟩ := L.desk.track q
          rw [nl] at e; cases e
        have hW : s.laid = true → WfP s := L.desk.wf
        have hal : (Vbavae.act s d).2.length ≤ 160 := by
          exact act_len s (fun hl => (hW hl).n9) d
        have nzH1 : H1 z = none := t1.free nz
        have hg3 : H3 gv = some (.lst (g.map V.int)) := kp gv _ (t1 _ _ L.giv) (fun q => by rcases List.mem_cons.mp q with q | q; exact L.gk q; exact L.go (foot_reach q))
        have nzg : z ≠ gv := fun q => by rw [q, L.giv] at nzH1; cases nzH1
        refine ⟨_, rfl, .inl ⟨rfl, _, SqL.of hg3⟩, _, rfl, z, _, rfl, .inl (SqL.of hz), gv, _, _, rfl, rfl, hg3, ?_, ?_⟩
        · rw [List.length_map]
          have : (200000 : Nat) < sizeLine := by decide
          omega
        refine ⟨_, rfl, .inl ⟨rfl, _, SqL.of upd_same⟩, _, rfl, gv, z, _, _, rfl, rfl, upd_same, (upd_ne nzg).trans hz, ?_, ?_⟩
        · rw [List.length_append, List.length_map, List.length_map]
          show g.length + 1 + _ ≤ sizeLine
          have : (200000 : Nat) < sizeLine := by decide
          omega
        rw [upd_upd]
        have ei : ((i : Nat) : Int) + 1 + (nums.length : Nat) = ((i + 1 + nums.length : Nat) : Int) := by omega
        refine ⟨_, rfl, ⟨i + 1 + nums.length, f', cs', (Vbavae.act s d).1, o', g ++ (((Vbavae.act s d).2.length : Nat) : Int) :: (Vbavae.act s d).2, some (.int ((i : Nat) + 1 + (nums.length : Nat))), some (.ref z), ?_, ?_⟩, ?_⟩
        · show [some (V.ref c), some (.ref kk), some (.ref gv), some (.int ((i : Nat) + 1 + (nums.length : Nat))), some (.int ((i : Nat) + 1 + (nums.length : Nat))), some (.ref z)] = _
          rw [ei]
        · have hal2 := act_log s hW d
          have s13 : Same H H3 := fun b u e => by
            refine kp b u (t1 _ _ (L.same _ _ e)) fun q => ?_
            rcases List.mem_cons.mp q with q | q
            · rw [q, L.nk] at e; cases e
            · rw [L.no b (foot_reach q)] at e; cases e
          have go' : ¬ gv ∈ reachO o' := fun q => by
            rcases ff gv q with q | q
            · exact L.go q
            · rw [t1 _ _ L.giv] at q; cases q
          refine ⟨hle, by rw [hdr]; exact hrest, D3.out hg3 L.gk go', ?_, L.gk, go', fun b u e => ?_, L.nk, L.ng, fun b hb => ?_, by omega, ?_, ?_⟩
          · rw [upd_same, List.map_append, List.append_assoc]
            congr 3
            rw [List.length_map]; rfl
          · rw [upd_ne (ne_of_none e L.ng)]; exact s13 b u e
          · rcases ff b hb with q | q
            · exact L.no b q
            · exact (L.same.trans t1).free q
          · rw [List.length_append, List.length_cons]; omega
          · rw [← L.eq, ecs, List.map_cons]
            show _ = g ++ PyFlat.told ((VbavaeNeutral.step s (PyVbavae.whole cc)).2 :: PyFlat.played VbavaeNeutral.step (VbavaeNeutral.step s (PyVbavae.whole cc)).1 (cs'.map PyVbavae.whole))
            rw [step_is hdc, told_cons, List.append_assoc]
        · show ((ns.length : Int) - ((i : Nat) + 1 + (nums.length : Nat))).toNat < ((ns.length : Int) - (i : Nat)).toNat
          omega
      · refine iteDF (by omega) ?_
        have hie : i = ns.length := by have := L.le; omega
        have hcs := L.pcs
        rw [hie, List.drop_length] at hcs
        have e0 := calls_nil hcs
        subst e0
        refine ⟨_, rfl, k H1 gv ?_⟩
        rw [L.giv, ← L.eq]
        show some (HO.lst (g.map V.int)) = some (HO.lst ((g ++ []).map V.int))
        rw [List.append_nil]
end
end Vt

end
set_option Elab.async false
set_option linter.all false
set_option maxRecDepth 100000
set_option maxHeartbeats 2000000
namespace Vt
open PySem PySem.Spec PyProof.Rows L2
theorem txt_mk {K : PySem.W.Frag} {h : Heap} {mg : Str → Option Value} {fa : Addr} (X : K.In h) (G : h.Ns mainGlobals mg) (hfa : mg "answers" = some (.ref fa))
    {C_Sensor C_Panel C_Desk f_Sensor_init f_Panel_init f_Desk_init f_copied_sensor f_copied f_trusted_numbers f_unbarred_numbers f_voters f_votes_of f_middle f_is_near f_begin_state f_write_event f_judge f_judge_all f_moved f_follow f_told f_take_sample f_bar f_free f_samples_to_change f_trimmed_mean f_how_many_events f_lay_fits f_lay f_reading_fits f_sample_fits f_sample f_value f_sensor_state f_bar_sensor f_free_sensor f_soonest f_answer_of_sensor f_trusted_list f_trim f_log f_totals f_answer_laid f_answer_call f_numbers_behind f_answers : Addr} {oc_Sensor_init kV_Sensor_init dc_Sensor_init pm_Sensor_init cd_Sensor_init ct_Sensor_init oc_Panel_init kV_Panel_init dc_Panel_init pm_Panel_init cd_Panel_init ct_Panel_init oc_Desk_init kV_Desk_init dc_Desk_init pm_Desk_init cd_Desk_init ct_Desk_init oc_copied_sensor kV_copied_sensor dc_copied_sensor pm_copied_sensor cd_copied_sensor ct_copied_sensor oc_copied kV_copied dc_copied pm_copied cd_copied ct_copied oc_trusted_numbers kV_trusted_numbers dc_trusted_numbers pm_trusted_numbers cd_trusted_numbers ct_trusted_numbers oc_unbarred_numbers kV_unbarred_numbers dc_unbarred_numbers pm_unbarred_numbers cd_unbarred_numbers ct_unbarred_numbers oc_voters kV_voters dc_voters pm_voters cd_voters ct_voters oc_votes_of kV_votes_of dc_votes_of pm_votes_of cd_votes_of ct_votes_of oc_middle kV_middle dc_middle pm_middle cd_middle ct_middle oc_is_near kV_is_near dc_is_near pm_is_near cd_is_near ct_is_near oc_begin_state kV_begin_state dc_begin_state pm_begin_state cd_begin_state ct_begin_state oc_write_event kV_write_event dc_write_event pm_write_event cd_write_event ct_write_event oc_judge kV_judge dc_judge pm_judge cd_judge ct_judge oc_judge_all kV_judge_all dc_judge_all pm_judge_all cd_judge_all ct_judge_all oc_moved kV_moved dc_moved pm_moved cd_moved ct_moved oc_follow kV_follow dc_follow pm_follow cd_follow ct_follow oc_told kV_told dc_told pm_told cd_told ct_told oc_take_sample kV_take_sample dc_take_sample pm_take_sample cd_take_sample ct_take_sample oc_bar kV_bar dc_bar pm_bar cd_bar ct_bar oc_free kV_free dc_free pm_free cd_free ct_free oc_samples_to_change kV_samples_to_change dc_samples_to_change pm_samples_to_change cd_samples_to_change ct_samples_to_change oc_trimmed_mean kV_trimmed_mean dc_trimmed_mean pm_trimmed_mean cd_trimmed_mean ct_trimmed_mean oc_how_many_events kV_how_many_events dc_how_many_events pm_how_many_events cd_how_many_events ct_how_many_events oc_lay_fits kV_lay_fits dc_lay_fits pm_lay_fits cd_lay_fits ct_lay_fits oc_lay kV_lay dc_lay pm_lay cd_lay ct_lay oc_reading_fits kV_reading_fits dc_reading_fits pm_reading_fits cd_reading_fits ct_reading_fits oc_sample_fits kV_sample_fits dc_sample_fits pm_sample_fits cd_sample_fits ct_sample_fits oc_sample kV_sample dc_sample pm_sample cd_sample ct_sample oc_value kV_value dc_value pm_value cd_value ct_value oc_sensor_state kV_sensor_state dc_sensor_state pm_sensor_state cd_sensor_state ct_sensor_state oc_bar_sensor kV_bar_sensor dc_bar_sensor pm_bar_sensor cd_bar_sensor ct_bar_sensor oc_free_sensor kV_free_sensor dc_free_sensor pm_free_sensor cd_free_sensor ct_free_sensor oc_soonest kV_soonest dc_soonest pm_soonest cd_soonest ct_soonest oc_answer_of_sensor kV_answer_of_sensor dc_answer_of_sensor pm_answer_of_sensor cd_answer_of_sensor ct_answer_of_sensor oc_trusted_list kV_trusted_list dc_trusted_list pm_trusted_list cd_trusted_list ct_trusted_list oc_trim kV_trim dc_trim pm_trim cd_trim ct_trim oc_log kV_log dc_log pm_log cd_log ct_log oc_totals kV_totals dc_totals pm_totals cd_totals ct_totals oc_answer_laid kV_answer_laid dc_answer_laid pm_answer_laid cd_answer_laid ct_answer_laid oc_answer_call kV_answer_call dc_answer_call pm_answer_call cd_answer_call ct_answer_call oc_numbers_behind kV_numbers_behind dc_numbers_behind pm_numbers_behind cd_numbers_behind ct_numbers_behind oc_answers kV_answers dc_answers pm_answers cd_answers ct_answers : Value} {od_Sensor_init an_Sensor_init od_Panel_init an_Panel_init od_Desk_init an_Desk_init od_copied_sensor an_copied_sensor od_copied an_copied od_trusted_numbers an_trusted_numbers od_unbarred_numbers an_unbarred_numbers od_voters an_voters od_votes_of an_votes_of od_middle an_middle od_is_near an_is_near od_begin_state an_begin_state od_write_event an_write_event od_judge an_judge od_judge_all an_judge_all od_moved an_moved od_follow an_follow od_told an_told od_take_sample an_take_sample od_bar an_bar od_free an_free od_samples_to_change an_samples_to_change od_trimmed_mean an_trimmed_mean od_how_many_events an_how_many_events od_lay_fits an_lay_fits od_lay an_lay od_reading_fits an_reading_fits od_sample_fits an_sample_fits od_sample an_sample od_value an_value od_sensor_state an_sensor_state od_bar_sensor an_bar_sensor od_free_sensor an_free_sensor od_soonest an_soonest od_answer_of_sensor an_answer_of_sensor od_trusted_list an_trusted_list od_trim an_trim od_log an_log od_totals an_totals od_answer_laid an_answer_laid od_answer_call an_answer_call od_numbers_behind an_numbers_behind od_answers an_answers : Option Addr} {sl_Sensor_init sl_Panel_init sl_Desk_init sl_copied_sensor sl_copied sl_trusted_numbers sl_unbarred_numbers sl_voters sl_votes_of sl_middle sl_is_near sl_begin_state sl_write_event sl_judge sl_judge_all sl_moved sl_follow sl_told sl_take_sample sl_bar sl_free sl_samples_to_change sl_trimmed_mean sl_how_many_events sl_lay_fits sl_lay sl_reading_fits sl_sample_fits sl_sample sl_value sl_sensor_state sl_bar_sensor sl_free_sensor sl_soonest sl_answer_of_sensor sl_trusted_list sl_trim sl_log sl_totals sl_answer_laid sl_answer_call sl_numbers_behind sl_answers : Array (Option Value)} {t_SHUT_OUT t_TRUSTED_AGAIN t_BARRED t_FREED t_LAY t_SAMPLE t_WOULD t_VALUE t_SENSOR t_TRUSTED t_BAR t_FREE t_SOONEST t_TRIM t_LOG t_TOTALS t_OUT_OF_RANGE t_NOTHING_LAID t_IS_BARRED t_NOT_BARRED t_TOO_FEW_VOTES t_GREATEST_READING t_GREATEST_STEP t_GREATEST_TRIM t_GREATEST_EVENT t_EVENTS_AT_ONCE : Tok}
    (aC_Sensor : PySem.W.nsIn K mainGlobals "Sensor" = some (some (.ref C_Sensor)))
    (aC_Panel : PySem.W.nsIn K mainGlobals "Panel" = some (some (.ref C_Panel)))
    (aC_Desk : PySem.W.nsIn K mainGlobals "Desk" = some (some (.ref C_Desk)))
    (a_Sensor_init : PySem.W.findIn K (.ref C_Sensor) "__init__" = some (some (.ref f_Sensor_init)))
    (i_Sensor_init : PySem.W.isFn K (.ref f_Sensor_init) = true)
    (l_Sensor_init : K.lookup f_Sensor_init = some ⟨oc_Sensor_init, od_Sensor_init, .func (PySem.W.fnOf "__init__" "Sensor.__init__" (defArgs s_Sensor_init) (defBody s_Sensor_init) (defScope s_Sensor_init) .none kV_Sensor_init dc_Sensor_init pm_Sensor_init an_Sensor_init cd_Sensor_init ct_Sensor_init), sl_Sensor_init⟩)
    (c_Sensor_init : PySem.W.codeIn K cd_Sensor_init "Sensor.__init__" = true)
    (k_Sensor_init : PySem.W.keepIn K (.ref f_Sensor_init) = true)
    (a_Panel_init : PySem.W.findIn K (.ref C_Panel) "__init__" = some (some (.ref f_Panel_init)))
    (i_Panel_init : PySem.W.isFn K (.ref f_Panel_init) = true)
    (l_Panel_init : K.lookup f_Panel_init = some ⟨oc_Panel_init, od_Panel_init, .func (PySem.W.fnOf "__init__" "Panel.__init__" (defArgs s_Panel_init) (defBody s_Panel_init) (defScope s_Panel_init) .none kV_Panel_init dc_Panel_init pm_Panel_init an_Panel_init cd_Panel_init ct_Panel_init), sl_Panel_init⟩)
    (c_Panel_init : PySem.W.codeIn K cd_Panel_init "Panel.__init__" = true)
    (k_Panel_init : PySem.W.keepIn K (.ref f_Panel_init) = true)
    (a_Desk_init : PySem.W.findIn K (.ref C_Desk) "__init__" = some (some (.ref f_Desk_init)))
    (i_Desk_init : PySem.W.isFn K (.ref f_Desk_init) = true)
    (l_Desk_init : K.lookup f_Desk_init = some ⟨oc_Desk_init, od_Desk_init, .func (PySem.W.fnOf "__init__" "Desk.__init__" (defArgs s_Desk_init) (defBody s_Desk_init) (defScope s_Desk_init) .none kV_Desk_init dc_Desk_init pm_Desk_init an_Desk_init cd_Desk_init ct_Desk_init), sl_Desk_init⟩)
    (c_Desk_init : PySem.W.codeIn K cd_Desk_init "Desk.__init__" = true)
    (k_Desk_init : PySem.W.keepIn K (.ref f_Desk_init) = true)
    (a_copied_sensor : PySem.W.nsIn K mainGlobals "copied_sensor" = some (some (.ref f_copied_sensor)))
    (l_copied_sensor : K.lookup f_copied_sensor = some ⟨oc_copied_sensor, od_copied_sensor, .func (PySem.W.fnOf "copied_sensor" "copied_sensor" (defArgs s_copied_sensor) (defBody s_copied_sensor) (defScope s_copied_sensor) .none kV_copied_sensor dc_copied_sensor pm_copied_sensor an_copied_sensor cd_copied_sensor ct_copied_sensor), sl_copied_sensor⟩)
    (c_copied_sensor : PySem.W.codeIn K cd_copied_sensor "copied_sensor" = true)
    (k_copied_sensor : PySem.W.keepIn K (.ref f_copied_sensor) = true)
    (a_copied : PySem.W.nsIn K mainGlobals "copied" = some (some (.ref f_copied)))
    (l_copied : K.lookup f_copied = some ⟨oc_copied, od_copied, .func (PySem.W.fnOf "copied" "copied" (defArgs s_copied) (defBody s_copied) (defScope s_copied) .none kV_copied dc_copied pm_copied an_copied cd_copied ct_copied), sl_copied⟩)
    (c_copied : PySem.W.codeIn K cd_copied "copied" = true)
    (k_copied : PySem.W.keepIn K (.ref f_copied) = true)
    (a_trusted_numbers : PySem.W.nsIn K mainGlobals "trusted_numbers" = some (some (.ref f_trusted_numbers)))
    (l_trusted_numbers : K.lookup f_trusted_numbers = some ⟨oc_trusted_numbers, od_trusted_numbers, .func (PySem.W.fnOf "trusted_numbers" "trusted_numbers" (defArgs s_trusted_numbers) (defBody s_trusted_numbers) (defScope s_trusted_numbers) .none kV_trusted_numbers dc_trusted_numbers pm_trusted_numbers an_trusted_numbers cd_trusted_numbers ct_trusted_numbers), sl_trusted_numbers⟩)
    (c_trusted_numbers : PySem.W.codeIn K cd_trusted_numbers "trusted_numbers" = true)
    (k_trusted_numbers : PySem.W.keepIn K (.ref f_trusted_numbers) = true)
    (a_unbarred_numbers : PySem.W.nsIn K mainGlobals "unbarred_numbers" = some (some (.ref f_unbarred_numbers)))
    (l_unbarred_numbers : K.lookup f_unbarred_numbers = some ⟨oc_unbarred_numbers, od_unbarred_numbers, .func (PySem.W.fnOf "unbarred_numbers" "unbarred_numbers" (defArgs s_unbarred_numbers) (defBody s_unbarred_numbers) (defScope s_unbarred_numbers) .none kV_unbarred_numbers dc_unbarred_numbers pm_unbarred_numbers an_unbarred_numbers cd_unbarred_numbers ct_unbarred_numbers), sl_unbarred_numbers⟩)
    (c_unbarred_numbers : PySem.W.codeIn K cd_unbarred_numbers "unbarred_numbers" = true)
    (k_unbarred_numbers : PySem.W.keepIn K (.ref f_unbarred_numbers) = true)
    (a_voters : PySem.W.nsIn K mainGlobals "voters" = some (some (.ref f_voters)))
    (l_voters : K.lookup f_voters = some ⟨oc_voters, od_voters, .func (PySem.W.fnOf "voters" "voters" (defArgs s_voters) (defBody s_voters) (defScope s_voters) .none kV_voters dc_voters pm_voters an_voters cd_voters ct_voters), sl_voters⟩)
    (c_voters : PySem.W.codeIn K cd_voters "voters" = true)
    (k_voters : PySem.W.keepIn K (.ref f_voters) = true)
    (a_votes_of : PySem.W.nsIn K mainGlobals "votes_of" = some (some (.ref f_votes_of)))
    (l_votes_of : K.lookup f_votes_of = some ⟨oc_votes_of, od_votes_of, .func (PySem.W.fnOf "votes_of" "votes_of" (defArgs s_votes_of) (defBody s_votes_of) (defScope s_votes_of) .none kV_votes_of dc_votes_of pm_votes_of an_votes_of cd_votes_of ct_votes_of), sl_votes_of⟩)
    (c_votes_of : PySem.W.codeIn K cd_votes_of "votes_of" = true)
    (k_votes_of : PySem.W.keepIn K (.ref f_votes_of) = true)
    (a_middle : PySem.W.nsIn K mainGlobals "middle" = some (some (.ref f_middle)))
    (l_middle : K.lookup f_middle = some ⟨oc_middle, od_middle, .func (PySem.W.fnOf "middle" "middle" (defArgs s_middle) (defBody s_middle) (defScope s_middle) .none kV_middle dc_middle pm_middle an_middle cd_middle ct_middle), sl_middle⟩)
    (c_middle : PySem.W.codeIn K cd_middle "middle" = true)
    (k_middle : PySem.W.keepIn K (.ref f_middle) = true)
    (a_is_near : PySem.W.nsIn K mainGlobals "is_near" = some (some (.ref f_is_near)))
    (l_is_near : K.lookup f_is_near = some ⟨oc_is_near, od_is_near, .func (PySem.W.fnOf "is_near" "is_near" (defArgs s_is_near) (defBody s_is_near) (defScope s_is_near) .none kV_is_near dc_is_near pm_is_near an_is_near cd_is_near ct_is_near), sl_is_near⟩)
    (c_is_near : PySem.W.codeIn K cd_is_near "is_near" = true)
    (k_is_near : PySem.W.keepIn K (.ref f_is_near) = true)
    (a_begin_state : PySem.W.nsIn K mainGlobals "begin_state" = some (some (.ref f_begin_state)))
    (l_begin_state : K.lookup f_begin_state = some ⟨oc_begin_state, od_begin_state, .func (PySem.W.fnOf "begin_state" "begin_state" (defArgs s_begin_state) (defBody s_begin_state) (defScope s_begin_state) .none kV_begin_state dc_begin_state pm_begin_state an_begin_state cd_begin_state ct_begin_state), sl_begin_state⟩)
    (c_begin_state : PySem.W.codeIn K cd_begin_state "begin_state" = true)
    (k_begin_state : PySem.W.keepIn K (.ref f_begin_state) = true)
    (a_write_event : PySem.W.nsIn K mainGlobals "write_event" = some (some (.ref f_write_event)))
    (l_write_event : K.lookup f_write_event = some ⟨oc_write_event, od_write_event, .func (PySem.W.fnOf "write_event" "write_event" (defArgs s_write_event) (defBody s_write_event) (defScope s_write_event) .none kV_write_event dc_write_event pm_write_event an_write_event cd_write_event ct_write_event), sl_write_event⟩)
    (c_write_event : PySem.W.codeIn K cd_write_event "write_event" = true)
    (k_write_event : PySem.W.keepIn K (.ref f_write_event) = true)
    (a_judge : PySem.W.nsIn K mainGlobals "judge" = some (some (.ref f_judge)))
    (l_judge : K.lookup f_judge = some ⟨oc_judge, od_judge, .func (PySem.W.fnOf "judge" "judge" (defArgs s_judge) (defBody s_judge) (defScope s_judge) .none kV_judge dc_judge pm_judge an_judge cd_judge ct_judge), sl_judge⟩)
    (c_judge : PySem.W.codeIn K cd_judge "judge" = true)
    (k_judge : PySem.W.keepIn K (.ref f_judge) = true)
    (a_judge_all : PySem.W.nsIn K mainGlobals "judge_all" = some (some (.ref f_judge_all)))
    (l_judge_all : K.lookup f_judge_all = some ⟨oc_judge_all, od_judge_all, .func (PySem.W.fnOf "judge_all" "judge_all" (defArgs s_judge_all) (defBody s_judge_all) (defScope s_judge_all) .none kV_judge_all dc_judge_all pm_judge_all an_judge_all cd_judge_all ct_judge_all), sl_judge_all⟩)
    (c_judge_all : PySem.W.codeIn K cd_judge_all "judge_all" = true)
    (k_judge_all : PySem.W.keepIn K (.ref f_judge_all) = true)
    (a_moved : PySem.W.nsIn K mainGlobals "moved" = some (some (.ref f_moved)))
    (l_moved : K.lookup f_moved = some ⟨oc_moved, od_moved, .func (PySem.W.fnOf "moved" "moved" (defArgs s_moved) (defBody s_moved) (defScope s_moved) .none kV_moved dc_moved pm_moved an_moved cd_moved ct_moved), sl_moved⟩)
    (c_moved : PySem.W.codeIn K cd_moved "moved" = true)
    (k_moved : PySem.W.keepIn K (.ref f_moved) = true)
    (a_follow : PySem.W.nsIn K mainGlobals "follow" = some (some (.ref f_follow)))
    (l_follow : K.lookup f_follow = some ⟨oc_follow, od_follow, .func (PySem.W.fnOf "follow" "follow" (defArgs s_follow) (defBody s_follow) (defScope s_follow) .none kV_follow dc_follow pm_follow an_follow cd_follow ct_follow), sl_follow⟩)
    (c_follow : PySem.W.codeIn K cd_follow "follow" = true)
    (k_follow : PySem.W.keepIn K (.ref f_follow) = true)
    (a_told : PySem.W.nsIn K mainGlobals "told" = some (some (.ref f_told)))
    (l_told : K.lookup f_told = some ⟨oc_told, od_told, .func (PySem.W.fnOf "told" "told" (defArgs s_told) (defBody s_told) (defScope s_told) .none kV_told dc_told pm_told an_told cd_told ct_told), sl_told⟩)
    (c_told : PySem.W.codeIn K cd_told "told" = true)
    (k_told : PySem.W.keepIn K (.ref f_told) = true)
    (a_take_sample : PySem.W.nsIn K mainGlobals "take_sample" = some (some (.ref f_take_sample)))
    (l_take_sample : K.lookup f_take_sample = some ⟨oc_take_sample, od_take_sample, .func (PySem.W.fnOf "take_sample" "take_sample" (defArgs s_take_sample) (defBody s_take_sample) (defScope s_take_sample) .none kV_take_sample dc_take_sample pm_take_sample an_take_sample cd_take_sample ct_take_sample), sl_take_sample⟩)
    (c_take_sample : PySem.W.codeIn K cd_take_sample "take_sample" = true)
    (k_take_sample : PySem.W.keepIn K (.ref f_take_sample) = true)
    (a_bar : PySem.W.nsIn K mainGlobals "bar" = some (some (.ref f_bar)))
    (l_bar : K.lookup f_bar = some ⟨oc_bar, od_bar, .func (PySem.W.fnOf "bar" "bar" (defArgs s_bar) (defBody s_bar) (defScope s_bar) .none kV_bar dc_bar pm_bar an_bar cd_bar ct_bar), sl_bar⟩)
    (c_bar : PySem.W.codeIn K cd_bar "bar" = true)
    (k_bar : PySem.W.keepIn K (.ref f_bar) = true)
    (a_free : PySem.W.nsIn K mainGlobals "free" = some (some (.ref f_free)))
    (l_free : K.lookup f_free = some ⟨oc_free, od_free, .func (PySem.W.fnOf "free" "free" (defArgs s_free) (defBody s_free) (defScope s_free) .none kV_free dc_free pm_free an_free cd_free ct_free), sl_free⟩)
    (c_free : PySem.W.codeIn K cd_free "free" = true)
    (k_free : PySem.W.keepIn K (.ref f_free) = true)
    (a_samples_to_change : PySem.W.nsIn K mainGlobals "samples_to_change" = some (some (.ref f_samples_to_change)))
    (l_samples_to_change : K.lookup f_samples_to_change = some ⟨oc_samples_to_change, od_samples_to_change, .func (PySem.W.fnOf "samples_to_change" "samples_to_change" (defArgs s_samples_to_change) (defBody s_samples_to_change) (defScope s_samples_to_change) .none kV_samples_to_change dc_samples_to_change pm_samples_to_change an_samples_to_change cd_samples_to_change ct_samples_to_change), sl_samples_to_change⟩)
    (c_samples_to_change : PySem.W.codeIn K cd_samples_to_change "samples_to_change" = true)
    (k_samples_to_change : PySem.W.keepIn K (.ref f_samples_to_change) = true)
    (a_trimmed_mean : PySem.W.nsIn K mainGlobals "trimmed_mean" = some (some (.ref f_trimmed_mean)))
    (l_trimmed_mean : K.lookup f_trimmed_mean = some ⟨oc_trimmed_mean, od_trimmed_mean, .func (PySem.W.fnOf "trimmed_mean" "trimmed_mean" (defArgs s_trimmed_mean) (defBody s_trimmed_mean) (defScope s_trimmed_mean) .none kV_trimmed_mean dc_trimmed_mean pm_trimmed_mean an_trimmed_mean cd_trimmed_mean ct_trimmed_mean), sl_trimmed_mean⟩)
    (c_trimmed_mean : PySem.W.codeIn K cd_trimmed_mean "trimmed_mean" = true)
    (k_trimmed_mean : PySem.W.keepIn K (.ref f_trimmed_mean) = true)
    (a_how_many_events : PySem.W.nsIn K mainGlobals "how_many_events" = some (some (.ref f_how_many_events)))
    (l_how_many_events : K.lookup f_how_many_events = some ⟨oc_how_many_events, od_how_many_events, .func (PySem.W.fnOf "how_many_events" "how_many_events" (defArgs s_how_many_events) (defBody s_how_many_events) (defScope s_how_many_events) .none kV_how_many_events dc_how_many_events pm_how_many_events an_how_many_events cd_how_many_events ct_how_many_events), sl_how_many_events⟩)
    (c_how_many_events : PySem.W.codeIn K cd_how_many_events "how_many_events" = true)
    (k_how_many_events : PySem.W.keepIn K (.ref f_how_many_events) = true)
    (a_lay_fits : PySem.W.nsIn K mainGlobals "lay_fits" = some (some (.ref f_lay_fits)))
    (l_lay_fits : K.lookup f_lay_fits = some ⟨oc_lay_fits, od_lay_fits, .func (PySem.W.fnOf "lay_fits" "lay_fits" (defArgs s_lay_fits) (defBody s_lay_fits) (defScope s_lay_fits) .none kV_lay_fits dc_lay_fits pm_lay_fits an_lay_fits cd_lay_fits ct_lay_fits), sl_lay_fits⟩)
    (c_lay_fits : PySem.W.codeIn K cd_lay_fits "lay_fits" = true)
    (k_lay_fits : PySem.W.keepIn K (.ref f_lay_fits) = true)
    (a_lay : PySem.W.nsIn K mainGlobals "lay" = some (some (.ref f_lay)))
    (l_lay : K.lookup f_lay = some ⟨oc_lay, od_lay, .func (PySem.W.fnOf "lay" "lay" (defArgs s_lay) (defBody s_lay) (defScope s_lay) .none kV_lay dc_lay pm_lay an_lay cd_lay ct_lay), sl_lay⟩)
    (c_lay : PySem.W.codeIn K cd_lay "lay" = true)
    (k_lay : PySem.W.keepIn K (.ref f_lay) = true)
    (a_reading_fits : PySem.W.nsIn K mainGlobals "reading_fits" = some (some (.ref f_reading_fits)))
    (l_reading_fits : K.lookup f_reading_fits = some ⟨oc_reading_fits, od_reading_fits, .func (PySem.W.fnOf "reading_fits" "reading_fits" (defArgs s_reading_fits) (defBody s_reading_fits) (defScope s_reading_fits) .none kV_reading_fits dc_reading_fits pm_reading_fits an_reading_fits cd_reading_fits ct_reading_fits), sl_reading_fits⟩)
    (c_reading_fits : PySem.W.codeIn K cd_reading_fits "reading_fits" = true)
    (k_reading_fits : PySem.W.keepIn K (.ref f_reading_fits) = true)
    (a_sample_fits : PySem.W.nsIn K mainGlobals "sample_fits" = some (some (.ref f_sample_fits)))
    (l_sample_fits : K.lookup f_sample_fits = some ⟨oc_sample_fits, od_sample_fits, .func (PySem.W.fnOf "sample_fits" "sample_fits" (defArgs s_sample_fits) (defBody s_sample_fits) (defScope s_sample_fits) .none kV_sample_fits dc_sample_fits pm_sample_fits an_sample_fits cd_sample_fits ct_sample_fits), sl_sample_fits⟩)
    (c_sample_fits : PySem.W.codeIn K cd_sample_fits "sample_fits" = true)
    (k_sample_fits : PySem.W.keepIn K (.ref f_sample_fits) = true)
    (a_sample : PySem.W.nsIn K mainGlobals "sample" = some (some (.ref f_sample)))
    (l_sample : K.lookup f_sample = some ⟨oc_sample, od_sample, .func (PySem.W.fnOf "sample" "sample" (defArgs s_sample) (defBody s_sample) (defScope s_sample) .none kV_sample dc_sample pm_sample an_sample cd_sample ct_sample), sl_sample⟩)
    (c_sample : PySem.W.codeIn K cd_sample "sample" = true)
    (k_sample : PySem.W.keepIn K (.ref f_sample) = true)
    (a_value : PySem.W.nsIn K mainGlobals "value" = some (some (.ref f_value)))
    (l_value : K.lookup f_value = some ⟨oc_value, od_value, .func (PySem.W.fnOf "value" "value" (defArgs s_value) (defBody s_value) (defScope s_value) .none kV_value dc_value pm_value an_value cd_value ct_value), sl_value⟩)
    (c_value : PySem.W.codeIn K cd_value "value" = true)
    (k_value : PySem.W.keepIn K (.ref f_value) = true)
    (a_sensor_state : PySem.W.nsIn K mainGlobals "sensor_state" = some (some (.ref f_sensor_state)))
    (l_sensor_state : K.lookup f_sensor_state = some ⟨oc_sensor_state, od_sensor_state, .func (PySem.W.fnOf "sensor_state" "sensor_state" (defArgs s_sensor_state) (defBody s_sensor_state) (defScope s_sensor_state) .none kV_sensor_state dc_sensor_state pm_sensor_state an_sensor_state cd_sensor_state ct_sensor_state), sl_sensor_state⟩)
    (c_sensor_state : PySem.W.codeIn K cd_sensor_state "sensor_state" = true)
    (k_sensor_state : PySem.W.keepIn K (.ref f_sensor_state) = true)
    (a_bar_sensor : PySem.W.nsIn K mainGlobals "bar_sensor" = some (some (.ref f_bar_sensor)))
    (l_bar_sensor : K.lookup f_bar_sensor = some ⟨oc_bar_sensor, od_bar_sensor, .func (PySem.W.fnOf "bar_sensor" "bar_sensor" (defArgs s_bar_sensor) (defBody s_bar_sensor) (defScope s_bar_sensor) .none kV_bar_sensor dc_bar_sensor pm_bar_sensor an_bar_sensor cd_bar_sensor ct_bar_sensor), sl_bar_sensor⟩)
    (c_bar_sensor : PySem.W.codeIn K cd_bar_sensor "bar_sensor" = true)
    (k_bar_sensor : PySem.W.keepIn K (.ref f_bar_sensor) = true)
    (a_free_sensor : PySem.W.nsIn K mainGlobals "free_sensor" = some (some (.ref f_free_sensor)))
    (l_free_sensor : K.lookup f_free_sensor = some ⟨oc_free_sensor, od_free_sensor, .func (PySem.W.fnOf "free_sensor" "free_sensor" (defArgs s_free_sensor) (defBody s_free_sensor) (defScope s_free_sensor) .none kV_free_sensor dc_free_sensor pm_free_sensor an_free_sensor cd_free_sensor ct_free_sensor), sl_free_sensor⟩)
    (c_free_sensor : PySem.W.codeIn K cd_free_sensor "free_sensor" = true)
    (k_free_sensor : PySem.W.keepIn K (.ref f_free_sensor) = true)
    (a_soonest : PySem.W.nsIn K mainGlobals "soonest" = some (some (.ref f_soonest)))
    (l_soonest : K.lookup f_soonest = some ⟨oc_soonest, od_soonest, .func (PySem.W.fnOf "soonest" "soonest" (defArgs s_soonest) (defBody s_soonest) (defScope s_soonest) .none kV_soonest dc_soonest pm_soonest an_soonest cd_soonest ct_soonest), sl_soonest⟩)
    (c_soonest : PySem.W.codeIn K cd_soonest "soonest" = true)
    (k_soonest : PySem.W.keepIn K (.ref f_soonest) = true)
    (a_answer_of_sensor : PySem.W.nsIn K mainGlobals "answer_of_sensor" = some (some (.ref f_answer_of_sensor)))
    (l_answer_of_sensor : K.lookup f_answer_of_sensor = some ⟨oc_answer_of_sensor, od_answer_of_sensor, .func (PySem.W.fnOf "answer_of_sensor" "answer_of_sensor" (defArgs s_answer_of_sensor) (defBody s_answer_of_sensor) (defScope s_answer_of_sensor) .none kV_answer_of_sensor dc_answer_of_sensor pm_answer_of_sensor an_answer_of_sensor cd_answer_of_sensor ct_answer_of_sensor), sl_answer_of_sensor⟩)
    (c_answer_of_sensor : PySem.W.codeIn K cd_answer_of_sensor "answer_of_sensor" = true)
    (k_answer_of_sensor : PySem.W.keepIn K (.ref f_answer_of_sensor) = true)
    (a_trusted_list : PySem.W.nsIn K mainGlobals "trusted_list" = some (some (.ref f_trusted_list)))
    (l_trusted_list : K.lookup f_trusted_list = some ⟨oc_trusted_list, od_trusted_list, .func (PySem.W.fnOf "trusted_list" "trusted_list" (defArgs s_trusted_list) (defBody s_trusted_list) (defScope s_trusted_list) .none kV_trusted_list dc_trusted_list pm_trusted_list an_trusted_list cd_trusted_list ct_trusted_list), sl_trusted_list⟩)
    (c_trusted_list : PySem.W.codeIn K cd_trusted_list "trusted_list" = true)
    (k_trusted_list : PySem.W.keepIn K (.ref f_trusted_list) = true)
    (a_trim : PySem.W.nsIn K mainGlobals "trim" = some (some (.ref f_trim)))
    (l_trim : K.lookup f_trim = some ⟨oc_trim, od_trim, .func (PySem.W.fnOf "trim" "trim" (defArgs s_trim) (defBody s_trim) (defScope s_trim) .none kV_trim dc_trim pm_trim an_trim cd_trim ct_trim), sl_trim⟩)
    (c_trim : PySem.W.codeIn K cd_trim "trim" = true)
    (k_trim : PySem.W.keepIn K (.ref f_trim) = true)
    (a_log : PySem.W.nsIn K mainGlobals "log" = some (some (.ref f_log)))
    (l_log : K.lookup f_log = some ⟨oc_log, od_log, .func (PySem.W.fnOf "log" "log" (defArgs s_log) (defBody s_log) (defScope s_log) .none kV_log dc_log pm_log an_log cd_log ct_log), sl_log⟩)
    (c_log : PySem.W.codeIn K cd_log "log" = true)
    (k_log : PySem.W.keepIn K (.ref f_log) = true)
    (a_totals : PySem.W.nsIn K mainGlobals "totals" = some (some (.ref f_totals)))
    (l_totals : K.lookup f_totals = some ⟨oc_totals, od_totals, .func (PySem.W.fnOf "totals" "totals" (defArgs s_totals) (defBody s_totals) (defScope s_totals) .none kV_totals dc_totals pm_totals an_totals cd_totals ct_totals), sl_totals⟩)
    (c_totals : PySem.W.codeIn K cd_totals "totals" = true)
    (k_totals : PySem.W.keepIn K (.ref f_totals) = true)
    (a_answer_laid : PySem.W.nsIn K mainGlobals "answer_laid" = some (some (.ref f_answer_laid)))
    (l_answer_laid : K.lookup f_answer_laid = some ⟨oc_answer_laid, od_answer_laid, .func (PySem.W.fnOf "answer_laid" "answer_laid" (defArgs s_answer_laid) (defBody s_answer_laid) (defScope s_answer_laid) .none kV_answer_laid dc_answer_laid pm_answer_laid an_answer_laid cd_answer_laid ct_answer_laid), sl_answer_laid⟩)
    (c_answer_laid : PySem.W.codeIn K cd_answer_laid "answer_laid" = true)
    (k_answer_laid : PySem.W.keepIn K (.ref f_answer_laid) = true)
    (a_answer_call : PySem.W.nsIn K mainGlobals "answer_call" = some (some (.ref f_answer_call)))
    (l_answer_call : K.lookup f_answer_call = some ⟨oc_answer_call, od_answer_call, .func (PySem.W.fnOf "answer_call" "answer_call" (defArgs s_answer_call) (defBody s_answer_call) (defScope s_answer_call) .none kV_answer_call dc_answer_call pm_answer_call an_answer_call cd_answer_call ct_answer_call), sl_answer_call⟩)
    (c_answer_call : PySem.W.codeIn K cd_answer_call "answer_call" = true)
    (k_answer_call : PySem.W.keepIn K (.ref f_answer_call) = true)
    (a_numbers_behind : PySem.W.nsIn K mainGlobals "numbers_behind" = some (some (.ref f_numbers_behind)))
    (l_numbers_behind : K.lookup f_numbers_behind = some ⟨oc_numbers_behind, od_numbers_behind, .func (PySem.W.fnOf "numbers_behind" "numbers_behind" (defArgs s_numbers_behind) (defBody s_numbers_behind) (defScope s_numbers_behind) .none kV_numbers_behind dc_numbers_behind pm_numbers_behind an_numbers_behind cd_numbers_behind ct_numbers_behind), sl_numbers_behind⟩)
    (c_numbers_behind : PySem.W.codeIn K cd_numbers_behind "numbers_behind" = true)
    (k_numbers_behind : PySem.W.keepIn K (.ref f_numbers_behind) = true)
    (a_answers : PySem.W.nsIn K mainGlobals "answers" = some (some (.ref f_answers)))
    (l_answers : K.lookup f_answers = some ⟨oc_answers, od_answers, .func (PySem.W.fnOf "answers" "answers" (defArgs s_answers) (defBody s_answers) (defScope s_answers) .none kV_answers dc_answers pm_answers an_answers cd_answers ct_answers), sl_answers⟩)
    (c_answers : PySem.W.codeIn K cd_answers "answers" = true)
    (k_answers : PySem.W.keepIn K (.ref f_answers) = true)
    (pg_Sensor : PySem.W.plainGet K C_Sensor Str.empty = true)
    (hd_Sensor : PySem.W.hasDictIn K C_Sensor = true)
    (po_Sensor : PySem.W.plainOver K C_Sensor = true)
    (sa_Sensor : PySem.W.findIn K (.ref C_Sensor) "__setattr__" = some (some (.builtin "object.__setattr__")))
    (mk_Sensor : PySem.W.makesIn K C_Sensor = true)
    (kc_Sensor : PySem.W.keepIn K (.ref C_Sensor) = true)
    (n_Sensor_trusted : PySem.W.findIn K (.ref C_Sensor) "trusted" = some none)
    (n_Sensor_barred : PySem.W.findIn K (.ref C_Sensor) "barred" = some none)
    (n_Sensor_bad : PySem.W.findIn K (.ref C_Sensor) "bad" = some none)
    (n_Sensor_good : PySem.W.findIn K (.ref C_Sensor) "good" = some none)
    (pg_Panel : PySem.W.plainGet K C_Panel Str.empty = true)
    (hd_Panel : PySem.W.hasDictIn K C_Panel = true)
    (po_Panel : PySem.W.plainOver K C_Panel = true)
    (sa_Panel : PySem.W.findIn K (.ref C_Panel) "__setattr__" = some (some (.builtin "object.__setattr__")))
    (mk_Panel : PySem.W.makesIn K C_Panel = true)
    (kc_Panel : PySem.W.keepIn K (.ref C_Panel) = true)
    (n_Panel_tol : PySem.W.findIn K (.ref C_Panel) "tol" = some none)
    (n_Panel_p : PySem.W.findIn K (.ref C_Panel) "p" = some none)
    (n_Panel_q : PySem.W.findIn K (.ref C_Panel) "q" = some none)
    (n_Panel_rate : PySem.W.findIn K (.ref C_Panel) "rate" = some none)
    (n_Panel_sensors : PySem.W.findIn K (.ref C_Panel) "sensors" = some none)
    (n_Panel_samples : PySem.W.findIn K (.ref C_Panel) "samples" = some none)
    (n_Panel_events : PySem.W.findIn K (.ref C_Panel) "events" = some none)
    (n_Panel_last : PySem.W.findIn K (.ref C_Panel) "last" = some none)
    (n_Panel_age : PySem.W.findIn K (.ref C_Panel) "age" = some none)
    (n_Panel_put_out : PySem.W.findIn K (.ref C_Panel) "put_out" = some none)
    (n_Panel_votes : PySem.W.findIn K (.ref C_Panel) "votes" = some none)
    (pg_Desk : PySem.W.plainGet K C_Desk Str.empty = true)
    (hd_Desk : PySem.W.hasDictIn K C_Desk = true)
    (po_Desk : PySem.W.plainOver K C_Desk = true)
    (sa_Desk : PySem.W.findIn K (.ref C_Desk) "__setattr__" = some (some (.builtin "object.__setattr__")))
    (mk_Desk : PySem.W.makesIn K C_Desk = true)
    (kc_Desk : PySem.W.keepIn K (.ref C_Desk) = true)
    (n_Desk_panel : PySem.W.findIn K (.ref C_Desk) "panel" = some none)
    (v_SHUT_OUT : PySem.W.nsIn K mainGlobals "SHUT_OUT" = some (some (.int (0) t_SHUT_OUT)))
    (v_TRUSTED_AGAIN : PySem.W.nsIn K mainGlobals "TRUSTED_AGAIN" = some (some (.int (1) t_TRUSTED_AGAIN)))
    (v_BARRED : PySem.W.nsIn K mainGlobals "BARRED" = some (some (.int (2) t_BARRED)))
    (v_FREED : PySem.W.nsIn K mainGlobals "FREED" = some (some (.int (3) t_FREED)))
    (v_LAY : PySem.W.nsIn K mainGlobals "LAY" = some (some (.int (0) t_LAY)))
    (v_SAMPLE : PySem.W.nsIn K mainGlobals "SAMPLE" = some (some (.int (1) t_SAMPLE)))
    (v_WOULD : PySem.W.nsIn K mainGlobals "WOULD" = some (some (.int (2) t_WOULD)))
    (v_VALUE : PySem.W.nsIn K mainGlobals "VALUE" = some (some (.int (3) t_VALUE)))
    (v_SENSOR : PySem.W.nsIn K mainGlobals "SENSOR" = some (some (.int (4) t_SENSOR)))
    (v_TRUSTED : PySem.W.nsIn K mainGlobals "TRUSTED" = some (some (.int (5) t_TRUSTED)))
    (v_BAR : PySem.W.nsIn K mainGlobals "BAR" = some (some (.int (6) t_BAR)))
    (v_FREE : PySem.W.nsIn K mainGlobals "FREE" = some (some (.int (7) t_FREE)))
    (v_SOONEST : PySem.W.nsIn K mainGlobals "SOONEST" = some (some (.int (8) t_SOONEST)))
    (v_TRIM : PySem.W.nsIn K mainGlobals "TRIM" = some (some (.int (9) t_TRIM)))
    (v_LOG : PySem.W.nsIn K mainGlobals "LOG" = some (some (.int (10) t_LOG)))
    (v_TOTALS : PySem.W.nsIn K mainGlobals "TOTALS" = some (some (.int (11) t_TOTALS)))
    (v_OUT_OF_RANGE : PySem.W.nsIn K mainGlobals "OUT_OF_RANGE" = some (some (.int (-1) t_OUT_OF_RANGE)))
    (v_NOTHING_LAID : PySem.W.nsIn K mainGlobals "NOTHING_LAID" = some (some (.int (-2) t_NOTHING_LAID)))
    (v_IS_BARRED : PySem.W.nsIn K mainGlobals "IS_BARRED" = some (some (.int (-3) t_IS_BARRED)))
    (v_NOT_BARRED : PySem.W.nsIn K mainGlobals "NOT_BARRED" = some (some (.int (-4) t_NOT_BARRED)))
    (v_TOO_FEW_VOTES : PySem.W.nsIn K mainGlobals "TOO_FEW_VOTES" = some (some (.int (-5) t_TOO_FEW_VOTES)))
    (v_GREATEST_READING : PySem.W.nsIn K mainGlobals "GREATEST_READING" = some (some (.int (1000000000000) t_GREATEST_READING)))
    (v_GREATEST_STEP : PySem.W.nsIn K mainGlobals "GREATEST_STEP" = some (some (.int (1000000000) t_GREATEST_STEP)))
    (v_GREATEST_TRIM : PySem.W.nsIn K mainGlobals "GREATEST_TRIM" = some (some (.int (4) t_GREATEST_TRIM)))
    (v_GREATEST_EVENT : PySem.W.nsIn K mainGlobals "GREATEST_EVENT" = some (some (.int (100000) t_GREATEST_EVENT)))
    (v_EVENTS_AT_ONCE : PySem.W.nsIn K mainGlobals "EVENTS_AT_ONCE" = some (some (.int (50) t_EVENTS_AT_ONCE)))
    (g_abs : PySem.W.nsIn K mainGlobals "abs" = some none)
    (g_all : PySem.W.nsIn K mainGlobals "all" = some none)
    (g_len : PySem.W.nsIn K mainGlobals "len" = some none)
    (g_list : PySem.W.nsIn K mainGlobals "list" = some none)
    (g_range : PySem.W.nsIn K mainGlobals "range" = some none)
    (g_sorted : PySem.W.nsIn K mainGlobals "sorted" = some none)
    (g_sum : PySem.W.nsIn K mainGlobals "sum" = some none)
    : ∃ a : Ad, Txt K mg a ∧ a.f_answers = fa ∧ (∀ (s : Shared) (us : List Value), us.length = (["calls"] : List Str).length → BindsTo s a.d_answers ⟨us, []⟩ ((["calls"] : List Str).zip us)) := by
  have e := hfa.symm.trans (PySem.W.mg_of X G a_answers)
  cases e
  have F_Sensor_init := fun_mk (st := s_Sensor_init) l_Sensor_init c_Sensor_init k_Sensor_init
  have F_Panel_init := fun_mk (st := s_Panel_init) l_Panel_init c_Panel_init k_Panel_init
  have F_Desk_init := fun_mk (st := s_Desk_init) l_Desk_init c_Desk_init k_Desk_init
  have F_copied_sensor := fun_mk (st := s_copied_sensor) l_copied_sensor c_copied_sensor k_copied_sensor
  have F_copied := fun_mk (st := s_copied) l_copied c_copied k_copied
  have F_trusted_numbers := fun_mk (st := s_trusted_numbers) l_trusted_numbers c_trusted_numbers k_trusted_numbers
  have F_unbarred_numbers := fun_mk (st := s_unbarred_numbers) l_unbarred_numbers c_unbarred_numbers k_unbarred_numbers
  have F_voters := fun_mk (st := s_voters) l_voters c_voters k_voters
  have F_votes_of := fun_mk (st := s_votes_of) l_votes_of c_votes_of k_votes_of
  have F_middle := fun_mk (st := s_middle) l_middle c_middle k_middle
  have F_is_near := fun_mk (st := s_is_near) l_is_near c_is_near k_is_near
  have F_begin_state := fun_mk (st := s_begin_state) l_begin_state c_begin_state k_begin_state
  have F_write_event := fun_mk (st := s_write_event) l_write_event c_write_event k_write_event
  have F_judge := fun_mk (st := s_judge) l_judge c_judge k_judge
  have F_judge_all := fun_mk (st := s_judge_all) l_judge_all c_judge_all k_judge_all
  have F_moved := fun_mk (st := s_moved) l_moved c_moved k_moved
  have F_follow := fun_mk (st := s_follow) l_follow c_follow k_follow
  have F_told := fun_mk (st := s_told) l_told c_told k_told
  have F_take_sample := fun_mk (st := s_take_sample) l_take_sample c_take_sample k_take_sample
  have F_bar := fun_mk (st := s_bar) l_bar c_bar k_bar
  have F_free := fun_mk (st := s_free) l_free c_free k_free
  have F_samples_to_change := fun_mk (st := s_samples_to_change) l_samples_to_change c_samples_to_change k_samples_to_change
  have F_trimmed_mean := fun_mk (st := s_trimmed_mean) l_trimmed_mean c_trimmed_mean k_trimmed_mean
  have F_how_many_events := fun_mk (st := s_how_many_events) l_how_many_events c_how_many_events k_how_many_events
  have F_lay_fits := fun_mk (st := s_lay_fits) l_lay_fits c_lay_fits k_lay_fits
  have F_lay := fun_mk (st := s_lay) l_lay c_lay k_lay
  have F_reading_fits := fun_mk (st := s_reading_fits) l_reading_fits c_reading_fits k_reading_fits
  have F_sample_fits := fun_mk (st := s_sample_fits) l_sample_fits c_sample_fits k_sample_fits
  have F_sample := fun_mk (st := s_sample) l_sample c_sample k_sample
  have F_value := fun_mk (st := s_value) l_value c_value k_value
  have F_sensor_state := fun_mk (st := s_sensor_state) l_sensor_state c_sensor_state k_sensor_state
  have F_bar_sensor := fun_mk (st := s_bar_sensor) l_bar_sensor c_bar_sensor k_bar_sensor
  have F_free_sensor := fun_mk (st := s_free_sensor) l_free_sensor c_free_sensor k_free_sensor
  have F_soonest := fun_mk (st := s_soonest) l_soonest c_soonest k_soonest
  have F_answer_of_sensor := fun_mk (st := s_answer_of_sensor) l_answer_of_sensor c_answer_of_sensor k_answer_of_sensor
  have F_trusted_list := fun_mk (st := s_trusted_list) l_trusted_list c_trusted_list k_trusted_list
  have F_trim := fun_mk (st := s_trim) l_trim c_trim k_trim
  have F_log := fun_mk (st := s_log) l_log c_log k_log
  have F_totals := fun_mk (st := s_totals) l_totals c_totals k_totals
  have F_answer_laid := fun_mk (st := s_answer_laid) l_answer_laid c_answer_laid k_answer_laid
  have F_answer_call := fun_mk (st := s_answer_call) l_answer_call c_answer_call k_answer_call
  have F_numbers_behind := fun_mk (st := s_numbers_behind) l_numbers_behind c_numbers_behind k_numbers_behind
  have F_answers := fun_mk (st := s_answers) l_answers c_answers k_answers
  refine ⟨{ C_Sensor := C_Sensor, C_Panel := C_Panel, C_UnknownCall := 0, C_Desk := C_Desk, f_Sensor_init := f_Sensor_init, d_Sensor_init := PySem.W.fnOf "__init__" "Sensor.__init__" (defArgs s_Sensor_init) (defBody s_Sensor_init) (defScope s_Sensor_init) .none kV_Sensor_init dc_Sensor_init pm_Sensor_init an_Sensor_init cd_Sensor_init ct_Sensor_init, f_Panel_init := f_Panel_init, d_Panel_init := PySem.W.fnOf "__init__" "Panel.__init__" (defArgs s_Panel_init) (defBody s_Panel_init) (defScope s_Panel_init) .none kV_Panel_init dc_Panel_init pm_Panel_init an_Panel_init cd_Panel_init ct_Panel_init, f_copied_sensor := f_copied_sensor, d_copied_sensor := PySem.W.fnOf "copied_sensor" "copied_sensor" (defArgs s_copied_sensor) (defBody s_copied_sensor) (defScope s_copied_sensor) .none kV_copied_sensor dc_copied_sensor pm_copied_sensor an_copied_sensor cd_copied_sensor ct_copied_sensor, f_copied := f_copied, d_copied := PySem.W.fnOf "copied" "copied" (defArgs s_copied) (defBody s_copied) (defScope s_copied) .none kV_copied dc_copied pm_copied an_copied cd_copied ct_copied, f_trusted_numbers := f_trusted_numbers, d_trusted_numbers := PySem.W.fnOf "trusted_numbers" "trusted_numbers" (defArgs s_trusted_numbers) (defBody s_trusted_numbers) (defScope s_trusted_numbers) .none kV_trusted_numbers dc_trusted_numbers pm_trusted_numbers an_trusted_numbers cd_trusted_numbers ct_trusted_numbers, f_unbarred_numbers := f_unbarred_numbers, d_unbarred_numbers := PySem.W.fnOf "unbarred_numbers" "unbarred_numbers" (defArgs s_unbarred_numbers) (defBody s_unbarred_numbers) (defScope s_unbarred_numbers) .none kV_unbarred_numbers dc_unbarred_numbers pm_unbarred_numbers an_unbarred_numbers cd_unbarred_numbers ct_unbarred_numbers, f_voters := f_voters, d_voters := PySem.W.fnOf "voters" "voters" (defArgs s_voters) (defBody s_voters) (defScope s_voters) .none kV_voters dc_voters pm_voters an_voters cd_voters ct_voters, f_votes_of := f_votes_of, d_votes_of := PySem.W.fnOf "votes_of" "votes_of" (defArgs s_votes_of) (defBody s_votes_of) (defScope s_votes_of) .none kV_votes_of dc_votes_of pm_votes_of an_votes_of cd_votes_of ct_votes_of, f_middle := f_middle, d_middle := PySem.W.fnOf "middle" "middle" (defArgs s_middle) (defBody s_middle) (defScope s_middle) .none kV_middle dc_middle pm_middle an_middle cd_middle ct_middle, f_is_near := f_is_near, d_is_near := PySem.W.fnOf "is_near" "is_near" (defArgs s_is_near) (defBody s_is_near) (defScope s_is_near) .none kV_is_near dc_is_near pm_is_near an_is_near cd_is_near ct_is_near, f_begin_state := f_begin_state, d_begin_state := PySem.W.fnOf "begin_state" "begin_state" (defArgs s_begin_state) (defBody s_begin_state) (defScope s_begin_state) .none kV_begin_state dc_begin_state pm_begin_state an_begin_state cd_begin_state ct_begin_state, f_write_event := f_write_event, d_write_event := PySem.W.fnOf "write_event" "write_event" (defArgs s_write_event) (defBody s_write_event) (defScope s_write_event) .none kV_write_event dc_write_event pm_write_event an_write_event cd_write_event ct_write_event, f_judge := f_judge, d_judge := PySem.W.fnOf "judge" "judge" (defArgs s_judge) (defBody s_judge) (defScope s_judge) .none kV_judge dc_judge pm_judge an_judge cd_judge ct_judge, f_judge_all := f_judge_all, d_judge_all := PySem.W.fnOf "judge_all" "judge_all" (defArgs s_judge_all) (defBody s_judge_all) (defScope s_judge_all) .none kV_judge_all dc_judge_all pm_judge_all an_judge_all cd_judge_all ct_judge_all, f_moved := f_moved, d_moved := PySem.W.fnOf "moved" "moved" (defArgs s_moved) (defBody s_moved) (defScope s_moved) .none kV_moved dc_moved pm_moved an_moved cd_moved ct_moved, f_follow := f_follow, d_follow := PySem.W.fnOf "follow" "follow" (defArgs s_follow) (defBody s_follow) (defScope s_follow) .none kV_follow dc_follow pm_follow an_follow cd_follow ct_follow, f_told := f_told, d_told := PySem.W.fnOf "told" "told" (defArgs s_told) (defBody s_told) (defScope s_told) .none kV_told dc_told pm_told an_told cd_told ct_told, f_take_sample := f_take_sample, d_take_sample := PySem.W.fnOf "take_sample" "take_sample" (defArgs s_take_sample) (defBody s_take_sample) (defScope s_take_sample) .none kV_take_sample dc_take_sample pm_take_sample an_take_sample cd_take_sample ct_take_sample, f_bar := f_bar, d_bar := PySem.W.fnOf "bar" "bar" (defArgs s_bar) (defBody s_bar) (defScope s_bar) .none kV_bar dc_bar pm_bar an_bar cd_bar ct_bar, f_free := f_free, d_free := PySem.W.fnOf "free" "free" (defArgs s_free) (defBody s_free) (defScope s_free) .none kV_free dc_free pm_free an_free cd_free ct_free, f_samples_to_change := f_samples_to_change, d_samples_to_change := PySem.W.fnOf "samples_to_change" "samples_to_change" (defArgs s_samples_to_change) (defBody s_samples_to_change) (defScope s_samples_to_change) .none kV_samples_to_change dc_samples_to_change pm_samples_to_change an_samples_to_change cd_samples_to_change ct_samples_to_change, f_trimmed_mean := f_trimmed_mean, d_trimmed_mean := PySem.W.fnOf "trimmed_mean" "trimmed_mean" (defArgs s_trimmed_mean) (defBody s_trimmed_mean) (defScope s_trimmed_mean) .none kV_trimmed_mean dc_trimmed_mean pm_trimmed_mean an_trimmed_mean cd_trimmed_mean ct_trimmed_mean, f_how_many_events := f_how_many_events, d_how_many_events := PySem.W.fnOf "how_many_events" "how_many_events" (defArgs s_how_many_events) (defBody s_how_many_events) (defScope s_how_many_events) .none kV_how_many_events dc_how_many_events pm_how_many_events an_how_many_events cd_how_many_events ct_how_many_events, f_Desk_init := f_Desk_init, d_Desk_init := PySem.W.fnOf "__init__" "Desk.__init__" (defArgs s_Desk_init) (defBody s_Desk_init) (defScope s_Desk_init) .none kV_Desk_init dc_Desk_init pm_Desk_init an_Desk_init cd_Desk_init ct_Desk_init, f_lay_fits := f_lay_fits, d_lay_fits := PySem.W.fnOf "lay_fits" "lay_fits" (defArgs s_lay_fits) (defBody s_lay_fits) (defScope s_lay_fits) .none kV_lay_fits dc_lay_fits pm_lay_fits an_lay_fits cd_lay_fits ct_lay_fits, f_lay := f_lay, d_lay := PySem.W.fnOf "lay" "lay" (defArgs s_lay) (defBody s_lay) (defScope s_lay) .none kV_lay dc_lay pm_lay an_lay cd_lay ct_lay, f_reading_fits := f_reading_fits, d_reading_fits := PySem.W.fnOf "reading_fits" "reading_fits" (defArgs s_reading_fits) (defBody s_reading_fits) (defScope s_reading_fits) .none kV_reading_fits dc_reading_fits pm_reading_fits an_reading_fits cd_reading_fits ct_reading_fits, f_sample_fits := f_sample_fits, d_sample_fits := PySem.W.fnOf "sample_fits" "sample_fits" (defArgs s_sample_fits) (defBody s_sample_fits) (defScope s_sample_fits) .none kV_sample_fits dc_sample_fits pm_sample_fits an_sample_fits cd_sample_fits ct_sample_fits, f_sample := f_sample, d_sample := PySem.W.fnOf "sample" "sample" (defArgs s_sample) (defBody s_sample) (defScope s_sample) .none kV_sample dc_sample pm_sample an_sample cd_sample ct_sample, f_value := f_value, d_value := PySem.W.fnOf "value" "value" (defArgs s_value) (defBody s_value) (defScope s_value) .none kV_value dc_value pm_value an_value cd_value ct_value, f_sensor_state := f_sensor_state, d_sensor_state := PySem.W.fnOf "sensor_state" "sensor_state" (defArgs s_sensor_state) (defBody s_sensor_state) (defScope s_sensor_state) .none kV_sensor_state dc_sensor_state pm_sensor_state an_sensor_state cd_sensor_state ct_sensor_state, f_bar_sensor := f_bar_sensor, d_bar_sensor := PySem.W.fnOf "bar_sensor" "bar_sensor" (defArgs s_bar_sensor) (defBody s_bar_sensor) (defScope s_bar_sensor) .none kV_bar_sensor dc_bar_sensor pm_bar_sensor an_bar_sensor cd_bar_sensor ct_bar_sensor, f_free_sensor := f_free_sensor, d_free_sensor := PySem.W.fnOf "free_sensor" "free_sensor" (defArgs s_free_sensor) (defBody s_free_sensor) (defScope s_free_sensor) .none kV_free_sensor dc_free_sensor pm_free_sensor an_free_sensor cd_free_sensor ct_free_sensor, f_soonest := f_soonest, d_soonest := PySem.W.fnOf "soonest" "soonest" (defArgs s_soonest) (defBody s_soonest) (defScope s_soonest) .none kV_soonest dc_soonest pm_soonest an_soonest cd_soonest ct_soonest, f_answer_of_sensor := f_answer_of_sensor, d_answer_of_sensor := PySem.W.fnOf "answer_of_sensor" "answer_of_sensor" (defArgs s_answer_of_sensor) (defBody s_answer_of_sensor) (defScope s_answer_of_sensor) .none kV_answer_of_sensor dc_answer_of_sensor pm_answer_of_sensor an_answer_of_sensor cd_answer_of_sensor ct_answer_of_sensor, f_trusted_list := f_trusted_list, d_trusted_list := PySem.W.fnOf "trusted_list" "trusted_list" (defArgs s_trusted_list) (defBody s_trusted_list) (defScope s_trusted_list) .none kV_trusted_list dc_trusted_list pm_trusted_list an_trusted_list cd_trusted_list ct_trusted_list, f_trim := f_trim, d_trim := PySem.W.fnOf "trim" "trim" (defArgs s_trim) (defBody s_trim) (defScope s_trim) .none kV_trim dc_trim pm_trim an_trim cd_trim ct_trim, f_log := f_log, d_log := PySem.W.fnOf "log" "log" (defArgs s_log) (defBody s_log) (defScope s_log) .none kV_log dc_log pm_log an_log cd_log ct_log, f_totals := f_totals, d_totals := PySem.W.fnOf "totals" "totals" (defArgs s_totals) (defBody s_totals) (defScope s_totals) .none kV_totals dc_totals pm_totals an_totals cd_totals ct_totals, f_answer_laid := f_answer_laid, d_answer_laid := PySem.W.fnOf "answer_laid" "answer_laid" (defArgs s_answer_laid) (defBody s_answer_laid) (defScope s_answer_laid) .none kV_answer_laid dc_answer_laid pm_answer_laid an_answer_laid cd_answer_laid ct_answer_laid, f_answer_call := f_answer_call, d_answer_call := PySem.W.fnOf "answer_call" "answer_call" (defArgs s_answer_call) (defBody s_answer_call) (defScope s_answer_call) .none kV_answer_call dc_answer_call pm_answer_call an_answer_call cd_answer_call ct_answer_call, f_numbers_behind := f_numbers_behind, d_numbers_behind := PySem.W.fnOf "numbers_behind" "numbers_behind" (defArgs s_numbers_behind) (defBody s_numbers_behind) (defScope s_numbers_behind) .none kV_numbers_behind dc_numbers_behind pm_numbers_behind an_numbers_behind cd_numbers_behind ct_numbers_behind, f_answers := fa, d_answers := PySem.W.fnOf "answers" "answers" (defArgs s_answers) (defBody s_answers) (defScope s_answers) .none kV_answers dc_answers pm_answers an_answers cd_answers ct_answers }, ?_, rfl, fun s us hu => match us, hu with | [_], _ => .of_eq rfl⟩
  exact {
    cl_Sensor := ⟨pg_Sensor, hd_Sensor, po_Sensor, sa_Sensor⟩,
    mg_Sensor := PySem.W.mg_of X G aC_Sensor,
    mk_Sensor := ⟨mk_Sensor, a_Sensor_init, i_Sensor_init, kc_Sensor⟩,
    n_Sensor_trusted := n_Sensor_trusted,
    n_Sensor_barred := n_Sensor_barred,
    n_Sensor_bad := n_Sensor_bad,
    n_Sensor_good := n_Sensor_good,
    cl_Panel := ⟨pg_Panel, hd_Panel, po_Panel, sa_Panel⟩,
    mg_Panel := PySem.W.mg_of X G aC_Panel,
    mk_Panel := ⟨mk_Panel, a_Panel_init, i_Panel_init, kc_Panel⟩,
    n_Panel_tol := n_Panel_tol,
    n_Panel_p := n_Panel_p,
    n_Panel_q := n_Panel_q,
    n_Panel_rate := n_Panel_rate,
    n_Panel_sensors := n_Panel_sensors,
    n_Panel_samples := n_Panel_samples,
    n_Panel_events := n_Panel_events,
    n_Panel_last := n_Panel_last,
    n_Panel_age := n_Panel_age,
    n_Panel_put_out := n_Panel_put_out,
    n_Panel_votes := n_Panel_votes,
    cl_Desk := ⟨pg_Desk, hd_Desk, po_Desk, sa_Desk⟩,
    mg_Desk := PySem.W.mg_of X G aC_Desk,
    mk_Desk := ⟨mk_Desk, a_Desk_init, i_Desk_init, kc_Desk⟩,
    n_Desk_panel := n_Desk_panel,
    F_Sensor_init := F_Sensor_init,
    b_Sensor_init := F_Sensor_init.binds (ps := ["self"]) fun _ _ _ _ _ _ us hl => match us, hl with | [_], _ => rfl,
    F_Panel_init := F_Panel_init,
    b_Panel_init := F_Panel_init.binds (ps := ["self", "n", "tol", "p", "q", "rate"]) fun _ _ _ _ _ _ us hl => match us, hl with | [_, _, _, _, _, _], _ => rfl,
    F_copied_sensor := F_copied_sensor,
    b_copied_sensor := F_copied_sensor.binds (ps := ["sensor"]) fun _ _ _ _ _ _ us hl => match us, hl with | [_], _ => rfl,
    mg_copied_sensor := PySem.W.mg_of X G a_copied_sensor,
    F_copied := F_copied,
    b_copied := F_copied.binds (ps := ["panel"]) fun _ _ _ _ _ _ us hl => match us, hl with | [_], _ => rfl,
    mg_copied := PySem.W.mg_of X G a_copied,
    F_trusted_numbers := F_trusted_numbers,
    b_trusted_numbers := F_trusted_numbers.binds (ps := ["sensors"]) fun _ _ _ _ _ _ us hl => match us, hl with | [_], _ => rfl,
    mg_trusted_numbers := PySem.W.mg_of X G a_trusted_numbers,
    F_unbarred_numbers := F_unbarred_numbers,
    b_unbarred_numbers := F_unbarred_numbers.binds (ps := ["sensors"]) fun _ _ _ _ _ _ us hl => match us, hl with | [_], _ => rfl,
    mg_unbarred_numbers := PySem.W.mg_of X G a_unbarred_numbers,
    F_voters := F_voters,
    b_voters := F_voters.binds (ps := ["sensors"]) fun _ _ _ _ _ _ us hl => match us, hl with | [_], _ => rfl,
    mg_voters := PySem.W.mg_of X G a_voters,
    F_votes_of := F_votes_of,
    b_votes_of := F_votes_of.binds (ps := ["sensors", "readings"]) fun _ _ _ _ _ _ us hl => match us, hl with | [_, _], _ => rfl,
    mg_votes_of := PySem.W.mg_of X G a_votes_of,
    F_middle := F_middle,
    b_middle := F_middle.binds (ps := ["numbers"]) fun _ _ _ _ _ _ us hl => match us, hl with | [_], _ => rfl,
    mg_middle := PySem.W.mg_of X G a_middle,
    F_is_near := F_is_near,
    b_is_near := F_is_near.binds (ps := ["reading", "voted", "tol"]) fun _ _ _ _ _ _ us hl => match us, hl with | [_, _, _], _ => rfl,
    mg_is_near := PySem.W.mg_of X G a_is_near,
    F_begin_state := F_begin_state,
    b_begin_state := F_begin_state.binds (ps := ["sensor", "trusted"]) fun _ _ _ _ _ _ us hl => match us, hl with | [_, _], _ => rfl,
    mg_begin_state := PySem.W.mg_of X G a_begin_state,
    F_write_event := F_write_event,
    b_write_event := F_write_event.binds (ps := ["panel", "i", "what"]) fun _ _ _ _ _ _ us hl => match us, hl with | [_, _, _], _ => rfl,
    mg_write_event := PySem.W.mg_of X G a_write_event,
    F_judge := F_judge,
    b_judge := F_judge.binds (ps := ["sensor", "near", "p", "q"]) fun _ _ _ _ _ _ us hl => match us, hl with | [_, _, _, _], _ => rfl,
    mg_judge := PySem.W.mg_of X G a_judge,
    F_judge_all := F_judge_all,
    b_judge_all := F_judge_all.binds (ps := ["panel", "nears"]) fun _ _ _ _ _ _ us hl => match us, hl with | [_, _], _ => rfl,
    mg_judge_all := PySem.W.mg_of X G a_judge_all,
    F_moved := F_moved,
    b_moved := F_moved.binds (ps := ["put_out", "voted", "rate"]) fun _ _ _ _ _ _ us hl => match us, hl with | [_, _, _], _ => rfl,
    mg_moved := PySem.W.mg_of X G a_moved,
    F_follow := F_follow,
    b_follow := F_follow.binds (ps := ["panel", "voted"]) fun _ _ _ _ _ _ us hl => match us, hl with | [_, _], _ => rfl,
    mg_follow := PySem.W.mg_of X G a_follow,
    F_told := F_told,
    b_told := F_told.binds (ps := ["number"]) fun _ _ _ _ _ _ us hl => match us, hl with | [_], _ => rfl,
    mg_told := PySem.W.mg_of X G a_told,
    F_take_sample := F_take_sample,
    b_take_sample := F_take_sample.binds (ps := ["panel", "readings"]) fun _ _ _ _ _ _ us hl => match us, hl with | [_, _], _ => rfl,
    mg_take_sample := PySem.W.mg_of X G a_take_sample,
    F_bar := F_bar,
    b_bar := F_bar.binds (ps := ["panel", "i"]) fun _ _ _ _ _ _ us hl => match us, hl with | [_, _], _ => rfl,
    mg_bar := PySem.W.mg_of X G a_bar,
    F_free := F_free,
    b_free := F_free.binds (ps := ["panel", "i"]) fun _ _ _ _ _ _ us hl => match us, hl with | [_, _], _ => rfl,
    mg_free := PySem.W.mg_of X G a_free,
    F_samples_to_change := F_samples_to_change,
    b_samples_to_change := F_samples_to_change.binds (ps := ["panel", "i"]) fun _ _ _ _ _ _ us hl => match us, hl with | [_, _], _ => rfl,
    mg_samples_to_change := PySem.W.mg_of X G a_samples_to_change,
    F_trimmed_mean := F_trimmed_mean,
    b_trimmed_mean := F_trimmed_mean.binds (ps := ["numbers", "f"]) fun _ _ _ _ _ _ us hl => match us, hl with | [_, _], _ => rfl,
    mg_trimmed_mean := PySem.W.mg_of X G a_trimmed_mean,
    F_how_many_events := F_how_many_events,
    b_how_many_events := F_how_many_events.binds (ps := ["panel", "what"]) fun _ _ _ _ _ _ us hl => match us, hl with | [_, _], _ => rfl,
    mg_how_many_events := PySem.W.mg_of X G a_how_many_events,
    F_Desk_init := F_Desk_init,
    b_Desk_init := F_Desk_init.binds (ps := ["self"]) fun _ _ _ _ _ _ us hl => match us, hl with | [_], _ => rfl,
    F_lay_fits := F_lay_fits,
    b_lay_fits := F_lay_fits.binds (ps := ["n", "tol", "p", "q", "rate"]) fun _ _ _ _ _ _ us hl => match us, hl with | [_, _, _, _, _], _ => rfl,
    mg_lay_fits := PySem.W.mg_of X G a_lay_fits,
    F_lay := F_lay,
    b_lay := F_lay.binds (ps := ["desk", "numbers"]) fun _ _ _ _ _ _ us hl => match us, hl with | [_, _], _ => rfl,
    mg_lay := PySem.W.mg_of X G a_lay,
    F_reading_fits := F_reading_fits,
    b_reading_fits := F_reading_fits.binds (ps := ["mark", "reading"]) fun _ _ _ _ _ _ us hl => match us, hl with | [_, _], _ => rfl,
    mg_reading_fits := PySem.W.mg_of X G a_reading_fits,
    F_sample_fits := F_sample_fits,
    b_sample_fits := F_sample_fits.binds (ps := ["row", "n"]) fun _ _ _ _ _ _ us hl => match us, hl with | [_, _], _ => rfl,
    mg_sample_fits := PySem.W.mg_of X G a_sample_fits,
    F_sample := F_sample,
    b_sample := F_sample.binds (ps := ["panel", "row"]) fun _ _ _ _ _ _ us hl => match us, hl with | [_, _], _ => rfl,
    mg_sample := PySem.W.mg_of X G a_sample,
    F_value := F_value,
    b_value := F_value.binds (ps := ["panel"]) fun _ _ _ _ _ _ us hl => match us, hl with | [_], _ => rfl,
    mg_value := PySem.W.mg_of X G a_value,
    F_sensor_state := F_sensor_state,
    b_sensor_state := F_sensor_state.binds (ps := ["sensor"]) fun _ _ _ _ _ _ us hl => match us, hl with | [_], _ => rfl,
    mg_sensor_state := PySem.W.mg_of X G a_sensor_state,
    F_bar_sensor := F_bar_sensor,
    b_bar_sensor := F_bar_sensor.binds (ps := ["panel", "i"]) fun _ _ _ _ _ _ us hl => match us, hl with | [_, _], _ => rfl,
    mg_bar_sensor := PySem.W.mg_of X G a_bar_sensor,
    F_free_sensor := F_free_sensor,
    b_free_sensor := F_free_sensor.binds (ps := ["panel", "i"]) fun _ _ _ _ _ _ us hl => match us, hl with | [_, _], _ => rfl,
    mg_free_sensor := PySem.W.mg_of X G a_free_sensor,
    F_soonest := F_soonest,
    b_soonest := F_soonest.binds (ps := ["panel", "i"]) fun _ _ _ _ _ _ us hl => match us, hl with | [_, _], _ => rfl,
    mg_soonest := PySem.W.mg_of X G a_soonest,
    F_answer_of_sensor := F_answer_of_sensor,
    b_answer_of_sensor := F_answer_of_sensor.binds (ps := ["panel", "call", "i"]) fun _ _ _ _ _ _ us hl => match us, hl with | [_, _, _], _ => rfl,
    mg_answer_of_sensor := PySem.W.mg_of X G a_answer_of_sensor,
    F_trusted_list := F_trusted_list,
    b_trusted_list := F_trusted_list.binds (ps := ["panel"]) fun _ _ _ _ _ _ us hl => match us, hl with | [_], _ => rfl,
    mg_trusted_list := PySem.W.mg_of X G a_trusted_list,
    F_trim := F_trim,
    b_trim := F_trim.binds (ps := ["panel", "f"]) fun _ _ _ _ _ _ us hl => match us, hl with | [_, _], _ => rfl,
    mg_trim := PySem.W.mg_of X G a_trim,
    F_log := F_log,
    b_log := F_log.binds (ps := ["panel", "k"]) fun _ _ _ _ _ _ us hl => match us, hl with | [_, _], _ => rfl,
    mg_log := PySem.W.mg_of X G a_log,
    F_totals := F_totals,
    b_totals := F_totals.binds (ps := ["panel"]) fun _ _ _ _ _ _ us hl => match us, hl with | [_], _ => rfl,
    mg_totals := PySem.W.mg_of X G a_totals,
    F_answer_laid := F_answer_laid,
    b_answer_laid := F_answer_laid.binds (ps := ["panel", "call", "numbers"]) fun _ _ _ _ _ _ us hl => match us, hl with | [_, _, _], _ => rfl,
    mg_answer_laid := PySem.W.mg_of X G a_answer_laid,
    F_answer_call := F_answer_call,
    b_answer_call := F_answer_call.binds (ps := ["desk", "call", "numbers"]) fun _ _ _ _ _ _ us hl => match us, hl with | [_, _, _], _ => rfl,
    mg_answer_call := PySem.W.mg_of X G a_answer_call,
    F_numbers_behind := F_numbers_behind,
    b_numbers_behind := F_numbers_behind.binds (ps := ["calls", "at"]) fun _ _ _ _ _ _ us hl => match us, hl with | [_, _], _ => rfl,
    mg_numbers_behind := PySem.W.mg_of X G a_numbers_behind,
    F_answers := F_answers,
    b_answers := F_answers.binds (ps := ["calls"]) fun _ _ _ _ _ _ us hl => match us, hl with | [_], _ => rfl,
    mg_answers := PySem.W.mg_of X G a_answers,
    c_SHUT_OUT := ⟨_, PySem.W.mg_of X G v_SHUT_OUT⟩,
    c_TRUSTED_AGAIN := ⟨_, PySem.W.mg_of X G v_TRUSTED_AGAIN⟩,
    c_BARRED := ⟨_, PySem.W.mg_of X G v_BARRED⟩,
    c_FREED := ⟨_, PySem.W.mg_of X G v_FREED⟩,
    c_LAY := ⟨_, PySem.W.mg_of X G v_LAY⟩,
    c_SAMPLE := ⟨_, PySem.W.mg_of X G v_SAMPLE⟩,
    c_WOULD := ⟨_, PySem.W.mg_of X G v_WOULD⟩,
    c_VALUE := ⟨_, PySem.W.mg_of X G v_VALUE⟩,
    c_SENSOR := ⟨_, PySem.W.mg_of X G v_SENSOR⟩,
    c_TRUSTED := ⟨_, PySem.W.mg_of X G v_TRUSTED⟩,
    c_BAR := ⟨_, PySem.W.mg_of X G v_BAR⟩,
    c_FREE := ⟨_, PySem.W.mg_of X G v_FREE⟩,
    c_SOONEST := ⟨_, PySem.W.mg_of X G v_SOONEST⟩,
    c_TRIM := ⟨_, PySem.W.mg_of X G v_TRIM⟩,
    c_LOG := ⟨_, PySem.W.mg_of X G v_LOG⟩,
    c_TOTALS := ⟨_, PySem.W.mg_of X G v_TOTALS⟩,
    c_OUT_OF_RANGE := ⟨_, PySem.W.mg_of X G v_OUT_OF_RANGE⟩,
    c_NOTHING_LAID := ⟨_, PySem.W.mg_of X G v_NOTHING_LAID⟩,
    c_IS_BARRED := ⟨_, PySem.W.mg_of X G v_IS_BARRED⟩,
    c_NOT_BARRED := ⟨_, PySem.W.mg_of X G v_NOT_BARRED⟩,
    c_TOO_FEW_VOTES := ⟨_, PySem.W.mg_of X G v_TOO_FEW_VOTES⟩,
    c_GREATEST_READING := ⟨_, PySem.W.mg_of X G v_GREATEST_READING⟩,
    c_GREATEST_STEP := ⟨_, PySem.W.mg_of X G v_GREATEST_STEP⟩,
    c_GREATEST_TRIM := ⟨_, PySem.W.mg_of X G v_GREATEST_TRIM⟩,
    c_GREATEST_EVENT := ⟨_, PySem.W.mg_of X G v_GREATEST_EVENT⟩,
    c_EVENTS_AT_ONCE := ⟨_, PySem.W.mg_of X G v_EVENTS_AT_ONCE⟩,
    g_abs := PySem.W.mg_none_of X G g_abs,
    g_all := PySem.W.mg_none_of X G g_all,
    g_len := PySem.W.mg_none_of X G g_len,
    g_list := PySem.W.mg_none_of X G g_list,
    g_range := PySem.W.mg_none_of X G g_range,
    g_sorted := PySem.W.mg_none_of X G g_sorted,
    g_sum := PySem.W.mg_none_of X G g_sum }
theorem fin {P : Program} {w : World} {K : PySem.W.Frag} {mg : Str → Option Value} {fa : Addr} (h : ∃ a : Ad, Txt K mg a ∧ a.f_answers = fa ∧ (∀ (s : Shared) (us : List Value), us.length = (["calls"] : List Str).length → BindsTo s a.d_answers ⟨us, []⟩ ((["calls"] : List Str).zip us))) :
    ∃ fd : FuncData, (∀ (s : Shared) (us : List Value), us.length = (["calls"] : List Str).length → BindsTo s fd ⟨us, []⟩ ((["calls"] : List Str).zip us)) ∧ ∀ base : Heap, K.In base → base.Ns mainGlobals mg → FnOk P w K mg base CX0 8 fa fd ["calls"] (spAns K) := by
  obtain ⟨a, T, rfl, hb⟩ := h
  exact ⟨a.d_answers, hb, fun base _ _ => ok_answers T⟩
end Vt
open PySem PySem.W PyProof.Rows
set_option maxRecDepth 100000 in
set_option maxHeartbeats 0 in
theorem PySem.Challenge.cw_votedsensors_s01_answers_holds : PySem.Challenge.rw_votedsensors_s01_answers.Holds := by
  w_on; k_headS; (case hw => exact ⟨[.list [.int 3]], by decide +kernel, by decide +kernel⟩)
  k_fillS
  refine L2.walk_specK (r := PySem.Challenge.rw_votedsensors_s01_answers) (k := 8) (CX := L2.CX0) (ps := ["calls"]) (sp := Vt.spAns) (by decide +kernel) rfl rfl ⟨rfl, by decide, by decide⟩ (fun w h Y => PySem.W.kIn_of Y) ?F ?S (fun _ _ _ _ z => z)
  case F =>
    intro w mg fa h Y KX G hmg
    refine' Vt.fin (Vt.txt_mk KX G hmg ?aC_Sensor ?aC_Panel ?aC_Desk ?a_Sensor_init ?i_Sensor_init ?l_Sensor_init ?c_Sensor_init ?k_Sensor_init ?a_Panel_init ?i_Panel_init ?l_Panel_init ?c_Panel_init ?k_Panel_init ?a_Desk_init ?i_Desk_init ?l_Desk_init ?c_Desk_init ?k_Desk_init ?a_copied_sensor ?l_copied_sensor ?c_copied_sensor ?k_copied_sensor ?a_copied ?l_copied ?c_copied ?k_copied ?a_trusted_numbers ?l_trusted_numbers ?c_trusted_numbers ?k_trusted_numbers ?a_unbarred_numbers ?l_unbarred_numbers ?c_unbarred_numbers ?k_unbarred_numbers ?a_voters ?l_voters ?c_voters ?k_voters ?a_votes_of ?l_votes_of ?c_votes_of ?k_votes_of ?a_middle ?l_middle ?c_middle ?k_middle ?a_is_near ?l_is_near ?c_is_near ?k_is_near ?a_begin_state ?l_begin_state ?c_begin_state ?k_begin_state ?a_write_event ?l_write_event ?c_write_event ?k_write_event ?a_judge ?l_judge ?c_judge ?k_judge ?a_judge_all ?l_judge_all ?c_judge_all ?k_judge_all ?a_moved ?l_moved ?c_moved ?k_moved ?a_follow ?l_follow ?c_follow ?k_follow ?a_told ?l_told ?c_told ?k_told ?a_take_sample ?l_take_sample ?c_take_sample ?k_take_sample ?a_bar ?l_bar ?c_bar ?k_bar ?a_free ?l_free ?c_free ?k_free ?a_samples_to_change ?l_samples_to_change ?c_samples_to_change ?k_samples_to_change ?a_trimmed_mean ?l_trimmed_mean ?c_trimmed_mean ?k_trimmed_mean ?a_how_many_events ?l_how_many_events ?c_how_many_events ?k_how_many_events ?a_lay_fits ?l_lay_fits ?c_lay_fits ?k_lay_fits ?a_lay ?l_lay ?c_lay ?k_lay ?a_reading_fits ?l_reading_fits ?c_reading_fits ?k_reading_fits ?a_sample_fits ?l_sample_fits ?c_sample_fits ?k_sample_fits ?a_sample ?l_sample ?c_sample ?k_sample ?a_value ?l_value ?c_value ?k_value ?a_sensor_state ?l_sensor_state ?c_sensor_state ?k_sensor_state ?a_bar_sensor ?l_bar_sensor ?c_bar_sensor ?k_bar_sensor ?a_free_sensor ?l_free_sensor ?c_free_sensor ?k_free_sensor ?a_soonest ?l_soonest ?c_soonest ?k_soonest ?a_answer_of_sensor ?l_answer_of_sensor ?c_answer_of_sensor ?k_answer_of_sensor ?a_trusted_list ?l_trusted_list ?c_trusted_list ?k_trusted_list ?a_trim ?l_trim ?c_trim ?k_trim ?a_log ?l_log ?c_log ?k_log ?a_totals ?l_totals ?c_totals ?k_totals ?a_answer_laid ?l_answer_laid ?c_answer_laid ?k_answer_laid ?a_answer_call ?l_answer_call ?c_answer_call ?k_answer_call ?a_numbers_behind ?l_numbers_behind ?c_numbers_behind ?k_numbers_behind ?a_answers ?l_answers ?c_answers ?k_answers ?pg_Sensor ?hd_Sensor ?po_Sensor ?sa_Sensor ?mk_Sensor ?kc_Sensor ?n_Sensor_trusted ?n_Sensor_barred ?n_Sensor_bad ?n_Sensor_good ?pg_Panel ?hd_Panel ?po_Panel ?sa_Panel ?mk_Panel ?kc_Panel ?n_Panel_tol ?n_Panel_p ?n_Panel_q ?n_Panel_rate ?n_Panel_sensors ?n_Panel_samples ?n_Panel_events ?n_Panel_last ?n_Panel_age ?n_Panel_put_out ?n_Panel_votes ?pg_Desk ?hd_Desk ?po_Desk ?sa_Desk ?mk_Desk ?kc_Desk ?n_Desk_panel ?v_SHUT_OUT ?v_TRUSTED_AGAIN ?v_BARRED ?v_FREED ?v_LAY ?v_SAMPLE ?v_WOULD ?v_VALUE ?v_SENSOR ?v_TRUSTED ?v_BAR ?v_FREE ?v_SOONEST ?v_TRIM ?v_LOG ?v_TOTALS ?v_OUT_OF_RANGE ?v_NOTHING_LAID ?v_IS_BARRED ?v_NOT_BARRED ?v_TOO_FEW_VOTES ?v_GREATEST_READING ?v_GREATEST_STEP ?v_GREATEST_TRIM ?v_GREATEST_EVENT ?v_EVENTS_AT_ONCE ?g_abs ?g_all ?g_len ?g_list ?g_range ?g_sorted ?g_sum)
    (case aC_Sensor => k_is)
    (case aC_Panel => k_is)
    (case aC_Desk => k_is)
    (case a_Sensor_init => k_is)
    (case i_Sensor_init => k_is)
    (case l_Sensor_init => k_is)
    (case c_Sensor_init => k_is)
    (case k_Sensor_init => k_is)
    (case a_Panel_init => k_is)
    (case i_Panel_init => k_is)
    (case l_Panel_init => k_is)
    (case c_Panel_init => k_is)
    (case k_Panel_init => k_is)
    (case a_Desk_init => k_is)
    (case i_Desk_init => k_is)
    (case l_Desk_init => k_is)
    (case c_Desk_init => k_is)
    (case k_Desk_init => k_is)
    (case a_copied_sensor => k_is)
    (case l_copied_sensor => k_is)
    (case c_copied_sensor => k_is)
    (case k_copied_sensor => k_is)
    (case a_copied => k_is)
    (case l_copied => k_is)
    (case c_copied => k_is)
    (case k_copied => k_is)
    (case a_trusted_numbers => k_is)
    (case l_trusted_numbers => k_is)
    (case c_trusted_numbers => k_is)
    (case k_trusted_numbers => k_is)
    (case a_unbarred_numbers => k_is)
    (case l_unbarred_numbers => k_is)
    (case c_unbarred_numbers => k_is)
    (case k_unbarred_numbers => k_is)
    (case a_voters => k_is)
    (case l_voters => k_is)
    (case c_voters => k_is)
    (case k_voters => k_is)
    (case a_votes_of => k_is)
    (case l_votes_of => k_is)
    (case c_votes_of => k_is)
    (case k_votes_of => k_is)
    (case a_middle => k_is)
    (case l_middle => k_is)
    (case c_middle => k_is)
    (case k_middle => k_is)
    (case a_is_near => k_is)
    (case l_is_near => k_is)
    (case c_is_near => k_is)
    (case k_is_near => k_is)
    (case a_begin_state => k_is)
    (case l_begin_state => k_is)
    (case c_begin_state => k_is)
    (case k_begin_state => k_is)
    (case a_write_event => k_is)
    (case l_write_event => k_is)
    (case c_write_event => k_is)
    (case k_write_event => k_is)
    (case a_judge => k_is)
    (case l_judge => k_is)
    (case c_judge => k_is)
    (case k_judge => k_is)
    (case a_judge_all => k_is)
    (case l_judge_all => k_is)
    (case c_judge_all => k_is)
    (case k_judge_all => k_is)
    (case a_moved => k_is)
    (case l_moved => k_is)
    (case c_moved => k_is)
    (case k_moved => k_is)
    (case a_follow => k_is)
    (case l_follow => k_is)
    (case c_follow => k_is)
    (case k_follow => k_is)
    (case a_told => k_is)
    (case l_told => k_is)
    (case c_told => k_is)
    (case k_told => k_is)
    (case a_take_sample => k_is)
    (case l_take_sample => k_is)
    (case c_take_sample => k_is)
    (case k_take_sample => k_is)
    (case a_bar => k_is)
    (case l_bar => k_is)
    (case c_bar => k_is)
    (case k_bar => k_is)
    (case a_free => k_is)
    (case l_free => k_is)
    (case c_free => k_is)
    (case k_free => k_is)
    (case a_samples_to_change => k_is)
    (case l_samples_to_change => k_is)
    (case c_samples_to_change => k_is)
    (case k_samples_to_change => k_is)
    (case a_trimmed_mean => k_is)
    (case l_trimmed_mean => k_is)
    (case c_trimmed_mean => k_is)
    (case k_trimmed_mean => k_is)
    (case a_how_many_events => k_is)
    (case l_how_many_events => k_is)
    (case c_how_many_events => k_is)
    (case k_how_many_events => k_is)
    (case a_lay_fits => k_is)
    (case l_lay_fits => k_is)
    (case c_lay_fits => k_is)
    (case k_lay_fits => k_is)
    (case a_lay => k_is)
    (case l_lay => k_is)
    (case c_lay => k_is)
    (case k_lay => k_is)
    (case a_reading_fits => k_is)
    (case l_reading_fits => k_is)
    (case c_reading_fits => k_is)
    (case k_reading_fits => k_is)
    (case a_sample_fits => k_is)
    (case l_sample_fits => k_is)
    (case c_sample_fits => k_is)
    (case k_sample_fits => k_is)
    (case a_sample => k_is)
    (case l_sample => k_is)
    (case c_sample => k_is)
    (case k_sample => k_is)
    (case a_value => k_is)
    (case l_value => k_is)
    (case c_value => k_is)
    (case k_value => k_is)
    (case a_sensor_state => k_is)
    (case l_sensor_state => k_is)
    (case c_sensor_state => k_is)
    (case k_sensor_state => k_is)
    (case a_bar_sensor => k_is)
    (case l_bar_sensor => k_is)
    (case c_bar_sensor => k_is)
    (case k_bar_sensor => k_is)
    (case a_free_sensor => k_is)
    (case l_free_sensor => k_is)
    (case c_free_sensor => k_is)
    (case k_free_sensor => k_is)
    (case a_soonest => k_is)
    (case l_soonest => k_is)
    (case c_soonest => k_is)
    (case k_soonest => k_is)
    (case a_answer_of_sensor => k_is)
    (case l_answer_of_sensor => k_is)
    (case c_answer_of_sensor => k_is)
    (case k_answer_of_sensor => k_is)
    (case a_trusted_list => k_is)
    (case l_trusted_list => k_is)
    (case c_trusted_list => k_is)
    (case k_trusted_list => k_is)
    (case a_trim => k_is)
    (case l_trim => k_is)
    (case c_trim => k_is)
    (case k_trim => k_is)
    (case a_log => k_is)
    (case l_log => k_is)
    (case c_log => k_is)
    (case k_log => k_is)
    (case a_totals => k_is)
    (case l_totals => k_is)
    (case c_totals => k_is)
    (case k_totals => k_is)
    (case a_answer_laid => k_is)
    (case l_answer_laid => k_is)
    (case c_answer_laid => k_is)
    (case k_answer_laid => k_is)
    (case a_answer_call => k_is)
    (case l_answer_call => k_is)
    (case c_answer_call => k_is)
    (case k_answer_call => k_is)
    (case a_numbers_behind => k_is)
    (case l_numbers_behind => k_is)
    (case c_numbers_behind => k_is)
    (case k_numbers_behind => k_is)
    (case a_answers => k_is)
    (case l_answers => k_is)
    (case c_answers => k_is)
    (case k_answers => k_is)
    (case pg_Sensor => k_is)
    (case hd_Sensor => k_is)
    (case po_Sensor => k_is)
    (case sa_Sensor => k_is)
    (case mk_Sensor => k_is)
    (case kc_Sensor => k_is)
    (case n_Sensor_trusted => k_is)
    (case n_Sensor_barred => k_is)
    (case n_Sensor_bad => k_is)
    (case n_Sensor_good => k_is)
    (case pg_Panel => k_is)
    (case hd_Panel => k_is)
    (case po_Panel => k_is)
    (case sa_Panel => k_is)
    (case mk_Panel => k_is)
    (case kc_Panel => k_is)
    (case n_Panel_tol => k_is)
    (case n_Panel_p => k_is)
    (case n_Panel_q => k_is)
    (case n_Panel_rate => k_is)
    (case n_Panel_sensors => k_is)
    (case n_Panel_samples => k_is)
    (case n_Panel_events => k_is)
    (case n_Panel_last => k_is)
    (case n_Panel_age => k_is)
    (case n_Panel_put_out => k_is)
    (case n_Panel_votes => k_is)
    (case pg_Desk => k_is)
    (case hd_Desk => k_is)
    (case po_Desk => k_is)
    (case sa_Desk => k_is)
    (case mk_Desk => k_is)
    (case kc_Desk => k_is)
    (case n_Desk_panel => k_is)
    (case v_SHUT_OUT => k_is)
    (case v_TRUSTED_AGAIN => k_is)
    (case v_BARRED => k_is)
    (case v_FREED => k_is)
    (case v_LAY => k_is)
    (case v_SAMPLE => k_is)
    (case v_WOULD => k_is)
    (case v_VALUE => k_is)
    (case v_SENSOR => k_is)
    (case v_TRUSTED => k_is)
    (case v_BAR => k_is)
    (case v_FREE => k_is)
    (case v_SOONEST => k_is)
    (case v_TRIM => k_is)
    (case v_LOG => k_is)
    (case v_TOTALS => k_is)
    (case v_OUT_OF_RANGE => k_is)
    (case v_NOTHING_LAID => k_is)
    (case v_IS_BARRED => k_is)
    (case v_NOT_BARRED => k_is)
    (case v_TOO_FEW_VOTES => k_is)
    (case v_GREATEST_READING => k_is)
    (case v_GREATEST_STEP => k_is)
    (case v_GREATEST_TRIM => k_is)
    (case v_GREATEST_EVENT => k_is)
    (case v_EVENTS_AT_ONCE => k_is)
    (case g_abs => k_is)
    (case g_all => k_is)
    (case g_len => k_is)
    (case g_list => k_is)
    (case g_range => k_is)
    (case g_sorted => k_is)
    (case g_sum => k_is)
  case S =>
    intro K H xs a hO hwi hask hx
    cases hx with
    | cons h1 h2 =>
      cases h2
      cases h1 with
      | lst hs ha =>
        have e := L2.ints_dw a.1 _ ha
        subst e
        have q : ((PySem.W.Codec.inLen 0 16000 a.1 && a.1.all (PySem.W.Codec.inInt (-1000000000000000000) 1000000000000000000)) && true) = true := hwi
        rw [Bool.and_eq_true, Bool.and_eq_true] at q
        exact ⟨_, a.1, rfl, hs, (PySem.W.Codec.inNat_iff.mp q.1.1).2, hask, fun H' p hp => .lst (L2.SqL.of hp) (L2.dw_ints _)⟩
#print axioms PySem.Challenge.cw_votedsensors_s01_answers_holds

