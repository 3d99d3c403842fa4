import PyProof.Rows.All
import Wide.All
import OpenK.AllK
import Wide.FinOn
import Lean
import PyProof.EqAt
import PyProof.EqKinds
import PyProof.TupleCall
import KE.KSortTup
import PySem.Challenge.RW_purse_k31_groups_found
set_option Elab.async false
set_option linter.all false
set_option maxRecDepth 100000
/-! THE HAND LAYER, for ints, bools, texts, own classes, LISTS and tuples (index, slices, in, append, pop ..), calls, loops. Paste it whole ahead of your own text; what your proof does not reach may be deleted. -/
namespace L2
open PySem PySem.Spec PyProof.Rows

/-- a key: an int or a str -/
noncomputable abbrev Key := Sum Int Str
noncomputable def keyIs : Key → Value → Bool
  | .inl k, v => Value.isInt k v
  | .inr x, v => Value.isStrOf x v
noncomputable def keyH (w : World) : Key → Int
  | .inl k => hashInt k
  | .inr x => hashStr w x
theorem keyIs_shape : ∀ {k : Key} {v : Value}, keyIs k v = true → (∃ i t, k = Sum.inl i ∧ v = Value.int i t) ∨ (∃ x t, k = Sum.inr x ∧ v = Value.str x t)
  | .inl i, v, h => by
    obtain ⟨t, e⟩ := Value.isInt_shape (k := i) (v := v) h
    exact .inl ⟨i, t, rfl, e⟩
  | .inr x, v, h => by
    obtain ⟨t, e⟩ := Value.isStrOf_shape (x := x) (v := v) h
    exact .inr ⟨x, t, rfl, e⟩
theorem key_ll (a b : Int) : decide ((Sum.inl a : Key) = Sum.inl b) = (a == b) := by
  by_cases e : a = b
  · subst e; simp
  · have h : ¬ (Sum.inl a : Key) = Sum.inl b := fun q => e (Sum.inl.inj q)
    rw [decide_eq_false h]
    exact (beq_eq_false_iff_ne.mpr e).symm
theorem key_rr (a b : Str) : decide ((Sum.inr a : Key) = Sum.inr b) = decide (a = b) := by
  by_cases e : a = b
  · subst e; simp
  · have h : ¬ (Sum.inr a : Key) = Sum.inr b := fun q => e (Sum.inr.inj q)
    rw [decide_eq_false h, decide_eq_false e]
theorem key_lr (a : Int) (b : Str) : decide ((Sum.inl a : Key) = Sum.inr b) = false := decide_eq_false (fun q => nomatch q)
theorem key_rl (a : Str) (b : Int) : decide ((Sum.inr a : Key) = Sum.inl b) = false := decide_eq_false (fun q => nomatch q)

noncomputable def mixKind (prog : Program) (w : World) : PySem.KeyKind prog w Key where
  is := keyIs
  hash := keyH w
  inj := fun v a b ha hb => by
    rcases keyIs_shape ha with ⟨i, t, rfl, rfl⟩ | ⟨x, t, rfl, rfl⟩
    · rcases keyIs_shape hb with ⟨j, u, rfl, e⟩ | ⟨y, u, rfl, e⟩
      · injection e with e1 _; rw [e1]
      · exact nomatch e
    · rcases keyIs_shape hb with ⟨j, u, rfl, e⟩ | ⟨y, u, rfl, e⟩
      · exact nomatch e
      · injection e with e1 _; rw [e1]
  byValue := fun k v h => by
    rcases keyIs_shape h with ⟨i, t, rfl, rfl⟩ | ⟨x, t, rfl, rfl⟩ <;> rfl
  pyHash := fun hv h => by
    rcases keyIs_shape hv with ⟨i, t, rfl, rfl⟩ | ⟨x, t, rfl, rfl⟩
    · exact wpAny_pyHash_int h
    · exact wpAny_pyHash_str h
  eqBool := fun hu hv h => by
    rcases keyIs_shape hu with ⟨i, t, rfl, rfl⟩ | ⟨x, t, rfl, rfl⟩
    · rcases keyIs_shape hv with ⟨j, u, rfl, rfl⟩ | ⟨y, u, rfl, rfl⟩
      · rw [key_ll] at h; exact wpAny_eqBool_int h
      · rw [key_lr] at h; exact SeqAt.EqAt.int_str i t y u _ _ _ _ h
    · rcases keyIs_shape hv with ⟨j, u, rfl, rfl⟩ | ⟨y, u, rfl, rfl⟩
      · rw [key_rl] at h; exact SeqAt.EqAt.str_int x t j u _ _ _ _ h
      · rw [key_rr] at h; exact wpAny_eqBool_str h
  «strs» := fun k x t v h => by
    rcases keyIs_shape h with ⟨i, u, rfl, e⟩ | ⟨y, u, rfl, e⟩
    · exact nomatch e
    · injection e with e1 _
      subst e1
      cases v <;> rfl

end L2

namespace L2
open PySem PySem.Spec PyProof.Rows

/-- a value, without the heap -/
inductive V where
  | non | bl (b : Bool) | int (i : Int) | str (x : Str) | byt (b : Array UInt8) | flt (b : UInt64) | ref (a : Addr) | ty (n : String)
  deriving DecidableEq

noncomputable def RelV : V → Value → Prop
  | .non, u => u = Value.none
  | .bl b, u => u = Value.bool b
  | .int i, u => ∃ t, u = Value.int i t
  | .str x, u => ∃ t, u = Value.str x t
  | .byt b, u => ∃ t, u = Value.bytes b t
  | .flt b, u => ∃ t, u = Value.float b t
  | .ref a, u => u = Value.ref a
  | .ty n, u => u = Value.type n

noncomputable abbrev Vals : List V → List Value → Prop := Paired RelV
theorem Vals.length {xs : List V} {us : List Value} (r : Vals xs us) : xs.length = us.length := Paired.length r
theorem Vals.get : ∀ {xs : List V} {us : List Value} {i : Nat} {x : V}, Vals xs us → xs[i]? = some x → ∃ u, us[i]? = some u ∧ RelV x u
  | _, _, _, _, .nil, e => by simp at e
  | _, _, 0, _, .cons r _, e => by simp at e; subst e; exact ⟨_, rfl, r⟩
  | _, _, i + 1, x, .cons _ t, e => by
    obtain ⟨u, h1, h2⟩ := Vals.get (i := i) (x := x) t (by simpa using e)
    exact ⟨u, by simpa using h1, h2⟩
theorem Vals.append : ∀ {xs ys : List V} {us ws : List Value}, Vals xs us → Vals ys ws → Vals (xs ++ ys) (us ++ ws)
  | _, _, _, _, .nil, s => s
  | _, _, _, _, .cons r t, s => .cons r (Vals.append t s)
theorem Vals.take : ∀ {xs : List V} {us : List Value} (n : Nat), Vals xs us → Vals (xs.take n) (us.take n)
  | _, _, 0, _ => .nil
  | _, _, _ + 1, .nil => .nil
  | _, _, n + 1, .cons r t => .cons r (Vals.take n t)
theorem Vals.drop : ∀ {xs : List V} {us : List Value} (n : Nat), Vals xs us → Vals (xs.drop n) (us.drop n)
  | _, _, 0, r => r
  | _, _, _ + 1, .nil => .nil
  | _, _, n + 1, .cons _ t => Vals.drop n t

noncomputable def RelO : Option V → Option Value → Prop
  | some v, some u => RelV v u
  | none, none => True
  | _, _ => False
noncomputable def KV {κ : Type} : List (κ × V) → List (κ × Value) → Prop := Paired fun (p : κ × V) (q : κ × Value) => p.1 = q.1 ∧ RelV p.2 q.2

/-- a key of a dict (00_mix): an int or a text -/
noncomputable def kV : Key → V
  | .inl i => .int i
  | .inr x => .str x

/-- what stands at a tracked address -/
inductive HO where
  /-- a list -/
  | lst (xs : List V)
  /-- a tuple (never changes) -/
  | tup (xs : List V)
  /-- a dict whose keys are ints and texts; one whose keys are tuples of ints and texts (the empty one is both) -/
  | dK (kvs : List (Key × V)) | dT (kvs : List (List Key × V))
  /-- a set of ints: its members, its size -/
  | set (S : Int → Bool) (n : Nat)
  /-- an instance of the class at C, its dict at dx, its attributes -/
  | ins (C dx : Addr) (fs : List (Str × V))
  /-- the dict of the instance at x -/
  | own (x : Addr)
  /-- the dict of an exception -/
  | xd (fs : List (Str × V))
  /-- a bound method, f of x -/
  | met (f x : Addr)
  /-- a range object lo, lo + 1, .. below hi -/
  | rng (lo hi : Int)
  /-- a thing that is known to the object (the script; a dict while a loop walks it): read, never written while it is so -/
  | frz (o : Obj) (u : HO)
  /-- a code object's table -/
  | tbl (ps : Array Value)
  /-- any other thing, by what is true of its one object (a def of one's own: SetO a S n := HO.ext fun h => ..) -/
  | ext (φ : Heap → Prop)

noncomputable abbrev Hp := Addr → Option HO
noncomputable def upd (H : Hp) (a : Addr) (o : HO) : Hp := fun b => if b = a then some o else H b
theorem upd_same {H : Hp} {a : Addr} {o : HO} : upd H a o a = some o := by unfold upd; rw [if_pos rfl]
theorem upd_ne {H : Hp} {a b : Addr} {o : HO} (h : b ≠ a) : upd H a o b = H b := by unfold upd; rw [if_neg h]
theorem ne_of_none {H : Hp} {a b : Addr} {o : HO} (h : H a = some o) (h' : H b = none) : a ≠ b := by
  intro e; subst e; rw [h] at h'; cases h'

section
variable (P : Program) (w : World)
noncomputable def ObjOk (H : Hp) (h : Heap) (a : Addr) : HO → Prop
  | .lst xs => xs.length ≤ sizeLine ∧ ∃ (its : List Value) (n : Nat), Vals xs its ∧ h.get? a = some { cls := .type "list", data := .seq its.toArray n }
  | .tup xs => xs.length ≤ sizeLine ∧ ∃ its : List Value, Vals xs its ∧ IsTup h a its.toArray
  | .dK kvs => kvs.length ≤ sizeLine ∧ (a == sysModules) = false ∧ ∃ vs, KV kvs vs ∧ h.DictOf (mixKind P w) a vs
  | .dT kvs => kvs.length ≤ sizeLine ∧ (a == sysModules) = false ∧ ∃ xs : List (List Key × Addr × Value),
      Paired (fun (p : List Key × V) (q : List Key × Addr × Value) => p.1 = q.1 ∧ H q.2.1 = some (.tup (p.1.map kV)) ∧ RelV p.2 q.2.2) kvs xs ∧
      ∃ o es ep, h.get? a = some o ∧ o.ExactDict ∧ o.data = .dict es ep ∧ es.toList = xs.map (entryOfKey (tupleKind (mixKind P w))) ∧ (xs.map (·.1)).Nodup
  | .set S n => h.SetOf (intKind P w) a S n
  | .ins C dx fs => H dx = some (.own a) ∧ fs.length ≤ 1000 ∧ dx ≠ a ∧ h.get? a = some (PySem.W.instObj C dx) ∧
      ∃ mA, h.Ns1 dx mA ∧ (∀ f, RelO (fs.lookup f) (mA f)) ∧ PySem.Within mA (fs.map (·.1))
  | .own _ => ∃ o, h.get? a = some o
  | .xd fs => ∃ mA, h.Ns1 a mA ∧ ∀ f, RelO (fs.lookup f) (mA f)
  | .rng lo hi => ∃ t u v, h.get? a = some { cls := .type "range", data := .fields #[.int lo t, .int hi u, .int 1 v] }
  | .frz o u => h.get? a = some o ∧ ObjOk H h a u
  | .tbl ps => h.get? a = some { cls := .none, data := .fields ps }
  | .met f x => h.get? a = some (PySem.W.methodObj (.ref f) (.ref x))
  | .ext φ => φ h ∧ (∃ o, h.get? a = some o) ∧ ∀ h1 h2 : Heap, φ h1 → (∀ o, h1.get? a = some o → h2.get? a = some o) → φ h2
/-- the abstract heap is held -/
noncomputable def HOk (H : Hp) (h : Heap) : Prop := ∀ a o, H a = some o → ObjOk P w H h a o
end

section
variable {P : Program} {w : World} {H H' : Hp} {h h' : Heap} {a : Addr} {o : HO}
theorem ObjOk.lt (x : ObjOk P w H h a o) : a < h.objs.size := by
  cases o with
  | lst xs => obtain ⟨_, _, _, _, e⟩ := x; exact Heap.lt_size e
  | tup xs => obtain ⟨_, _, _, p⟩ := x; exact p.lt
  | dK kvs => obtain ⟨_, _, _, _, o, _, _, e, _⟩ := x; exact Heap.lt_size e
  | dT kvs => obtain ⟨_, _, _, _, o, _, _, e, _⟩ := x; exact Heap.lt_size e
  | set S n => obtain ⟨o, _, _, _, e, _⟩ := x; exact Heap.lt_size e
  | ins C dx fs => obtain ⟨_, _, _, e, _⟩ := x; exact Heap.lt_size e
  | own y => obtain ⟨_, e⟩ := x; exact Heap.lt_size e
  | xd fs => obtain ⟨_, ⟨_, _, _, e, _⟩, _⟩ := x; exact Heap.lt_size e
  | rng lo hi => obtain ⟨_, _, _, e⟩ := x; exact Heap.lt_size e
  | frz ob u => obtain ⟨e, _⟩ := x; exact Heap.lt_size e
  | tbl ps => exact Heap.lt_size (show h.get? a = some _ from x)
  | met f y => exact Heap.lt_size (show h.get? a = some _ from x)
  | ext φ => obtain ⟨_, ⟨_, e⟩, _⟩ := x; exact Heap.lt_size e
theorem Paired.mapP {α β : Type} {F G : α → β → Prop} : ∀ {l₁ : List α} {l₂ : List β}, Paired F l₁ l₂ → (∀ a b, F a b → G a b) → Paired G l₁ l₂
  | _, _, .nil, _ => .nil
  | _, _, .cons r t, f => .cons (f _ _ r) (Paired.mapP t f)
/-- what an object's description leans on: its own object, its own dict, the tuples -/
theorem ObjOk.stay (x : ObjOk P w H h a o) (k : ∀ b u, (b = a ∨ H b = some (.own a)) → h.get? b = some u → h'.get? b = some u)
    (ho : ∀ b, H b = some (.own a) → H' b = some (.own a)) (ht : ∀ b xs, H b = some (.tup xs) → H' b = some (.tup xs)) : ObjOk P w H' h' a o := by
  induction o with
  | lst xs => obtain ⟨z, its, n, r, e⟩ := x; exact ⟨z, its, n, r, k _ _ (.inl rfl) e⟩
  | tup xs => obtain ⟨z, its, r, ob, e, c⟩ := x; exact ⟨z, its, r, ob, k _ _ (.inl rfl) e, c⟩
  | dK kvs => obtain ⟨z, y, vs, r, ob, es, ep, e, c⟩ := x; exact ⟨z, y, vs, r, ob, es, ep, k _ _ (.inl rfl) e, c⟩
  | dT kvs =>
    obtain ⟨z, y, xs, r, ob, es, ep, e, c⟩ := x
    exact ⟨z, y, xs, Paired.mapP r fun p q z => ⟨z.1, ht _ _ z.2.1, z.2.2⟩, ob, es, ep, k _ _ (.inl rfl) e, c⟩
  | set S n => obtain ⟨ob, es, ep, t, e, c⟩ := x; exact ⟨ob, es, ep, t, k _ _ (.inl rfl) e, c⟩
  | ins C dx fs =>
    obtain ⟨d, z, ne, e, mA, ⟨od, es, ep, e2, c⟩, r⟩ := x
    exact ⟨ho _ d, z, ne, k _ _ (.inl rfl) e, mA, ⟨od, es, ep, k _ _ (.inr d) e2, c⟩, r⟩
  | own y => obtain ⟨ob, e⟩ := x; exact ⟨ob, k _ _ (.inl rfl) e⟩
  | xd fs => obtain ⟨mA, ⟨od, es, ep, e, c⟩, r⟩ := x; exact ⟨mA, ⟨od, es, ep, k _ _ (.inl rfl) e, c⟩, r⟩
  | rng lo hi => obtain ⟨t, u, v, e⟩ := x; exact ⟨t, u, v, k _ _ (.inl rfl) e⟩
  | frz ob u ih => obtain ⟨e, q⟩ := x; exact ⟨k _ _ (.inl rfl) e, ih q⟩
  | tbl ps =>
    have e : h.get? a = some { cls := .none, data := .fields ps } := x
    show h'.get? a = some { cls := .none, data := .fields ps }
    exact k a _ (.inl rfl) e
  | met f y =>
    have e : h.get? a = some (PySem.W.methodObj (.ref f) (.ref y)) := x
    show h'.get? a = some (PySem.W.methodObj (.ref f) (.ref y))
    exact k a _ (.inl rfl) e
  | ext φ => obtain ⟨p, ⟨o, e⟩, st⟩ := x; exact ⟨st _ _ p fun o q => k _ _ (.inl rfl) q, ⟨o, k _ _ (.inl rfl) e⟩, st⟩
theorem HOk.lt (x : HOk P w H h) (e : H a = some o) : a < h.objs.size := (x a o e).lt
theorem HOk.fresh (x : HOk P w H h) (e : h.objs.size ≤ a) : H a = none := by
  cases q : H a with
  | none => rfl
  | some u => exact absurd (Nat.lt_of_lt_of_le (x.lt q) e) (Nat.lt_irrefl _)
/-- every object of the heap is kept -/
theorem HOk.kept (x : HOk P w H h) (k : ∀ b u, h.get? b = some u → h'.get? b = some u) : HOk P w H h' := fun a o e =>
  (x a o e).stay (fun b u _ q => k b u q) (fun _ q => q) fun _ _ q => q
/-- a new object is laid and tracked -/
theorem HOk.laid (x : HOk P w H h) (k : ∀ b u, h.get? b = some u → h'.get? b = some u) (hp : h.objs.size ≤ a) (new : ObjOk P w (upd H a o) h' a o) : HOk P w (upd H a o) h' := fun b u e => by
  have hn := x.fresh hp
  by_cases hb : b = a
  · subst hb; rw [upd_same] at e; cases e; exact new
  · rw [upd_ne hb] at e
    exact (x b u e).stay (fun c v _ q => k c v q) (fun c q => by rw [upd_ne (ne_of_none q hn)]; exact q) fun c xs q => by rw [upd_ne (ne_of_none q hn)]; exact q
end

/-- what may be read as u: it is u, or a known u -/
noncomputable def Rd (H : Hp) (a : Addr) (u : HO) : Prop := H a = some u ∨ ∃ o, H a = some (.frz o u)
theorem Rd.ok {P : Program} {w : World} {H : Hp} {h : Heap} {a : Addr} {u : HO} (r : Rd H a u) (x : HOk P w H h) : ObjOk P w H h a u := by
  rcases r with r | ⟨o, r⟩
  · exact x a u r
  · obtain ⟨_, q⟩ := x a _ r
    exact q
/-- what may be written -/
noncomputable def Mut : Option HO → Prop
  | some (.lst _) => True
  | some (.dK _) => True
  | some (.dT _) => True
  | some (.set _ _) => True
  | some (.ins _ _ _) => True
  | some (.ext _) => True
  | _ => False
section
variable {P : Program} {w : World} {H : Hp} {h h' : Heap} {x e : Addr} {o' : HO}
/-- the object at e is changed: x itself, or the dict of the instance x -/
theorem HOk.write (ok : HOk P w H h) (mu : Mut (H x)) (he : e = x ∨ H e = some (.own x)) (k : ∀ b u, b ≠ e → h.get? b = some u → h'.get? b = some u) (heo : ∃ u, h'.get? e = some u)
    (new : ObjOk P w (upd H x o') h' x o') : HOk P w (upd H x o') h' := fun b u q => by
  have nown : ∀ c y, H c = some (.own y) → c ≠ x := fun c y r z => by subst z; rw [r] at mu; exact mu
  have ntup : ∀ c xs, H c = some (.tup xs) → c ≠ x := fun c xs r z => by subst z; rw [r] at mu; exact mu
  by_cases hb : b = x
  · subst hb; rw [upd_same] at q; cases q; exact new
  · rw [upd_ne hb] at q
    by_cases hbe : b = e
    · have q' : H b = some (.own x) := by
        rcases he with z | z
        · exact absurd (hbe.trans z) hb
        · rw [hbe]; exact z
      rw [q] at q'; cases q'
      obtain ⟨v, hv⟩ := heo
      exact ⟨v, by rw [hbe]; exact hv⟩
    · refine (ok b u q).stay (fun c v hc r => k c v ?_ r) (fun c r => by rw [upd_ne (nown c b r)]; exact r) fun c xs r => by rw [upd_ne (ntup c xs r)]; exact r
      rcases hc with rfl | hc
      · exact hbe
      · rintro rfl
        rcases he with z | z
        · exact nown c b hc z
        · rw [hc] at z; cases z; exact hb rfl
end

/-! ### kept unless tracked; of the frames at fs (the callers') the slots may change (an exception that passes writes there); of the records at ex (iterators) nothing is said -/
structure Un (fs ex : List Addr) (H H' : Hp) (h h' : Heap) : Prop where
  keep : ∀ b o, h.get? b = some o → H b = none → b ∉ fs → b ∉ ex → h'.get? b = some o
  slot : ∀ b o, h.get? b = some o → H b = none → b ∈ fs → b ∉ ex → ∃ sl, h'.get? b = some { o with slots := sl }
  free : ∀ b o, h.get? b = some o → H b = none → b ∉ ex → H' b = none
  there : ∀ b o, h.get? b = some o → b ∉ ex → ∃ o', h'.get? b = some o'
  tups : ∀ b xs, H b = some (.tup xs) → H' b = some (.tup xs)
  frzs : ∀ b o u, H b = some (.frz o u) → H' b = some (.frz o u)
  tbls : ∀ b ps, H b = some (.tbl ps) → ∃ more, H' b = some (.tbl (ps ++ more))
section
variable {fs fs' ex ex' : List Addr} {H H1 H2 : Hp} {h h1 h2 h' : Heap} {a x e : Addr} {o : HO}
theorem Un.any (u : Un fs ex H H1 h h1) {b : Addr} {ob : Obj} (q : h.get? b = some ob) (n : H b = none) (hx : b ∉ ex) : ∃ sl, h1.get? b = some { ob with slots := sl } := by
  by_cases hb : b ∈ fs
  · exact u.slot b ob q n hb hx
  · exact ⟨ob.slots, u.keep b ob q n hb hx⟩
theorem Un.kept (k : ∀ b u, h.get? b = some u → h'.get? b = some u) : Un fs ex H H h h' :=
  ⟨fun b ob q _ _ _ => k b ob q, fun b ob q _ _ _ => ⟨ob.slots, k b ob q⟩, fun _ _ _ n _ => n, fun b ob q _ => ⟨ob, k b ob q⟩, fun _ _ q => q, fun _ _ _ q => q, fun _ ps q => ⟨#[], by rw [q]; simp⟩⟩
theorem Un.refl : Un fs ex H H h h := Un.kept fun _ _ q => q
theorem Un.laid (k : ∀ b u, h.get? b = some u → h'.get? b = some u) (hp : h.objs.size ≤ a) (hn : H a = none) : Un fs ex H (upd H a o) h h' where
  keep := fun b u q _ _ _ => k b u q
  slot := fun b u q _ _ _ => ⟨u.slots, k b u q⟩
  free := fun b u q n _ => by rw [upd_ne (Nat.ne_of_lt (Nat.lt_of_lt_of_le (Heap.lt_size q) hp))]; exact n
  there := fun b u q _ => ⟨u, k b u q⟩
  tups := fun b xs q => by rw [upd_ne (ne_of_none q hn)]; exact q
  frzs := fun b u xs q => by rw [upd_ne (ne_of_none q hn)]; exact q
  tbls := fun b ps q => ⟨#[], by rw [upd_ne (ne_of_none q hn), q]; simp⟩
theorem Un.write (mu : Mut (H x)) (he : e = x ∨ H e = some (.own x)) (k : ∀ b u, b ≠ e → h.get? b = some u → h'.get? b = some u) (heo : ∃ u, h'.get? e = some u) : Un fs ex H (upd H x o) h h' := by
  have hx : ∀ b, H b = none → b ≠ x := fun b n z => by subst z; rw [n] at mu; exact mu
  have hb : ∀ b, H b = none → b ≠ e := fun b n z => by
    subst z
    rcases he with r | r
    · exact hx b n r
    · rw [n] at r; cases r
  have hm : ∀ b u, H b = some u → ¬ Mut (some u) → b ≠ x := fun b u q nm z => by subst z; rw [q] at mu; exact nm mu
  refine ⟨fun b u q n _ _ => k b u (hb b n) q, fun b u q n _ _ => ⟨u.slots, k b u (hb b n) q⟩, fun b u q n _ => by rw [upd_ne (hx b n)]; exact n, fun b u q _ => ?_,
    fun b xs q => by rw [upd_ne (hm b _ q fun z => z)]; exact q, fun b u xs q => by rw [upd_ne (hm b _ q fun z => z)]; exact q, fun b ps q => ⟨#[], by rw [upd_ne (hm b _ q fun z => z), q]; simp⟩⟩
  by_cases hbe : b = e
  · subst hbe; exact heo
  · exact ⟨u, k b u hbe q⟩
end

/-! ### the heap without what is tracked -/
noncomputable def trk (h : Heap) (H : Hp) : List Addr := (List.range h.objs.size).filter fun a => (H a).isSome
noncomputable def hidT (h : Heap) (H : Hp) : Heap := PySem.W.hideAll h (trk h H)
theorem hidT_size (h : Heap) (H : Hp) : (hidT h H).objs.size = h.objs.size := PySem.W.hideAll_size _ _
theorem hidT_get {h : Heap} {H : Hp} {b : Addr} {o : Obj} (e : h.get? b = some o) (n : H b = none) : (hidT h H).get? b = some o :=
  PySem.W.hideAll_get _ e fun hm => by
    have q : (H b).isSome = true := (List.mem_filter.mp hm).2
    rw [n] at q; simp at q
theorem of_hidT {h : Heap} {H : Hp} {b : Addr} {o : Obj} (e : (hidT h H).get? b = some o) : h.get? b = some o ∧ H b = none := by
  have e' : h.get? b = some o := PySem.W.of_hideAll (trk h H) e
  refine ⟨e', ?_⟩
  cases q : H b with
  | none => rfl
  | some x =>
    have hm : b ∈ trk h H := List.mem_filter.mpr ⟨List.mem_range.mpr (Heap.lt_size e'), by simp [q]⟩
    have z : (hidT h H).get? b = none := PySem.W.hideAll_none (trk h H) hm
    rw [z] at e; cases e

/-! ### OpenK's ledger, filled with every new object but one -/
end L2

namespace L2
open PySem PySem.Spec PyProof.Rows

/-- the module's facts, over the base: the heap at the law's entry without what is tracked there -/
structure Mod (K : PySem.W.Frag) (mg : Str → Option Value) (base : Heap) : Prop where
  kin : K.In base
  glob : base.Ns mainGlobals mg
  blt : ∃ mb, base.Ns builtinsNs mb ∧ ∀ x : Str, x ≠ "__name__" → mb x = bootBuiltins x
  nolimit : base.NoLimit

/-- the context: a def's body (or a comprehension's block) running. base: fixed through the whole law; s₀, H₀: the entry; outer: the frames whose slots others may change (a def's callers); stack: all frames that run;
   ex: iterators that were made ahead of the entry and are walked here (a comprehension's); fn: the names whose cells were made at the entry (a def: all; a comprehension's block: its own); calm: not within an except suite; pn: pins that every state bears; xe: what is wanted of an exception that leaves the code -/
structure Cx where
  prog : Program
  w : World
  K : PySem.W.Frag
  mg : Str → Option Value
  base : Heap
  A : Around
  N : List Str
  s₀ : Shared
  H₀ : Hp
  env : Env
  outer : List Env
  stack : List Env
  ex : List Addr
  fn : Str → Bool
  calm : Bool
  pn : List (Addr × Obj)
  xe : Value → Shared → Prop
/-- the callers' frames -/
noncomputable def frs (l : List Env) : List Addr := l.filterMap (·.frame)
noncomputable abbrev Cx.fs (X : Cx) : List Addr := frs X.outer

noncomputable def Vis (sc : Scope) (x : Str) : Prop := sc.names.lookup x = some .local ∨ sc.names.lookup x = some .cell ∨ sc.names.lookup x = some .free
noncomputable def Loc (sc : Scope) (x : Str) : Prop := sc.names.lookup x = some .local ∨ sc.names.lookup x = some .cell
noncomputable def Look (env : Env) (h : Heap) (m : Str → Option Value) (x : Str) (u : Value) : Prop :=
  (env.kindOf x = some .local ∧ m x = some u) ∨ ((env.kindOf x = some .cell ∨ env.kindOf x = some .free) ∧ ∃ c, env.cells.lookup x = some c ∧ h.IsCell c (some u))

structure Cx.Ok (X : Cx) : Prop where
  mod : Mod X.K X.mg X.base
  kind : X.env.scope.kind = .function
  glob : X.env.globals = mainGlobals
  blt : X.env.builtins = builtinsNs
  above : X.s₀.heap.objs.size ≤ X.env.locals
  inj : ∀ x y c, X.env.cells.lookup x = some c → X.env.cells.lookup y = some c → x = y
  has : ∀ x, (X.env.kindOf x = some .cell ∨ X.env.kindOf x = some .free) → ∃ c, X.env.cells.lookup x = some c
  cab : ∀ x c, X.fn x = true → X.env.cells.lookup x = some c → X.s₀.heap.objs.size ≤ c
  hd : X.calm = true → X.A.handled = none
  frames : X.A.frames = some X.stack
  stk : X.stack = X.outer ∨ (X.stack = X.env :: X.outer ∧ X.env.frame = some X.env.locals)
  exf : ∀ b ∈ X.ex, b ≠ X.env.locals ∧ ∀ x c, X.env.cells.lookup x = some c → c ≠ b
  bs : ∀ b o, X.base.get? b = some o → X.s₀.heap.get? b = some o ∧ X.H₀ b = none
  bsz : X.base.objs.size ≤ X.s₀.heap.objs.size
  noex : ∀ b o, X.base.get? b = some o → b ∉ X.ex
  exfs : ∀ b ∈ X.ex, b ∉ X.fs
  funs : X.s₀.heap.FunFrames X.base X.outer
  frf : ∀ b ∈ X.fs, X.H₀ b = none

structure Inv (X : Cx) (pins : List (Addr × Obj)) (σ : List (Option V)) (H : Hp) (s : Shared) : Prop where
  ok : X.Ok
  os : s.os = X.s₀.os
  bare : AllBare s.gens
  base : Un X.fs X.ex X.H₀ H X.s₀.heap s.heap
  loc : ∃ m, s.heap.Ns X.env.locals m ∧ ∀ (i : Nat) (x : Str) (v : V), X.N[i]? = some x → σ[i]? = some (some v) → Vis X.env.scope x → ∃ u, RelV v u ∧ Look X.env s.heap m x u
  cell : ∀ x c, X.env.cells.lookup x = some c → ∃ v, s.heap.IsCell c v
  free : H X.env.locals = none
  freeC : ∀ x c, X.env.cells.lookup x = some c → H c = none
  pin : ∀ p ∈ X.pn ++ pins, s.heap.get? p.1 = some p.2 ∧ H p.1 = none ∧ p.1 ≠ X.env.locals ∧ p.1 ∉ X.fs ∧ ∀ v, p.2.data ≠ .cell v
  hok : HOk X.prog X.w H s.heap
  len : σ.length = X.N.length

section
variable {X : Cx} {pins : List (Addr × Obj)} {σ : List (Option V)} {H H' : Hp} {s : Shared} {h' : Heap}

theorem Cx.Ok.nofr (ok : X.Ok) {b : Addr} {o : Obj} (e : X.base.get? b = some o) : b ∉ X.fs := fun hb => by
  have := (ok.funs.mem hb).1
  rw [e] at this; cases this
theorem Inv.bs (I : Inv X pins σ H s) : ∀ b o, X.base.get? b = some o → s.heap.get? b = some o ∧ H b = none := fun b o e =>
  ⟨I.base.keep b o (I.ok.bs b o e).1 (I.ok.bs b o e).2 (I.ok.nofr e) (I.ok.noex b o e), I.base.free b o (I.ok.bs b o e).1 (I.ok.bs b o e).2 (I.ok.noex b o e)⟩
theorem Inv.bk (I : Inv X pins σ H s) : ∀ b o, X.base.get? b = some o → s.heap.get? b = some o := fun b o e => (I.bs b o e).1
theorem Inv.mod (I : Inv X pins σ H s) : Mod X.K X.mg X.base := I.ok.mod
theorem Inv.kIn (I : Inv X pins σ H s) : X.K.In s.heap := I.ok.mod.kin.keeps I.bk
theorem Inv.lt (I : Inv X pins σ H s) : X.env.locals < s.heap.objs.size := let ⟨_, hn, _⟩ := I.loc; hn.lt
theorem Inv.sz (I : Inv X pins σ H s) : X.s₀.heap.objs.size ≤ s.heap.objs.size := Nat.le_trans I.ok.above (Nat.le_of_lt I.lt)
theorem Inv.nofs (I : Inv X pins σ H s) {a : Addr} (h : s.heap.objs.size ≤ a) : a ∉ X.fs := fun hb => by
  obtain ⟨_, o, ho, _⟩ := I.ok.funs.mem hb
  exact absurd (Nat.lt_of_lt_of_le (Heap.lt_size ho) (Nat.le_trans I.sz h)) (Nat.lt_irrefl _)
theorem Inv.cne (I : Inv X pins σ H s) : ∀ x c, X.env.cells.lookup x = some c → c ≠ X.env.locals := fun x c e z => by
  obtain ⟨v, o, ho, hd⟩ := I.cell x c e
  obtain ⟨m, ⟨o', es, ep, ho', hd', _⟩, _⟩ := I.loc
  rw [z, ho'] at ho; cases ho; rw [hd'] at hd; cases hd
theorem Inv.funs (I : Inv X pins σ H s) : s.heap.FunFrames X.base X.outer := by
  have all : ∀ (l : List Env), (∀ b ∈ frs l, b ∈ X.fs) → X.s₀.heap.FunFrames X.base l → s.heap.FunFrames X.base l := by
    intro l
    induction l with
    | nil => intro _ _; trivial
    | cons env r ih =>
      intro hs hl
      obtain ⟨hk, ⟨L, o, hf, hn, ho, hd⟩, hr⟩ := hl
      have hL : L ∈ X.fs := hs L (by unfold frs; rw [List.filterMap_cons, hf]; exact List.mem_cons_self)
      obtain ⟨sl, e⟩ := I.base.slot L o ho (I.ok.frf L hL) hL fun z => I.ok.exfs L z hL
      exact ⟨hk, ⟨L, _, hf, hn, e, hd⟩, ih (fun b hb => hs b (by unfold frs; rw [List.filterMap_cons, hf]; exact List.mem_cons_of_mem _ hb)) hr⟩
  exact all X.outer (fun _ hb => hb) I.ok.funs

/-- the frames that run, for a call -/
theorem Inv.stack (I : Inv X pins σ H s) : s.heap.FunFrames X.base X.stack := by
  rcases I.ok.stk with e | ⟨e, hf⟩
  · rw [e]; exact I.funs
  · rw [e]
    obtain ⟨m, hn, _⟩ := I.loc
    refine .cons (by rw [I.ok.kind]; decide) hf hn ?_ I.funs
    exact Heap.get?_none_of_le (Nat.le_trans I.ok.bsz I.ok.above)
theorem Inv.stkSub (I : Inv X pins σ H s) : ∀ b ∈ frs X.stack, b ∈ X.env.locals :: X.fs := fun b hb => by
  rcases I.ok.stk with e | ⟨e, hf⟩
  · rw [e] at hb; exact List.mem_cons_of_mem _ hb
  · rw [e] at hb
    unfold frs at hb
    rw [List.filterMap_cons, hf] at hb
    exact hb
theorem Inv.stkFree (I : Inv X pins σ H s) : ∀ b ∈ frs X.stack, H b = none := fun b hb => by
  rcases List.mem_cons.mp (I.stkSub b hb) with e | hb
  · rw [e]; exact I.free
  · obtain ⟨_, o, ho, _⟩ := I.ok.funs.mem hb
    exact I.base.free b o ho (I.ok.frf b hb) fun z => I.ok.exfs b z hb

/-- THE STEP: the untracked objects but the frame and the records at ch are kept (the callers' frames up to slots), the frame's map is kept, the new abstract heap is held -/
theorem Inv.step {g' : Array GenState} {t' : Nat} {d' : Drawn} {ch : List Addr} (I : Inv X pins σ H s)
    (hch : ∀ b ∈ ch, (b ∈ X.ex ∨ X.s₀.heap.objs.size ≤ b) ∧ b ≠ X.env.locals ∧ (∀ x c, X.env.cells.lookup x = some c → c ≠ b) ∧ ∀ p ∈ X.pn ++ pins, p.1 ≠ b)
    (keep : ∀ b o, b ≠ X.env.locals → b ∉ X.fs → b ∉ ch → s.heap.get? b = some o → H b = none → h'.get? b = some o)
    (slot : ∀ b o, b ≠ X.env.locals → b ∈ X.fs → b ∉ ch → s.heap.get? b = some o → H b = none → ∃ sl, h'.get? b = some { o with slots := sl }) (free : ∀ b o, b ∉ ch → s.heap.get? b = some o → H b = none → H' b = none)
    (there : ∀ b o, b ∉ ch → s.heap.get? b = some o → ∃ o', h'.get? b = some o')
    (tups : ∀ b xs, H b = some (.tup xs) → H' b = some (.tup xs)) (frzs : ∀ b o u, H b = some (.frz o u) → H' b = some (.frz o u)) (tbls : ∀ b ps, H b = some (.tbl ps) → ∃ more, H' b = some (.tbl (ps ++ more)))
    (ns : ∀ m, s.heap.Ns X.env.locals m → h'.Ns X.env.locals m) (hok : HOk X.prog X.w H' h') (hg : AllBare g') :
    Inv X pins σ H' { s with heap := h', gens := g', drawn := d', toks := t' } := by
  have neL : ∀ b o, X.s₀.heap.get? b = some o → b ≠ X.env.locals := fun b o e => Nat.ne_of_lt (Nat.lt_of_lt_of_le (Heap.lt_size e) I.ok.above)
  have neC : ∀ b o, X.s₀.heap.get? b = some o → b ∉ X.ex → b ∉ ch := fun b o e hx hb => by
    rcases (hch b hb).1 with z | z
    · exact hx z
    · exact absurd (Nat.lt_of_lt_of_le (Heap.lt_size e) z) (Nat.lt_irrefl _)
  have cellK : ∀ x c, X.env.cells.lookup x = some c → ∀ v, s.heap.IsCell c v → h'.IsCell c v := fun x c e v ⟨o, ho, hd⟩ => by
    have nch : c ∉ ch := fun z => (hch c z).2.2.1 x c e rfl
    by_cases hc : c ∈ X.fs
    · obtain ⟨sl, q⟩ := slot c o (I.cne x c e) hc nch ho (I.freeC x c e)
      exact ⟨_, q, hd⟩
    · exact ⟨o, keep c o (I.cne x c e) hc nch ho (I.freeC x c e), hd⟩
  refine ⟨I.ok, I.os, hg, ⟨fun b o e n hb hx => ?_, fun b o e n hb hx => ?_, fun b o e n hx => ?_, fun b o e hx => ?_, fun b xs e => tups b xs (I.base.tups b xs e), fun b o xs e => frzs b o xs (I.base.frzs b o xs e), fun b ps e => ?_⟩, ?_, fun x c e => ?_, ?_, fun x c e => ?_, fun p hp => ?_, hok, I.len⟩
  · exact keep b o (neL b o e) hb (neC b o e hx) (I.base.keep b o e n hb hx) (I.base.free b o e n hx)
  · obtain ⟨sl, e1⟩ := I.base.slot b o e n hb hx
    obtain ⟨sl', e2⟩ := slot b _ (neL b o e) hb (neC b o e hx) e1 (I.base.free b o e n hx)
    exact ⟨sl', e2⟩
  · obtain ⟨o', e1⟩ := I.base.there b o e hx
    exact free b o' (neC b o e hx) e1 (I.base.free b o e n hx)
  · obtain ⟨o', e1⟩ := I.base.there b o e hx
    exact there b o' (neC b o e hx) e1
  · obtain ⟨m1, e1⟩ := I.base.tbls b ps e
    obtain ⟨m2, e2⟩ := tbls b _ e1
    exact ⟨m1 ++ m2, by rw [e2, Array.append_assoc]⟩
  · obtain ⟨m, hn, hl⟩ := I.loc
    refine ⟨m, ns m hn, fun i x v e1 e2 e3 => ?_⟩
    obtain ⟨u, r, l⟩ := hl i x v e1 e2 e3
    refine ⟨u, r, ?_⟩
    rcases l with l | ⟨k, c, e, z⟩
    · exact .inl l
    · exact .inr ⟨k, c, e, cellK x c e _ z⟩
  · obtain ⟨v, z⟩ := I.cell x c e
    exact ⟨v, cellK x c e v z⟩
  · obtain ⟨m, ⟨o, _, _, ho, _⟩, _⟩ := I.loc
    exact free _ o (fun z => (hch _ z).2.1 rfl) ho I.free
  · obtain ⟨v, o, ho, hd⟩ := I.cell x c e
    exact free c o (fun z => (hch c z).2.2.1 x c e rfl) ho (I.freeC x c e)
  · obtain ⟨e, n, ne, nf, d⟩ := I.pin p hp
    have nch : p.1 ∉ ch := fun z => (hch p.1 z).2.2.2 p hp rfl
    exact ⟨keep p.1 p.2 ne nf nch e n, free p.1 p.2 nch e n, ne, nf, d⟩
/-- .. where the frame's own object is kept too -/
theorem Inv.un {t' : Nat} (I : Inv X pins σ H s) (u : Un X.fs [] H H' s.heap h') (hok : HOk X.prog X.w H' h') : Inv X pins σ H' { s with heap := h', toks := t' } := by
  obtain ⟨m, ⟨o, es, ep, ho, r⟩, _⟩ := id I.loc
  obtain ⟨sl, hL⟩ := u.any ho I.free (by simp)
  exact I.step (g' := s.gens) (d' := s.drawn) (ch := []) (fun _ z => nomatch z) (fun b o _ hb _ e n => u.keep b o e n hb (by simp)) (fun b o _ hb _ e n => u.slot b o e n hb (by simp)) (fun b o _ e n => u.free b o e n (by simp)) (fun b o _ e => u.there b o e (by simp)) u.tups u.frzs u.tbls (fun m' hm => by
    obtain ⟨o', es', ep', ho', r'⟩ := hm
    rw [ho] at ho'; cases ho'
    exact ⟨_, es', ep', hL, r'⟩) hok I.bare
/-- behind a call (or a comprehension's block): the slots of this frame may have changed too, the records at ch may have turned -/
theorem Inv.call {g' : Array GenState} {t' : Nat} {d' : Drawn} {ch : List Addr} (I : Inv X pins σ H s) (u : Un (frs X.stack) ch H H' s.heap h') (hok : HOk X.prog X.w H' h') (hg : AllBare g')
    (hch : ∀ b ∈ ch, (b ∈ X.ex ∨ X.s₀.heap.objs.size ≤ b) ∧ b ≠ X.env.locals ∧ (∀ x c, X.env.cells.lookup x = some c → c ≠ b) ∧ ∀ p ∈ X.pn ++ pins, p.1 ≠ b) :
    Inv X pins σ H' { s with heap := h', gens := g', drawn := d', toks := t' } := by
  obtain ⟨m, ⟨o, es, ep, ho, r⟩, _⟩ := id I.loc
  obtain ⟨sl, hL⟩ := u.any ho I.free fun z => (hch _ z).2.1 rfl
  exact I.step (ch := ch) hch (fun b o hL hb hc e n => u.keep b o e n (fun z => (List.mem_cons.mp (I.stkSub b z)).elim hL hb) hc) (fun b o _ _ hc e n => u.any e n hc) (fun b o hc e n => u.free b o e n hc) (fun b o hc e => u.there b o e hc) u.tups u.frzs u.tbls (fun m' hm => by
    obtain ⟨o', es', ep', ho', r'⟩ := hm
    rw [ho] at ho'; cases ho'
    exact ⟨_, es', ep', hL, r'⟩) hok hg
/-- an untracked record of ours (an iterator) has turned -/
theorem Inv.turned {t' : Nat} {it : Addr} (I : Inv X pins σ H s) (k : ∀ b o, b ≠ it → s.heap.get? b = some o → h'.get? b = some o) (hn : H it = none) (hL : it ≠ X.env.locals)
    (h1 : it ∈ X.ex ∨ X.s₀.heap.objs.size ≤ it) (h2 : ∀ x c, X.env.cells.lookup x = some c → c ≠ it) (h3 : ∀ p ∈ X.pn ++ pins, p.1 ≠ it) : Inv X pins σ H { s with heap := h', toks := t' } := by
  have nit : ∀ b u, H b = some u → b ≠ it := fun b u e z => by rw [z, hn] at e; cases e
  refine I.step (g' := s.gens) (d' := s.drawn) (ch := [it]) (fun b hb => ?_) (fun b o _ _ hc e _ => k b o (fun z => hc (by simp [z])) e) (fun b o _ _ hc e _ => ⟨o.slots, k b o (fun z => hc (by simp [z])) e⟩) (fun _ _ _ _ n => n)
    (fun b o hc e => ⟨o, k b o (fun z => hc (by simp [z])) e⟩) (fun _ _ e => e) (fun _ _ _ e => e) (fun b ps e => ⟨#[], by rw [e]; simp⟩) (fun m hm => ?_) (fun b u e => ?_) I.bare
  · have e : b = it := by simpa using hb
    subst e
    exact ⟨h1, hL, h2, h3⟩
  · obtain ⟨o, es, ep, ho, r⟩ := hm
    exact ⟨o, es, ep, k _ o (Ne.symm hL) ho, r⟩
  · refine (I.hok b u e).stay (fun c v hc q => k c v ?_ q) (fun _ q => q) fun _ _ q => q
    rcases hc with z | z
    · rw [z]; exact nit b u e
    · exact nit c _ z
theorem Inv.tok (I : Inv X pins σ H s) (t : Nat) : Inv X pins σ H { s with toks := t } := I.un (h' := s.heap) (t' := t) Un.refl I.hok
/-- all objects kept -/
theorem Inv.kept {t' : Nat} (I : Inv X pins σ H s) (k : ∀ b u, s.heap.get? b = some u → h'.get? b = some u) : Inv X pins σ H { s with heap := h', toks := t' } := I.un (Un.kept k) (I.hok.kept k)
/-- a new object laid and tracked -/
theorem Inv.laid {a : Addr} {o : HO} {t' : Nat} (I : Inv X pins σ H s) (k : ∀ b u, s.heap.get? b = some u → h'.get? b = some u) (hp : s.heap.objs.size ≤ a) (new : ObjOk X.prog X.w (upd H a o) h' a o) :
    Inv X pins σ (upd H a o) { s with heap := h', toks := t' } := I.un (Un.laid k hp (I.hok.fresh hp)) (I.hok.laid k hp new)
/-- an object written -/
theorem Inv.write {x e : Addr} {o : HO} {t' : Nat} (I : Inv X pins σ H s) (mu : Mut (H x)) (he : e = x ∨ H e = some (.own x)) (k : ∀ b u, b ≠ e → s.heap.get? b = some u → h'.get? b = some u) (heo : ∃ u, h'.get? e = some u)
    (new : ObjOk X.prog X.w (upd H x o) h' x o) : Inv X pins σ (upd H x o) { s with heap := h', toks := t' } := I.un (Un.write mu he k heo) (I.hok.write mu he k heo new)
theorem Inv.pins_of {pins' : List (Addr × Obj)} (I : Inv X pins σ H s) (h : ∀ p ∈ pins', s.heap.get? p.1 = some p.2 ∧ H p.1 = none ∧ p.1 ≠ X.env.locals ∧ p.1 ∉ X.fs ∧ ∀ v, p.2.data ≠ .cell v) : Inv X pins' σ H s :=
  ⟨I.ok, I.os, I.bare, I.base, I.loc, I.cell, I.free, I.freeC, fun p hp => (List.mem_append.mp hp).elim (fun z => I.pin p (List.mem_append_left _ z)) (h p), I.hok, I.len⟩

theorem nodup_ix {N : List Str} (hN : N.Nodup) {i j : Nat} {x : Str} (a : N[i]? = some x) (b : N[j]? = some x) : i = j := by
  obtain ⟨h1, e1⟩ := List.getElem?_eq_some_iff.mp a
  obtain ⟨h2, e2⟩ := List.getElem?_eq_some_iff.mp b
  exact (List.getElem_inj hN).mp (e1.trans e2.symm)

/-- a name is stored; what changed -/
theorem store_ok2 {M : Model} {A : Around} {E : Value → Shared → Prop} {i : Nat} {x : Str} {v : V} {u : Value} {Q : Unit → Shared → Prop} (I : Inv X pins σ H s) (hN : X.N.Nodup) (hi : X.N[i]? = some x) (hx : Loc X.env.scope x) (r : RelV v u)
    (h : ∀ s', Inv X pins (σ.set i (some v)) H s' → (∃ a, Heap.SameBut a s.heap s'.heap ∧ (a = X.env.locals ∨ X.env.cells.lookup x = some a)) → Q () s') (hf : X.fn x = true ∨ X.env.scope.names.lookup x = some .local := by first | exact .inl rfl | exact .inr rfl | assumption) : wpAny M A (storeName X.env x u) Q E s := by
  obtain ⟨m, hn, hl⟩ := id I.loc
  have hcls : (X.env.scope.kind == .class || (X.env.scope.kind == .module && X.env.locals != X.env.globals)) = false := by rw [I.ok.kind]; rfl
  have hiσ : i < σ.length := by rw [I.len]; exact (List.getElem?_eq_some_iff.mp hi).1
  have cne := I.cne
  have tracked : ∀ {a : Addr} {h' : Heap}, (∃ o, s.heap.get? a = some o ∧ H a = none) → Heap.SameBut a s.heap h' → HOk X.prog X.w H h' := fun {a h'} ha hs b ob e => by
    obtain ⟨_, _, hfree⟩ := ha
    refine (I.hok b ob e).stay (fun c w' hc q => (hs.2 c ?_).trans q) (fun _ q => q) fun _ _ q => q
    rintro rfl
    rcases hc with rfl | hc
    · rw [hfree] at e; cases e
    · rw [hfree] at hc; cases hc
  rcases hx with hk | hk
  · refine wpAny_storeName_local hk hn (fun h' hn' hs => ?_) hcls
    obtain ⟨oL, _, _, hoL, _⟩ := id hn
    refine h _ ⟨I.ok, I.os, I.bare, ⟨fun b o e n hb hx => ?_, fun b o e n hb hx => ?_, I.base.free, fun b o e hx => ?_, I.base.tups, I.base.frzs, I.base.tbls⟩, ⟨_, hn', fun j y v' e1 e2 e3 => ?_⟩, fun y c e => ?_, I.free, I.freeC, fun p hp => ?_, tracked ⟨oL, hoL, I.free⟩ hs, by simpa using I.len⟩ ⟨_, hs, .inl rfl⟩
    · exact (hs.2 b (Nat.ne_of_lt (Nat.lt_of_lt_of_le (Heap.lt_size e) I.ok.above))).trans (I.base.keep b o e n hb hx)
    · obtain ⟨sl, e1⟩ := I.base.slot b o e n hb hx
      exact ⟨sl, (hs.2 b (Nat.ne_of_lt (Nat.lt_of_lt_of_le (Heap.lt_size e) I.ok.above))).trans e1⟩
    · obtain ⟨o', e1⟩ := I.base.there b o e hx
      exact ⟨o', (hs.2 b (Nat.ne_of_lt (Nat.lt_of_lt_of_le (Heap.lt_size e) I.ok.above))).trans e1⟩
    · by_cases hj : j = i
      · subst hj
        rw [hi] at e1; cases e1
        rw [List.getElem?_set_self hiσ] at e2
        cases e2
        exact ⟨u, r, .inl ⟨hk, by simp⟩⟩
      · rw [List.getElem?_set_ne (Ne.symm hj)] at e2
        obtain ⟨u', r', q⟩ := hl j y v' e1 e2 e3
        refine ⟨u', r', ?_⟩
        rcases q with ⟨k, e⟩ | ⟨k, c, e, z⟩
        · refine .inl ⟨k, ?_⟩
          have : y ≠ x := fun e => hj (nodup_ix hN e1 (e ▸ hi))
          simp [this, e]
        · exact .inr ⟨k, c, e, z.sameBut hs (cne y c e)⟩
    · obtain ⟨w', z⟩ := I.cell y c e
      exact ⟨w', z.sameBut hs (cne y c e)⟩
    · obtain ⟨e, n, ne, nf, d⟩ := I.pin p hp
      exact ⟨(hs.2 p.1 ne).trans e, n, ne, nf, d⟩
  · have hfn : X.fn x = true := by
      rcases hf with z | z
      · exact z
      · rw [z] at hk; cases hk
    obtain ⟨c, hc⟩ := I.ok.has x (.inl hk)
    obtain ⟨w', z⟩ := I.cell x c hc
    refine wpAny_storeName_cell I.ok.kind hk hc z (fun h' hc' hs => ?_)
    obtain ⟨oc, hoc, hocd⟩ := id z
    refine h { s with heap := h' } ⟨I.ok, I.os, I.bare, ⟨fun b o e n hb hx => ?_, fun b o e n hb hx => ?_, I.base.free, fun b o e hx => ?_, I.base.tups, I.base.frzs, I.base.tbls⟩, ⟨m, hn.sameBut hs (Ne.symm (cne x c hc)), fun j y v' e1 e2 e3 => ?_⟩, fun y c' e => ?_, I.free, I.freeC, fun p hp => ?_, tracked ⟨oc, hoc, I.freeC x c hc⟩ hs, by simpa using I.len⟩ ⟨c, hs, .inr hc⟩
    · exact (hs.2 b (Nat.ne_of_lt (Nat.lt_of_lt_of_le (Heap.lt_size e) (I.ok.cab x c hfn hc)))).trans (I.base.keep b o e n hb hx)
    · obtain ⟨sl, e1⟩ := I.base.slot b o e n hb hx
      exact ⟨sl, (hs.2 b (Nat.ne_of_lt (Nat.lt_of_lt_of_le (Heap.lt_size e) (I.ok.cab x c hfn hc)))).trans e1⟩
    · obtain ⟨o', e1⟩ := I.base.there b o e hx
      exact ⟨o', (hs.2 b (Nat.ne_of_lt (Nat.lt_of_lt_of_le (Heap.lt_size e) (I.ok.cab x c hfn hc)))).trans e1⟩
    · by_cases hj : j = i
      · subst hj
        rw [hi] at e1; cases e1
        rw [List.getElem?_set_self hiσ] at e2
        cases e2
        exact ⟨u, r, .inr ⟨.inl hk, c, hc, hc'⟩⟩
      · rw [List.getElem?_set_ne (Ne.symm hj)] at e2
        obtain ⟨u', r', q⟩ := hl j y v' e1 e2 e3
        refine ⟨u', r', ?_⟩
        rcases q with q | ⟨k, c', e, z'⟩
        · exact .inl q
        · refine .inr ⟨k, c', e, z'.sameBut hs ?_⟩
          rintro rfl
          exact hj (nodup_ix hN e1 (I.ok.inj _ _ _ e hc ▸ hi))
    · by_cases hcc : c' = c
      · subst hcc; exact ⟨_, hc'⟩
      · obtain ⟨w2, z2⟩ := I.cell y c' e
        exact ⟨w2, z2.sameBut hs hcc⟩
    · obtain ⟨e, n, ne, nf, d⟩ := I.pin p hp
      refine ⟨(hs.2 p.1 ?_).trans e, n, ne, nf, d⟩
      intro q
      rw [q, hoc] at e
      have q' : oc = p.2 := Option.some.inj e
      exact d w' (by rw [← q']; exact hocd)
theorem store_ok {M : Model} {A : Around} {E : Value → Shared → Prop} {i : Nat} {x : Str} {v : V} {u : Value} {Q : Unit → Shared → Prop} (I : Inv X pins σ H s) (hN : X.N.Nodup) (hi : X.N[i]? = some x) (hx : Loc X.env.scope x) (r : RelV v u)
    (h : ∀ s', Inv X pins (σ.set i (some v)) H s' → Q () s') (hf : X.fn x = true ∨ X.env.scope.names.lookup x = some .local := by first | exact .inl rfl | exact .inr rfl | assumption) : wpAny M A (storeName X.env x u) Q E s :=
  store_ok2 I hN hi hx r (fun s' I' _ => h s' I') hf
/-- behind a call or a block, the state as it is -/
theorem Inv.call' {s' : Shared} {ch : List Addr} (I : Inv X pins σ H s) (ho : s'.os = s.os) (u : Un (frs X.stack) ch H H' s.heap s'.heap) (hok : HOk X.prog X.w H' s'.heap) (hg : AllBare s'.gens)
    (hch : ∀ b ∈ ch, (b ∈ X.ex ∨ X.s₀.heap.objs.size ≤ b) ∧ b ≠ X.env.locals ∧ (∀ x c, X.env.cells.lookup x = some c → c ≠ b) ∧ ∀ p ∈ X.pn ++ pins, p.1 ≠ b) : Inv X pins σ H' s' := by
  obtain ⟨h', g', d', t', o'⟩ := s'
  have e : o' = s.os := ho
  subst e
  exact I.call (g' := g') (t' := t') (d' := d') u hok hg hch
end

/-! ### the judgements -/
/-- an exception: its class, its own dict's address (where it has one), the abstract heap behind it -/
noncomputable abbrev XK := Value → Option Addr → Hp → Prop
noncomputable abbrev St := List (Option V)
noncomputable abbrev VK := V → Hp → Prop
/-- an expression's reading; a test's; an argument list's -/
noncomputable abbrev TE := St → Hp → VK → Prop
noncomputable abbrev TT := St → Hp → (Bool → Hp → Prop) → Prop
noncomputable abbrev TA := St → Hp → (List V → Hp → Prop) → Prop
/-- what is wanted behind a statement -/
structure Ends where
  nx : St → Hp → Prop
  rt : VK
  bk : St → Hp → Prop := fun _ _ => False
  ct : St → Hp → Prop := fun _ _ => False
noncomputable abbrev TS := Ends → St → Hp → Prop

noncomputable def EP (X : Cx) (pins : List (Addr × Obj)) (σ : St) (Q : VK) (u : Value) (s' : Shared) : Prop := ∃ v H', Inv X pins σ H' s' ∧ RelV v u ∧ Q v H'
noncomputable def TP (X : Cx) (pins : List (Addr × Obj)) (σ : St) (Q : Bool → Hp → Prop) (b : Bool) (s' : Shared) : Prop := ∃ H', Inv X pins σ H' s' ∧ Q b H'
noncomputable def AP (X : Cx) (pins : List (Addr × Obj)) (σ : St) (Q : List V → Hp → Prop) (us : List Value) (s' : Shared) : Prop := ∃ vs H', Inv X pins σ H' s' ∧ Vals vs us ∧ Q vs H'
noncomputable def SP (X : Cx) (pins : List (Addr × Obj)) (D : Ends) (f : Flow) (s' : Shared) : Prop :=
  match f with
  | .next => ∃ σ' H', Inv X pins σ' H' s' ∧ D.nx σ' H'
  | .brk => ∃ σ' H', Inv X pins σ' H' s' ∧ D.bk σ' H'
  | .cont => ∃ σ' H', Inv X pins σ' H' s' ∧ D.ct σ' H'
  | .ret u => ∃ v σ' H', Inv X pins σ' H' s' ∧ RelV v u ∧ D.rt v H'

noncomputable def PE (X : Cx) (e : Expr) (t : TE) : Prop :=
  ∀ (pins : List (Addr × Obj)) (s : Shared) (σ : St) (H : Hp) (Q : VK), Inv X pins σ H s → t σ H Q → wpAny (model X.prog X.w) X.A (eval e X.env) (EP X pins σ Q) X.xe s
noncomputable def PT (X : Cx) (e : Expr) (t : TT) : Prop :=
  ∀ (pins : List (Addr × Obj)) (s : Shared) (σ : St) (H : Hp) (Q : Bool → Hp → Prop), Inv X pins σ H s → t σ H Q → wpAny (model X.prog X.w) X.A (isTrue e X.env (eval e X.env)) (TP X pins σ Q) X.xe s
/-- a test whatever its 'whole' is (and, or) -/
noncomputable def PW (X : Cx) (e : Expr) (t : TT) : Prop :=
  ∀ (whole : Sem Value) (pins : List (Addr × Obj)) (s : Shared) (σ : St) (H : Hp) (Q : Bool → Hp → Prop), Inv X pins σ H s → t σ H Q → wpAny (model X.prog X.w) X.A (isTrue e X.env whole) (TP X pins σ Q) X.xe s
theorem PW.pt {X : Cx} {e : Expr} {t : TT} (h : PW X e t) : PT X e t := h _
/-- an argument list (no star), from the left -/
noncomputable def PA (X : Cx) (es : List Expr) (t : TA) : Prop :=
  ∀ (pos : Pos) (pins : List (Addr × Obj)) (s : Shared) (σ : St) (H : Hp) (Q : List V → Hp → Prop), Inv X pins σ H s → t σ H Q → wpAny (model X.prog X.w) X.A (spliced (backTo pos (starEach es X.env))) (AP X pins σ Q) X.xe s
noncomputable def PS (X : Cx) (st : Stmt) (t : TS) : Prop :=
  ∀ (pins : List (Addr × Obj)) (s : Shared) (σ : St) (H : Hp) (D : Ends), Inv X pins σ H s → t D σ H → wpAny (model X.prog X.w) X.A (exec st X.env) (SP X pins D) X.xe s
noncomputable def PSs (X : Cx) (st : List Stmt) (t : TS) : Prop :=
  ∀ (pins : List (Addr × Obj)) (s : Shared) (σ : St) (H : Hp) (D : Ends), Inv X pins σ H s → t D σ H → wpAny (model X.prog X.w) X.A (execs st X.env) (SP X pins D) X.xe s
/-- weaken the end -/
theorem thn {α : Type} {t : Sem α} {Q Q' : α → Shared → Prop} {M : Model} {A : Around} {E : Value → Shared → Prop} {s : Shared} (h : wpAny M A t Q E s) (hQ : ∀ a s, Q a s → Q' a s) : wpAny M A t Q' E s := wpAny_mono h hQ fun _ _ x => x
end L2

namespace L2
open PySem PySem.Spec PyProof.Rows
section
variable {X : Cx}

/-- two expressions in a row -/
theorem bin {a b : Expr} {ta tb : TE} (ha : PE X a ta) (hb : PE X b tb) {pins : List (Addr × Obj)} {s : Shared} {σ : St} {H : Hp} {R : V → V → Hp → Prop} (I : Inv X pins σ H s) (h : ta σ H fun x H1 => tb σ H1 fun y H2 => R x y H2)
    {α : Type} {Q : α → Shared → Prop} {f : Value → Value → Sem α}
    (hf : ∀ v u s2 x y H2, Inv X pins σ H2 s2 → RelV x v → RelV y u → R x y H2 → wpAny (model X.prog X.w) X.A (f v u) Q X.xe s2) :
    wpAny (model X.prog X.w) X.A (eval a X.env) (fun v s₁ => wpAny (model X.prog X.w) X.A (eval b X.env) (fun u s₂ => wpAny (model X.prog X.w) X.A (f v u) Q X.xe s₂) X.xe s₁) X.xe s := by
  refine thn (ha pins s σ H _ I h) fun v s1 ⟨x, H1, I1, r1, q1⟩ => ?_
  refine thn (hb pins s1 σ H1 _ I1 q1) fun u s2 ⟨y, H2, I2, r2, q2⟩ => ?_
  exact hf v u s2 x y H2 I2 r1 r2 q2

/-! ### names and constants -/
noncomputable def tVar (i : Nat) : TE := fun σ H Q => ∃ v, σ[i]? = some (some v) ∧ Q v H
noncomputable def tC (v : V) : TE := fun _ H Q => Q v H
theorem pe_var {i : Nat} {x : Str} {pos : Pos} (hN : X.N[i]? = some x) (hv : Vis X.env.scope x) (hd : (x == ("__debug__" : Str)) = false := by decide) (hcd : (x == ("__classdict__" : Str)) = false := by decide) : PE X (.Name x pos) (tVar i) := by
  intro pins s σ H Q I h
  obtain ⟨v, e, h⟩ := h
  obtain ⟨m, hn, hl⟩ := I.loc
  obtain ⟨u, r, l⟩ := hl i x v hN e hv
  have fin : EP X pins σ Q u s := ⟨v, H, I, r, h⟩
  rcases l with ⟨hk, hm⟩ | ⟨hk, c, hc, hcell⟩
  · exact wpAny_Name (wpAny_loadName_local I.ok.kind hk hn hm fin) hd
  · rcases hk with hk | hk
    · exact wpAny_Name (wpAny_loadName_cell I.ok.kind hk hc hcell fin) hd
    · exact wpAny_Name (wpAny_loadName_free I.ok.kind hk hc hcell fin hcd) hd
theorem pe_int {i j pos} : PE X (.Constant (.int i) j pos) (tC (.int i)) := fun _ _ _ H _ I h => wpAny_Constant_int ⟨.int i, H, I.tok _, ⟨_, rfl⟩, h⟩
theorem pe_bl {b j pos} : PE X (.Constant (.bool b) j pos) (tC (.bl b)) := fun _ _ _ H _ I h => Constant_bool ⟨.bl b, H, I, rfl, h⟩
theorem pe_non {j pos} : PE X (.Constant .none j pos) (tC .non) := fun _ _ _ H _ I h => Constant_none ⟨.non, H, I, rfl, h⟩

/-- a global name of the def -/
noncomputable def Gl (X : Cx) (x : Str) : Prop := X.env.kindOf x = some .globalImplicit
theorem ld_glob {E : Value → Shared → Prop} {pins : List (Addr × Obj)} {s : Shared} {σ : St} {H : Hp} {x : Str} {u : Value} {pos : Pos} {Q : Value → Shared → Prop} (I : Inv X pins σ H s) (hg : Gl X x) (hm : X.mg x = some u) (h : Q u s)
    (hd : (x == ("__debug__" : Str)) = false := by decide) : wpAny (model X.prog X.w) X.A (eval (.Name x pos) X.env) Q E s :=
  Calls.Name_function_global I.ok.kind hg (Calls.loadGlobal_global (by rw [I.ok.glob]; exact I.mod.glob.keeps I.bk) hm h) hd
theorem ld_blt {E : Value → Shared → Prop} {pins : List (Addr × Obj)} {s : Shared} {σ : St} {H : Hp} {x : Str} {u : Value} {pos : Pos} {Q : Value → Shared → Prop} (I : Inv X pins σ H s) (hg : Gl X x) (hm : X.mg x = none) (hv : bootBuiltins x = some u) (h : Q u s)
    (hn : x ≠ "__name__" := by decide) (hd : (x == ("__debug__" : Str)) = false := by decide) : wpAny (model X.prog X.w) X.A (eval (.Name x pos) X.env) Q E s := by
  obtain ⟨mb, h1, h2⟩ := I.mod.blt
  exact Calls.Name_function_global I.ok.kind hg (Calls.loadGlobal_builtin (by rw [I.ok.glob]; exact I.mod.glob.keeps I.bk) hm (by rw [I.ok.blt]; exact h1.keeps I.bk) ((h2 x hn).trans hv) h) hd
theorem pe_bltn {x : Str} {v : V} {u : Value} {pos : Pos} (hg : Gl X x) (hm : X.mg x = none) (hv : bootBuiltins x = some u) (r : RelV v u) (hn : x ≠ "__name__" := by decide) (hd : (x == ("__debug__" : Str)) = false := by decide) : PE X (.Name x pos) (tC v) :=
  fun _ _ _ H _ I h => ld_blt I hg hm hv ⟨v, H, I, r, h⟩ hn hd

/-! ### arithmetic -/
variable {a b : Expr} {ta tb : TE} {pos : Pos}

/-! ### comparisons -/
noncomputable def PC (X : Cx) (op : CmpOp) (a b : Expr) (t : TE) : Prop :=
  ∀ (pins : List (Addr × Obj)) (s : Shared) (σ : St) (H : Hp) (Q : VK), Inv X pins σ H s → t σ H Q →
    wpAny (model X.prog X.w) X.A (eval a X.env) (fun v s₁ => wpAny (model X.prog X.w) X.A (eval b X.env) (fun u s₂ => wpAny (model X.prog X.w) X.A (compareOp op v u) (EP X pins σ Q) X.xe s₂) X.xe s₁) X.xe s
/-- a comparison as a value, as a test -/
noncomputable def tB (t : TE) : TT := fun σ H Q => t σ H fun x H1 => ∃ c, x = .bl c ∧ Q c H1
theorem pt_cmp {op : CmpOp} {t : TE} (h : PC X op a b t) (h1 : behindInMarks op b = false := by first | exact nobehind _ (by decide) (by decide) | rfl) : PT X (.Compare a [op] [b] pos) (tB t) := by
  intro pins s σ H Q I hw
  refine wpAny_isTrue_Compare1 (thn (h pins s σ H _ I hw) fun v s1 h1 => thn h1 fun u s2 h2 => thn h2 fun c s3 ⟨x, H1, I1, r1, q1⟩ => ?_) h1
  obtain ⟨d, rfl, q⟩ := q1
  cases r1
  exact wpAny_truthy_bool ⟨H1, I1, q⟩
/-- an expression whose value is a bool, as a test -/
theorem pt_val {e : Expr} {t : TE} (h : PE X e t) (he : ∀ whole, isTrue e X.env whole = (do let v ← whole; standAt e.pos; holding [v] (truthy v)) := by intro _; rfl) : PT X e (tB t) := by
  intro pins s σ H Q I hw
  refine isTrue_plain (thn (h pins s σ H _ I hw) fun v s1 ⟨x, H1, I1, r1, q1⟩ => ?_) (he _)
  obtain ⟨d, rfl, q⟩ := q1
  cases r1
  exact wpAny_truthy_bool ⟨H1, I1, q⟩

/-! ### and, or, not -/
variable {tA tB' : TT} {rest : List Expr}
noncomputable def tAnd (t u : TT) : TT := fun σ H Q => t σ H fun c H1 => if c = true then u σ H1 Q else Q false H1
noncomputable def tOr (t u : TT) : TT := fun σ H Q => t σ H fun c H1 => if c = true then Q true H1 else u σ H1 Q
noncomputable def tNot (t : TT) : TT := fun σ H Q => t σ H fun c H1 => Q (!c) H1
theorem pw_and1 (ha : PT X a tA) : PW X (.BoolOp .And [a] pos) tA := by
  intro wh pins s σ H Q I h
  refine isTrue_and (thn (ha pins s σ H Q I h) fun c s1 e => ?_)
  cases c with
  | true => exact isTrue_and_nil e
  | false => exact e
theorem pw_or1 (ha : PT X a tA) : PW X (.BoolOp .Or [a] pos) tA := by
  intro wh pins s σ H Q I h
  refine isTrue_or (thn (ha pins s σ H Q I h) fun c s1 e => ?_)
  cases c with
  | false => exact isTrue_or_nil e
  | true => exact e
theorem pw_and (ha : PT X a tA) (hb : PW X (.BoolOp .And (b :: rest) pos) tB') : PW X (.BoolOp .And (a :: b :: rest) pos) (tAnd tA tB') := by
  intro wh pins s σ H Q I h
  refine isTrue_and (thn (ha pins s σ H _ I h) fun c s1 ⟨H1, I1, q1⟩ => ?_)
  cases c with
  | true => exact hb wh pins s1 σ H1 Q I1 q1
  | false => exact ⟨H1, I1, q1⟩
theorem pw_or (ha : PT X a tA) (hb : PW X (.BoolOp .Or (b :: rest) pos) tB') : PW X (.BoolOp .Or (a :: b :: rest) pos) (tOr tA tB') := by
  intro wh pins s σ H Q I h
  refine isTrue_or (thn (ha pins s σ H _ I h) fun c s1 ⟨H1, I1, q1⟩ => ?_)
  cases c with
  | true => exact ⟨H1, I1, q1⟩
  | false => exact hb wh pins s1 σ H1 Q I1 q1
theorem pt_not (ha : PT X a tA) : PT X (.UnaryOp .Not a pos) (tNot tA) := by
  intro pins s σ H Q I h
  exact isTrue_not (ha pins s σ H (fun c H1 => Q (!c) H1) I h)
/-- .. as values (bools) -/
noncomputable def tAndV (ta tb : TE) : TE := fun σ H Q => ta σ H fun x H1 => ∃ c, x = .bl c ∧ if c = true then tb σ H1 Q else Q (.bl false) H1
noncomputable def tNotV (ta : TE) : TE := fun σ H Q => ta σ H fun x H1 => ∃ c, x = .bl c ∧ Q (.bl (!c)) H1
theorem pe_one {op} {t : TE} (h : PE X a t) : PE X (.BoolOp op [a] pos) t := fun pins s σ H Q I hw => BoolOp_one (h pins s σ H Q I hw)
theorem pe_and (ha : PE X a ta) (hb : PE X (.BoolOp .And (b :: rest) pos) tb) : PE X (.BoolOp .And (a :: b :: rest) pos) (tAndV ta tb) := by
  intro pins s σ H Q I h
  refine BoolOp_and (thn (ha pins s σ H _ I h) fun v s1 ⟨x, H1, I1, r1, q1⟩ => ?_)
  obtain ⟨c, rfl, q1⟩ := q1
  cases r1
  refine wpAny_truthy_bool ?_
  cases c with
  | true => exact hb pins s1 σ H1 Q I1 q1
  | false => exact ⟨.bl false, H1, I1, rfl, q1⟩
theorem pe_not (ha : PE X a ta) : PE X (.UnaryOp .Not a pos) (tNotV ta) := by
  intro pins s σ H Q I h
  refine UnaryOp_ (thn (ha pins s σ H _ I h) fun v s1 ⟨x, H1, I1, r1, q1⟩ => ?_)
  obtain ⟨c, rfl, q1⟩ := q1
  cases r1
  exact not_of (wpAny_truthy_bool ⟨.bl (!c), H1, I1, rfl, q1⟩)
/-- a if t else b -/
noncomputable def tIf (t : TT) (ta tb : TE) : TE := fun σ H Q => t σ H fun c H1 => if c = true then ta σ H1 Q else tb σ H1 Q
theorem pe_ifExp {c : Expr} (hc : PT X c tA) (ha : PE X a ta) (hb : PE X b tb) : PE X (.IfExp c a b pos) (tIf tA ta tb) := by
  intro pins s σ H Q I h
  refine wpAny_IfExp (thn (hc pins s σ H _ I h) fun d s1 ⟨H1, I1, q1⟩ => ?_)
  cases d with
  | true => exact ha pins s1 σ H1 Q I1 q1
  | false => exact hb pins s1 σ H1 Q I1 q1
end
end L2

namespace L2
open PySem PySem.Spec PyProof.Rows

/-! ### a list, a tuple that is read: tracked, frozen, or an object of the module -/
noncomputable def SqL (K : PySem.W.Frag) (H : Hp) (a : Addr) (xs : List V) : Prop :=
  Rd H a (.lst xs) ∨
    ∃ (o : Obj) (its : Array Value) (n : Nat), K.lookup a = some o ∧ o.cls = .type "list" ∧ o.dict = none ∧ o.data = .seq its n ∧ its.size ≤ sizeLine ∧ Vals xs its.toList
noncomputable def SqT (K : PySem.W.Frag) (H : Hp) (a : Addr) (xs : List V) : Prop :=
  Rd H a (.tup xs) ∨
    ∃ (o : Obj) (its : Array Value) (n : Nat), K.lookup a = some o ∧ o.cls = .type "tuple" ∧ o.data = .seq its n ∧ its.size ≤ sizeLine ∧ Vals xs its.toList
noncomputable def absV : Value → Option V
  | .none => some .non
  | .bool b => some (.bl b)
  | .int i _ => some (.int i)
  | .str x _ => some (.str x)
  | .bytes b _ => some (.byt b)
  | .float b _ => some (.flt b)
  | .ref a => some (.ref a)
  | .type n => some (.ty n)
  | _ => none
theorem RelV.abs {x : V} {u : Value} (r : RelV x u) : absV u = some x := by
  cases x with
  | non => cases r; rfl
  | bl _ => cases r; rfl
  | int _ => obtain ⟨t, rfl⟩ := r; rfl
  | str _ => obtain ⟨t, rfl⟩ := r; rfl
  | byt _ => obtain ⟨t, rfl⟩ := r; rfl
  | flt _ => obtain ⟨t, rfl⟩ := r; rfl
  | ref _ => cases r; rfl
  | ty _ => cases r; rfl
theorem RelV.inj {x y : V} {u : Value} (r : RelV x u) (q : RelV y u) : x = y := Option.some.inj (r.abs.symm.trans q.abs)
theorem Vals.inj : ∀ {xs ys : List V} {us : List Value}, Vals xs us → Vals ys us → xs = ys
  | _, _, _, .nil, .nil => rfl
  | _, _, _, .cons r t, .cons r' t' => by rw [r.inj r', Vals.inj t t']
section
variable {X : Cx} {pins : List (Addr × Obj)} {σ : St} {H : Hp} {s : Shared} {a : Addr} {xs ys : List V}
theorem SqL.of {K : PySem.W.Frag} (h : H a = some (.lst xs)) : SqL K H a xs := .inl (.inl h)
theorem SqT.of {K : PySem.W.Frag} (h : H a = some (.tup xs)) : SqT K H a xs := .inl (.inl h)
theorem Inv.list (I : Inv X pins σ H s) (h : SqL X.K H a xs) : ∃ its : List Value, Vals xs its ∧ PlainL s.heap a its.toArray ∧ xs.length ≤ sizeLine := by
  rcases h with h | ⟨o, its, n, hk, hc, hd, hs, hz, r⟩
  · obtain ⟨z, its, n, r, e⟩ := h.ok I.hok
    exact ⟨its, r, ⟨_, n, e, rfl, rfl, rfl⟩, z⟩
  · refine ⟨its.toList, r, ⟨o, n, I.kIn a o hk, hc, hd, by simpa using hs⟩, ?_⟩
    have e := r.length
    simp only [Array.length_toList] at e
    omega
theorem Inv.tuple (I : Inv X pins σ H s) (h : SqT X.K H a xs) : ∃ its : List Value, Vals xs its ∧ IsTup s.heap a its.toArray ∧ xs.length ≤ sizeLine := by
  rcases h with h | ⟨o, its, n, hk, hc, hs, hz, r⟩
  · obtain ⟨z, its, r, p⟩ := h.ok I.hok
    exact ⟨its, r, p, z⟩
  · refine ⟨its.toList, r, ⟨o, I.kIn a o hk, hc, n, by simpa using hs⟩, ?_⟩
    have e := r.length
    simp only [Array.length_toList] at e
    omega
theorem Inv.list_inj (I : Inv X pins σ H s) (h : SqL X.K H a xs) (h' : SqL X.K H a ys) : xs = ys := by
  obtain ⟨its, r, ⟨o, n, e, _, _, d⟩, _⟩ := I.list h
  obtain ⟨its', r', ⟨o', n', e', _, _, d'⟩, _⟩ := I.list h'
  rw [e] at e'; cases e'
  rw [d] at d'
  injection d' with d1 _
  have : its = its' := by simpa using congrArg Array.toList d1
  subst this
  exact r.inj r'
theorem Inv.tuple_inj (I : Inv X pins σ H s) (h : SqT X.K H a xs) (h' : SqT X.K H a ys) : xs = ys := by
  obtain ⟨its, r, ⟨o, e, _, n, d⟩, _⟩ := I.tuple h
  obtain ⟨its', r', ⟨o', e', _, n', d'⟩, _⟩ := I.tuple h'
  rw [e] at e'; cases e'
  rw [d] at d'
  injection d' with d1 _
  have : its = its' := by simpa using congrArg Array.toList d1
  subst this
  exact r.inj r'
end

/-! ### another wish about exceptions -/
noncomputable abbrev Cx.wish (X : Cx) (E : Value → Shared → Prop) : Cx := { X with xe := E }
/-- no exception leaves -/
noncomputable abbrev Cx.nox (X : Cx) : Cx := X.wish fun _ _ => False
theorem Cx.Ok.wish {X : Cx} (ok : X.Ok) (E : Value → Shared → Prop) : (X.wish E).Ok :=
  ⟨ok.mod, ok.kind, ok.glob, ok.blt, ok.above, ok.inj, ok.has, ok.cab, ok.hd, ok.frames, ok.stk, ok.exf, ok.bs, ok.bsz, ok.noex, ok.exfs, ok.funs, ok.frf⟩
theorem Cx.Ok.unwish {X : Cx} {E : Value → Shared → Prop} (ok : (X.wish E).Ok) : X.Ok :=
  ⟨ok.mod, ok.kind, ok.glob, ok.blt, ok.above, ok.inj, ok.has, ok.cab, ok.hd, ok.frames, ok.stk, ok.exf, ok.bs, ok.bsz, ok.noex, ok.exfs, ok.funs, ok.frf⟩
section
variable {X : Cx} {pins : List (Addr × Obj)} {σ : St} {H : Hp} {s : Shared} {E : Value → Shared → Prop}
theorem Inv.wish (I : Inv X pins σ H s) (E : Value → Shared → Prop) : Inv (X.wish E) pins σ H s := ⟨I.ok.wish E, I.os, I.bare, I.base, I.loc, I.cell, I.free, I.freeC, I.pin, I.hok, I.len⟩
theorem Inv.unwish (I : Inv (X.wish E) pins σ H s) : Inv X pins σ H s := ⟨I.ok.unwish, I.os, I.bare, I.base, I.loc, I.cell, I.free, I.freeC, I.pin, I.hok, I.len⟩
theorem SP.unwish {D : Ends} {f : Flow} {s' : Shared} (h : SP (X.wish E) pins D f s') : SP X pins D f s' := by
  cases f with
  | next => obtain ⟨σ', H', I, q⟩ := h; exact ⟨σ', H', I.unwish, q⟩
  | brk => obtain ⟨σ', H', I, q⟩ := h; exact ⟨σ', H', I.unwish, q⟩
  | cont => obtain ⟨σ', H', I, q⟩ := h; exact ⟨σ', H', I.unwish, q⟩
  | ret u => obtain ⟨v, σ', H', I, r, q⟩ := h; exact ⟨v, σ', H', I.unwish, r, q⟩
theorem PSs.nox {st : List Stmt} {t : TS} (h : PSs X.nox st t) : PSs X st t := fun pins s σ H D I hw =>
  wpAny_mono (h pins s σ H D (I.wish _) hw) (fun _ _ q => q.unwish) fun _ _ z => False.elim z
end

/-! ### blocks and small statements -/
section
variable {X : Cx} {st : Stmt} {rest : List Stmt} {t u : TS} {e : Expr} {te : TE} {pos : Pos}
noncomputable def tNext : TS := fun D σ H => D.nx σ H
noncomputable def tSeq (t u : TS) : TS := fun D σ H => t { D with nx := u D } σ H
theorem pss_nil : PSs X [] tNext := fun _ _ σ H _ I h => wpAny_execs_nil ⟨σ, H, I, h⟩
theorem pss_cons (h1 : PS X st t) (h2 : PSs X rest u) : PSs X (st :: rest) (tSeq t u) := by
  intro pins s σ H D I h
  refine wpAny_execs_cons (thn (h1 pins s σ H { D with nx := u D } I h) fun f s1 q => ?_)
  cases f with
  | next =>
    obtain ⟨σ', H', I', q⟩ := q
    exact h2 pins s1 σ' H' D I' q
  | ret v => exact q
  | brk => exact q
  | cont => exact q
theorem pss_one (h1 : PS X st t) : PSs X [st] t := by
  intro pins s σ H D I h
  refine wpAny_execs_cons (thn (h1 pins s σ H D I h) fun f s1 q => ?_)
  cases f with
  | next => exact wpAny_execs_nil q
  | ret v => exact q
  | brk => exact q
  | cont => exact q
/-- in a def's body nothing is shown -/
theorem Inv.quiet {pins : List (Addr × Obj)} {σ : St} {H : Hp} {s : Shared} (I : Inv X pins σ H s) : interactive X.env = false := by simp [interactive, I.ok.kind]
/-- an expression whose value is dropped -/
noncomputable def tDrop (te : TE) : TS := fun D σ H => te σ H fun _ H1 => D.nx σ H1
theorem ps_expr (he : PE X e te) (hs : swapsWith e none pos.line X.env = pure false := by rfl) : PS X (.Expr e pos) (tDrop te) := by
  intro pins s σ H D I h
  exact wpAny_Expr_any (thn (he pins s σ H _ I h) fun v s1 ⟨x, H1, I1, r1, q1⟩ => ⟨σ, H1, I1, q1⟩) I.quiet hs
noncomputable def tRet (te : TE) : TS := fun D σ H => te σ H D.rt
theorem ps_ret (he : PE X e te) : PS X (.Return (some e) pos) (tRet te) := by
  intro pins s σ H D I h
  exact wpAny_Return_some (thn (he pins s σ H _ I h) fun v s1 ⟨x, H1, I1, r1, q1⟩ => ⟨x, σ, H1, I1, r1, q1⟩)
noncomputable def tIfS (c : TT) (t u : TS) : TS := fun D σ H => c σ H fun b H1 => if b = true then t D σ H1 else u D σ H1
theorem ps_if {c : Expr} {a b : List Stmt} {tc : TT} (hc : PT X c tc) (ha : PSs X a t) (hb : PSs X b u) : PS X (.If c a b pos) (tIfS tc t u) := by
  intro pins s σ H D I h
  refine wpAny_If (thn (hc pins s σ H _ I h) fun d s1 ⟨H1, I1, q1⟩ => ?_)
  cases d with
  | true => exact ha pins s1 σ H1 D I1 q1
  | false => exact hb pins s1 σ H1 D I1 q1
end

/-! ### targets -/
noncomputable abbrev TG := V → St → Hp → (St → Hp → Prop) → Prop
noncomputable abbrev TGs := List V → St → Hp → (St → Hp → Prop) → Prop
noncomputable def PG (X : Cx) (target : Expr) (t : TG) : Prop :=
  ∀ (pins : List (Addr × Obj)) (s : Shared) (σ : St) (H : Hp) (v : V) (u : Value) (Q : St → Hp → Prop), Inv X pins σ H s → RelV v u → t v σ H Q →
    wpAny (model X.prog X.w) X.A (assign target X.env u) (fun _ s' => ∃ σ' H', Inv X pins σ' H' s' ∧ Q σ' H') X.xe s
/-- several targets, one after another -/
noncomputable def PGs (X : Cx) (ts : List Expr) (t : TGs) : Prop :=
  ∀ (pins : List (Addr × Obj)) (s : Shared) (σ : St) (H : Hp) (vs : List V) (us : List Value) (Q : St → Hp → Prop), Inv X pins σ H s → Vals vs us → t vs σ H Q →
    wpAny (model X.prog X.w) X.A (assignInOrder ((assignEach ts X.env).map (·.2)) us) (fun _ s' => ∃ σ' H', Inv X pins σ' H' s' ∧ Q σ' H') X.xe s
section
variable {X : Cx} {pos : Pos}
noncomputable def gName (i : Nat) : TG := fun v σ H Q => Q (σ.set i (some v)) H
theorem pg_name {i : Nat} {x : Str} (hN : X.N.Nodup) (hi : X.N[i]? = some x) (hx : Loc X.env.scope x) (hf : X.fn x = true ∨ X.env.scope.names.lookup x = some .local := by first | exact .inl rfl | exact .inr rfl | assumption) : PG X (.Name x pos) (gName i) := by
  intro pins s σ H v u Q I r h
  exact wpAny_assign_Name (store_ok I hN hi hx r (fun s' I' => ⟨_, H, I', h⟩) hf)
noncomputable def gNil : TGs := fun vs σ H Q => vs = [] ∧ Q σ H
noncomputable def gCons (t : TG) (u : TGs) : TGs := fun vs σ H Q => ∃ v r, vs = v :: r ∧ t v σ H fun σ' H' => u r σ' H' Q
theorem pgs_nil : PGs X [] gNil := by
  intro pins s σ H vs us Q I r h
  obtain ⟨e, h⟩ := h
  subst e
  cases r
  exact assignInOrder_nil ⟨σ, H, I, h⟩
theorem pgs_cons {e : Expr} {es : List Expr} {t : TG} {u : TGs} (h1 : PG X e t) (h2 : PGs X es u)
    (hs : (assignEach (e :: es) X.env).map (·.2) = assign e X.env :: (assignEach es X.env).map (·.2) := by rfl) : PGs X (e :: es) (gCons t u) := by
  intro pins s σ H vs us Q I r h
  obtain ⟨v, vr, e1, h⟩ := h
  subst e1
  cases r with
  | cons r rr =>
    rw [hs]
    refine assignInOrder_cons (thn (h1 pins s σ H _ _ _ I r h) fun _ s1 ⟨σ1, H1, I1, q1⟩ => ?_)
    exact h2 pins s1 σ1 H1 _ _ Q I1 rr q1
/-- (a, b, ..) = a tuple of that length -/
noncomputable def gTup (K : PySem.W.Frag) (n : Nat) (t : TGs) : TG := fun v σ H Q => ∃ a xs, v = .ref a ∧ SqT K H a xs ∧ xs.length = n ∧ t xs σ H Q
theorem pg_tup {es : List Expr} {k : Nat} {t : TGs} {n : Nat} (hc : X.calm = true) (h : PGs X es t)
    (hn : (assignEach es X.env).length = n := by rfl) (hst : (assignEach es X.env).findIdx? (·.1) = none := by rfl) : PG X (.Tuple es k pos) (gTup X.K n t) := by
  intro pins s σ H v u Q I r hw
  obtain ⟨a, xs, e1, hq, hl, hw⟩ := hw
  subst e1
  cases r
  obtain ⟨its, rv, ht, hz⟩ := I.tuple hq
  refine assign_Tuple_tuple (I.ok.hd hc) ht (by simp [hn, ← hl, rv.length]) hst fun h' hx => ?_
  have I1 : Inv X pins σ H { s with heap := h' } := I.kept (t' := s.toks) fun b o e => hx b o (Nat.ne_of_lt (Heap.lt_size e)) e
  exact h pins _ σ H xs _ Q I1 (by simpa using rv) hw
/-- target = value -/
noncomputable def tAsg (te : TE) (g : TG) : TS := fun D σ H => te σ H fun x H1 => g x σ H1 D.nx
theorem ps_asg {tg e : Expr} {te : TE} {g : TG} (he : PE X e te) (hg : PG X tg g) (hs : swapsWithSole [tg] e pos.line X.env = pure false := by rfl) (hw : swappedStores [tg] e X.env = pure none := by rfl)
    (h1 : (assignEach [tg] X.env).map (·.2) = [assign tg X.env] := by rfl) : PS X (.Assign [tg] e pos) (tAsg te g) := by
  intro pins s σ H D I h
  refine wpAny_Assign_stores (thn (he pins s σ H _ I h) fun v s1 ⟨x, H1, I1, r1, q1⟩ => ?_) hs hw
  rw [h1]
  exact thn (hg pins s1 σ H1 x v _ I1 r1 q1) fun _ s2 q => q
/-- name = value -/
theorem ps_set {i : Nat} {x : Str} {e : Expr} {te : TE} {pos' : Pos} (hN : X.N.Nodup) (hi : X.N[i]? = some x) (hx : Loc X.env.scope x) (he : PE X e te) (hs : swapsWith e (some (.Name x pos')) pos.line X.env = pure false := by rfl) (hf : X.fn x = true ∨ X.env.scope.names.lookup x = some .local := by first | exact .inl rfl | exact .inr rfl | assumption) :
    PS X (.Assign [.Name x pos'] e pos) (tAsg te (gName i)) := by
  intro pins s σ H D I h
  refine wpAny_Assign_Name (thn (he pins s σ H _ I h) fun v s1 ⟨y, H1, I1, r1, q1⟩ => ?_) hs
  exact store_ok I1 hN hi hx r1 (fun s2 I2 => ⟨_, H1, I2, q1⟩) hf
end

/-! ### while -/
section
variable {X : Cx} {pos : Pos}
/-- the invariant W with its measure -/
noncomputable def tWhile (c : TT) (tb : TS) : TS := fun D σ H => ∃ W : Nat → St → Hp → Prop, (∃ m, W m σ H) ∧ ∀ m σ H, W m σ H →
  c σ H fun b H1 => if b = true then ∃ N : St → Hp → Prop, (∀ σ' H', N σ' H' → ∃ m', m' < m ∧ W m' σ' H') ∧ tb { D with nx := N, ct := N, bk := D.nx } σ H1 else D.nx σ H1
theorem ps_while {c : Expr} {body : List Stmt} {tc : TT} {tb : TS} (hp : PassesOwn (model X.prog X.w) X.A X.env X.xe) (hc : PT X c tc) (hb : PSs X body tb) : PS X (.While c body [] pos) (tWhile tc tb) := by
  intro pins s σ H D I h
  obtain ⟨W, ⟨m0, w0⟩, turn⟩ := h
  refine wpAny_While (codeAny_whileLoop (fun n s' => ∃ σ' H', Inv X pins σ' H' s' ∧ W n σ' H') ?_ m0 ⟨σ, H, I, w0⟩)
  rintro n s1 ⟨σ1, H1, I1, w1⟩
  refine wpAny_passesOwn hp (thn (hc pins s1 σ1 H1 _ I1 (turn n σ1 H1 w1)) fun b s2 ⟨H2, I2, q2⟩ => ?_)
  cases b with
  | true =>
    obtain ⟨N, hN, q2⟩ := q2
    rw [if_pos rfl]
    refine wpAny_passesOwn hp (thn (hb pins s2 σ1 H2 _ I2 q2) fun f s3 q3 => ?_)
    cases f with
    | next =>
      obtain ⟨σ3, H3, I3, n3⟩ := q3
      obtain ⟨m', hm, w3⟩ := hN σ3 H3 n3
      exact ⟨m', hm, σ3, H3, I3, w3⟩
    | cont =>
      obtain ⟨σ3, H3, I3, n3⟩ := q3
      obtain ⟨m', hm, w3⟩ := hN σ3 H3 n3
      exact ⟨m', hm, σ3, H3, I3, w3⟩
    | brk => exact q3
    | ret v => exact q3
  | false =>
    rw [if_neg Bool.false_ne_true]
    exact wpAny_execs_nil ⟨σ1, H2, I2, q2⟩
end

/-! ### what a loop or a comprehension walks -/
/-- at turn i: it yields x (the heap may grow), or it stops -/
structure It where
  go : Nat → Hp → Prop
  yld : Nat → Hp → V → Hp → Prop
  stop : Nat → Hp → Prop
/-- the iterator's own objects may turn: they are not the frame's, not pinned, younger than the entry (or a comprehension's own) -/
noncomputable def FpOk (X : Cx) (pins : List (Addr × Obj)) (H : Hp) (b : Addr) : Prop :=
  H b = none ∧ b ≠ X.env.locals ∧ b ∉ X.fs ∧ (b ∈ X.ex ∨ X.s₀.heap.objs.size ≤ b) ∧ (∀ x c, X.env.cells.lookup x = some c → c ≠ b) ∧ ∀ p ∈ X.pn ++ pins, p.1 ≠ b
theorem Inv.fpOk {X : Cx} {pins : List (Addr × Obj)} {σ : St} {H H' : Hp} {s : Shared} {b : Addr} (I : Inv X pins σ H s) (hb : s.heap.objs.size ≤ b) (hn : H' b = none) : FpOk X pins H' b := by
  refine ⟨hn, Nat.ne_of_gt (Nat.lt_of_lt_of_le I.lt hb), I.nofs hb, .inr (Nat.le_trans I.sz hb), fun x c e z => ?_, fun p hp z => ?_⟩
  · obtain ⟨v, q⟩ := I.cell x c e
    exact absurd (Nat.lt_of_lt_of_le q.lt (by rw [z]; exact hb)) (Nat.lt_irrefl _)
  · exact absurd (Nat.lt_of_lt_of_le (Heap.lt_size (I.pin p hp).1) (by rw [z]; exact hb)) (Nat.lt_irrefl _)
structure Turn (P : Program) (w : World) (K : PySem.W.Frag) (tg : Expr) (J : It) (fp : List Addr) (it : Addr) (tn : Nat → Heap → Prop) : Prop where
  mem : it ∈ fp
  obj : ∀ i h, tn i h → ∀ b ∈ fp, ∃ o, h.get? b = some o ∧ ∀ v, o.data ≠ .cell v
  keep : ∀ i h h', tn i h → (∀ b ∈ fp, ∀ o, h.get? b = some o → h'.get? b = some o) → tn i h'
  item : ∀ (X : Cx), X.prog = P → X.w = w → X.K = K → X.calm = true → ∀ (i : Nat) (pins : List (Addr × Obj)) (s : Shared) (σ : St) (H : Hp) (E : Value → Shared → Prop), Inv X pins σ H s → (∀ b ∈ fp, FpOk X pins H b) → tn i s.heap → J.go i H →
    wpAny (model P w) X.A (pyNext (.ref it)) (fun r s1 => ∃ u, r = some u ∧
      wpAny (model P w) X.A (letOwnedTupleGo tg (.ref it) u) (fun _ s2 => ∃ x H', Inv X pins σ H' s2 ∧ RelV x u ∧ J.yld i H x H' ∧ tn (i + 1) s2.heap ∧ ∀ b ∈ fp, H' b = none) E s1) E s
  done : ∀ (X : Cx), X.prog = P → X.w = w → X.K = K → X.calm = true → ∀ (i : Nat) (pins : List (Addr × Obj)) (s : Shared) (σ : St) (H : Hp) (E : Value → Shared → Prop), Inv X pins σ H s → (∀ b ∈ fp, FpOk X pins H b) → tn i s.heap → J.stop i H →
    wpAny (model P w) X.A (pyNext (.ref it)) (fun r s1 => r = none ∧ Inv X pins σ H s1) E s
  self : ∀ (A : Around) (i : Nat) (s : Shared) (Q : Value → Shared → Prop) (E : Value → Shared → Prop), tn i s.heap → Q (.ref it) s → wpAny (model P w) A (pyIter (.ref it)) Q E s
noncomputable abbrev TI := St → Hp → (It → Hp → Prop) → Prop
/-- an iterator has come -/
noncomputable def PIE (X : Cx) (pins : List (Addr × Obj)) (σ : St) (tg : Expr) (R : It → Hp → Prop) (itv : Value) (s2 : Shared) : Prop :=
  ∃ (it : Addr) (fp : List Addr) (tn : Nat → Heap → Prop) (J : It) (H' : Hp), itv = .ref it ∧ Inv X pins σ H' s2 ∧ Turn X.prog X.w X.K tg J fp it tn ∧ tn 0 s2.heap ∧ (∀ b ∈ fp, FpOk X pins H' b) ∧ R J H'
noncomputable def PI (X : Cx) (tg iter : Expr) (wi : TI) : Prop :=
  ∀ (pins : List (Addr × Obj)) (s : Shared) (σ : St) (H : Hp) (R : It → Hp → Prop), Inv X pins σ H s → wi σ H R →
    wpAny (model X.prog X.w) X.A (eval iter X.env) (fun v s1 => wpAny (model X.prog X.w) X.A (pyIter v) (PIE X pins σ tg R) X.xe s1) X.xe s

/-- the step ahead of the store is nothing for an iterator that keeps no tuple -/
theorem go_of {M : Model} {A : Around} {E : Value → Shared → Prop} {s : Shared} {tg : Expr} {it : Addr} {u : Value} {o : Obj} {n : String} {vs : Array Value} {Q : Unit → Shared → Prop} (ho : s.heap.get? it = some o) (hc : o.cls = .type n) (hd : o.data = .fields vs)
    (hn : ["enumerate", "zip", "dict_itemiterator", "dict_reverseitemiterator", "odict_iterator", "itertools.zip_longest", "itertools.pairwise"].contains n = false) (hQ : Q () s) : wpAny M A (letOwnedTupleGo tg (.ref it) u) Q E s := by
  unfold letOwnedTupleGo
  cases tg <;> first
    | exact wpAny_pure hQ
    | (cases u <;> first
        | exact wpAny_pure hQ
        | (refine wpAny_bind (wpAny_load ho ?_)
           rw [hc, hd]
           show wpAny M A (if (["enumerate", "zip", "dict_itemiterator", "dict_reverseitemiterator", "odict_iterator", "itertools.zip_longest", "itertools.pairwise"].contains n && vs[0]? == some (rawInt _)) = true then _ else _) Q E s
           rw [if_neg (by intro h; rw [hn, Bool.false_and] at h; cases h)]
           exact wpAny_pure hQ))

/-- the list at a, as it stands at each turn (a loop may append to it) -/
noncomputable def Itl (K : PySem.W.Frag) (a : Addr) : It :=
  ⟨fun i H => ∃ xs x, SqL K H a xs ∧ xs[i]? = some x, fun i H x H' => H' = H ∧ ∀ xs, SqL K H a xs → xs[i]? = some x, fun i H => ∃ xs, SqL K H a xs ∧ xs.length ≤ i⟩
noncomputable def Itt (K : PySem.W.Frag) (a : Addr) : It :=
  ⟨fun i H => ∃ xs x, SqT K H a xs ∧ xs[i]? = some x, fun i H x H' => H' = H ∧ ∀ xs, SqT K H a xs → xs[i]? = some x, fun i H => ∃ xs, SqT K H a xs ∧ xs.length ≤ i⟩
/-- lo, lo + 1, .. (n of them) -/
noncomputable def Itr (lo : Int) (n : Nat) : It := ⟨fun i _ => i < n, fun i H x H' => H' = H ∧ x = .int (lo + i), fun i _ => n ≤ i⟩
theorem turn_list {P : Program} {w : World} {K : PySem.W.Frag} {tg : Expr} (a it : Addr) : Turn P w K tg (Itl K a) [it] it (fun i h => h.IsListIter it a i) where
  mem := by simp
  obj := fun i h st b hb => by
    have e : b = it := by simpa using hb
    subst e
    obtain ⟨o, e, c, d⟩ := st
    exact ⟨o, e, fun v z => by rw [d] at z; cases z⟩
  keep := fun i h h' st k => st.at fun o e => k it (by simp) o e
  item := by
    intro X hP hw hK hc i pins s σ H E I hf st hg
    subst hP hw hK
    obtain ⟨xs, x, hq, hx⟩ := hg
    obtain ⟨its, rv, p, hz⟩ := I.list hq
    obtain ⟨u, hu, ru⟩ := rv.get hx
    obtain ⟨f0, f1, f2, f3, f4, f5⟩ := hf it (by simp)
    refine wpAny_pyNext_list_item st p.isList (x := u) (by simpa using hu) fun h' st' sb => ?_
    have I1 : Inv X pins σ H { s with heap := h' } := I.turned (t' := s.toks) (fun b o hb e => (sb.2 b hb).trans e) f0 f1 f3 f4 f5
    obtain ⟨o, e, c, d⟩ := id st'
    exact ⟨u, rfl, go_of (s := { s with heap := h' }) e c d (by decide) ⟨x, H, I1, ru, ⟨rfl, fun ys hy => by rw [I.list_inj hy hq]; exact hx⟩, st', fun b hb => (hf b hb).1⟩⟩
  done := by
    intro X hP hw hK hc i pins s σ H E I hf st hg
    subst hP hw hK
    obtain ⟨xs, hq, hx⟩ := hg
    obtain ⟨its, rv, p, hz⟩ := I.list hq
    obtain ⟨f0, f1, f2, f3, f4, f5⟩ := hf it (by simp)
    have hl := rv.length
    exact wpAny_pyNext_list_end (I.ok.hd hc) st p.isList (by simp; omega) fun h' eb => ⟨rfl, I.turned (t' := s.toks) (fun b o hb e => eb b o hb e) f0 f1 f3 f4 f5⟩
  self := fun _ _ _ _ _ st h => wpAny_pyIter_listiter st h
theorem turn_tuple {P : Program} {w : World} {K : PySem.W.Frag} {tg : Expr} (a it : Addr) : Turn P w K tg (Itt K a) [it] it (fun i h => h.IsTupleIter it a i) where
  mem := by simp
  obj := fun i h st b hb => by
    have e : b = it := by simpa using hb
    subst e
    obtain ⟨o, e, c, d⟩ := st
    exact ⟨o, e, fun v z => by rw [d] at z; cases z⟩
  keep := fun i h h' st k => st.at fun o e => k it (by simp) o e
  item := by
    intro X hP hw hK hc i pins s σ H E I hf st hg
    subst hP hw hK
    obtain ⟨xs, x, hq, hx⟩ := hg
    obtain ⟨its, rv, p, hz⟩ := I.tuple hq
    obtain ⟨u, hu, ru⟩ := rv.get hx
    obtain ⟨f0, f1, f2, f3, f4, f5⟩ := hf it (by simp)
    refine wpAny_pyNext_tuple_item st (show s.heap.IsTuple a its.toArray from p) (x := u) (by simpa using hu) fun h' st' sb => ?_
    have I1 : Inv X pins σ H { s with heap := h' } := I.turned (t' := s.toks) (fun b o hb e => (sb.2 b hb).trans e) f0 f1 f3 f4 f5
    obtain ⟨o, e, c, d⟩ := id st'
    exact ⟨u, rfl, go_of (s := { s with heap := h' }) e c d (by decide) ⟨x, H, I1, ru, ⟨rfl, fun ys hy => by rw [I.tuple_inj hy hq]; exact hx⟩, st', fun b hb => (hf b hb).1⟩⟩
  done := by
    intro X hP hw hK hc i pins s σ H E I hf st hg
    subst hP hw hK
    obtain ⟨xs, hq, hx⟩ := hg
    obtain ⟨its, rv, p, hz⟩ := I.tuple hq
    obtain ⟨f0, f1, f2, f3, f4, f5⟩ := hf it (by simp)
    have hl := rv.length
    exact wpAny_pyNext_tuple_end (I.ok.hd hc) st (show s.heap.IsTuple a its.toArray from p) (by simp; omega) fun h' eb => ⟨rfl, I.turned (t' := s.toks) (fun b o hb e => eb b o hb e) f0 f1 f3 f4 f5⟩
  self := fun _ _ _ _ _ st h => wpAny_pyIter_tupleiter st h
theorem turn_range {P : Program} {w : World} {K : PySem.W.Frag} {tg : Expr} (it : Addr) (lo : Int) (n : Nat) : Turn P w K tg (Itr lo n) [it] it (fun i h => IsRangeIter h it (lo + (i : Nat) * 1) ((n : Int) - (i : Nat)) 1) where
  mem := by simp
  obj := fun i h st b hb => by
    have e : b = it := by simpa using hb
    subst e
    exact ⟨_, st, fun v z => by
      have z' : Data.fields _ = Data.cell v := z
      cases z'⟩
  keep := fun i h h' st k => k it (by simp) _ st
  item := by
    intro X hP hw hK hc i pins s σ H E I hf st hg
    subst hP hw hK
    obtain ⟨f0, f1, f2, f3, f4, f5⟩ := hf it (by simp)
    have W := Walks.range (prog := X.prog) (w := X.w) (I.ok.hd hc) it lo 1 n
    refine W.item i s _ _ hg st fun v h' tk hv st' kk => ?_
    obtain ⟨t, rfl⟩ := hv
    have I1 : Inv X pins σ H { s with heap := h', toks := tk } := I.turned (fun b o hb e => kk b o (by simpa using hb) e) f0 f1 f3 f4 f5
    refine ⟨_, rfl, go_of (s := { s with heap := h', toks := tk }) (n := "range_iterator") st' rfl rfl (by decide) ⟨.int (lo + i), H, I1, ⟨t, ?_⟩, ⟨rfl, rfl⟩, st', fun b hb => (hf b hb).1⟩⟩
    rw [Int.mul_one]
  done := by
    intro X hP hw hK hc i pins s σ H E I hf st hg
    subst hP hw hK
    obtain ⟨f0, f1, f2, f3, f4, f5⟩ := hf it (by simp)
    exact wpAny_pyNext_range_end (I.ok.hd hc) st (by have : n ≤ i := hg; omega) fun h' eb => ⟨rfl, I.turned (t' := s.toks) (fun b o hb e => eb b o hb e) f0 f1 f3 f4 f5⟩
  self := fun _ _ _ _ _ st h => wpAny_pyIter_rangeiter st h
end L2

namespace L2
open PySem PySem.Spec PyProof.Rows
section
variable {X : Cx} {tg : Expr}
noncomputable def iList (K : PySem.W.Frag) (tl : TE) : TI := fun σ H R => tl σ H fun x H1 => ∃ a, x = .ref a ∧ (∃ xs, SqL K H1 a xs) ∧ R (Itl K a) H1
noncomputable def iTup (K : PySem.W.Frag) (tl : TE) : TI := fun σ H R => tl σ H fun x H1 => ∃ a, x = .ref a ∧ (∃ xs, SqT K H1 a xs) ∧ R (Itt K a) H1
theorem pi_list {l : Expr} {tl : TE} (hl : PE X l tl) : PI X tg l (iList X.K tl) := by
  intro pins s σ H R I h
  refine thn (hl pins s σ H _ I h) fun v s1 ⟨x, H1, I1, r1, q1⟩ => ?_
  obtain ⟨a, e, ⟨xs, hq⟩, q⟩ := q1
  subst e
  cases r1
  obtain ⟨its, rv, p, hz⟩ := I1.list hq
  refine wpAny_pyIter_list p.isList ?_
  refine ⟨s1.heap.objs.size, [s1.heap.objs.size], _, _, H1, rfl, I1.kept (t' := s1.toks) fun b o e => Heap.get?_push_of_some _ e, turn_list a _, ⟨_, Heap.get?_push_size _ rfl, rfl, rfl⟩, fun b hb => ?_, q⟩
  have e : b = s1.heap.objs.size := by simpa using hb
  subst e
  exact I1.fpOk (Nat.le_refl _) (I1.hok.fresh (Nat.le_refl _))
theorem pi_tup {l : Expr} {tl : TE} (hl : PE X l tl) : PI X tg l (iTup X.K tl) := by
  intro pins s σ H R I h
  refine thn (hl pins s σ H _ I h) fun v s1 ⟨x, H1, I1, r1, q1⟩ => ?_
  obtain ⟨a, e, ⟨xs, hq⟩, q⟩ := q1
  subst e
  cases r1
  obtain ⟨its, rv, p, hz⟩ := I1.tuple hq
  refine wpAny_pyIter_tuple (show s1.heap.IsTuple a its.toArray from p) ?_
  refine ⟨s1.heap.objs.size, [s1.heap.objs.size], _, _, H1, rfl, I1.kept (t' := s1.toks) fun b o e => Heap.get?_push_of_some _ e, turn_tuple a _, ⟨_, Heap.get?_push_size _ rfl, rfl, rfl⟩, fun b hb => ?_, q⟩
  have e : b = s1.heap.objs.size := by simpa using hb
  subst e
  exact I1.fpOk (Nat.le_refl _) (I1.hok.fresh (Nat.le_refl _))
/-- a range object just made, walked -/
theorem range_it {pins : List (Addr × Obj)} {σ : St} {H : Hp} {s : Shared} {R : It → Hp → Prop} {E : Value → Shared → Prop} {lo hi : Int} {t u v : Tok} {tk : Nat} (I : Inv X pins σ H s) (h1 : -(2 ^ 62) ≤ lo) (h2 : lo < 2 ^ 62) (h3 : -(2 ^ 62) ≤ hi) (h4 : hi < 2 ^ 62)
    (q : R (Itr lo (hi - lo).toNat) H) : wpAny (model X.prog X.w) X.A (pyIter (.ref s.heap.objs.size)) (PIE X pins σ tg R) E { s with heap := s.heap.push { cls := .type "range", data := .fields #[.int lo t, .int hi u, .int 1 v] }, toks := tk } := by
  refine wpAny_pyIter_range (IsRange.new ..) (small_one h1 h2 h3 h4) ?_
  have I1 : Inv X pins σ H { s with heap := s.heap.push { cls := .type "range", data := .fields #[.int lo t, .int hi u, .int 1 v] }, toks := tk } := I.kept fun b o e => Heap.get?_push_of_some _ e
  refine ⟨(s.heap.push { cls := .type "range", data := .fields #[.int lo t, .int hi u, .int 1 v] }).objs.size, [(s.heap.push { cls := .type "range", data := .fields #[.int lo t, .int hi u, .int 1 v] }).objs.size], _, _, H, rfl,
    I1.kept (t' := tk) fun b o e => Heap.get?_push_of_some _ e, turn_range _ lo (hi - lo).toNat, ?_, fun b hb => ?_, q⟩
  · have e1 : lo + ((0 : Nat) : Int) * 1 = lo := by simp
    have e2 : (((hi - lo).toNat : Nat) : Int) - ((0 : Nat) : Int) = Builtin.Range.rangeSize lo hi 1 := by rw [rangeSize_one]; split <;> omega
    show IsRangeIter _ _ (lo + ((0 : Nat) : Int) * 1) ((((hi - lo).toNat : Nat) : Int) - ((0 : Nat) : Int)) 1
    rw [e1, e2]
    exact Heap.get?_push_size _ rfl
  · have e : b = (s.heap.push { cls := .type "range", data := .fields #[.int lo t, .int hi u, .int 1 v] }).objs.size := by simpa using hb
    subst e
    exact I1.fpOk (Nat.le_refl _) (I1.hok.fresh (Nat.le_refl _))
noncomputable def iRng1 (ta : TA) : TI := fun σ H R => ta σ H fun vs H1 => ∃ j : Int, vs = [.int j] ∧ -(2 ^ 62) ≤ j ∧ j < 2 ^ 62 ∧ R (Itr 0 j.toNat) H1
noncomputable def iRng2 (ta : TA) : TI := fun σ H R => ta σ H fun vs H1 => ∃ i j : Int, vs = [.int i, .int j] ∧ (-(2 ^ 62) ≤ i ∧ i < 2 ^ 62 ∧ -(2 ^ 62) ≤ j ∧ j < 2 ^ 62) ∧ R (Itr i (j - i).toNat) H1
theorem pi_range1 {a : Expr} {ta : TA} {p pos : Pos} (hg : Gl X "range") (hm : X.mg "range" = none) (ha : PA X [a] ta) (hs : starEach [a] X.env = [(false, eval a X.env)] := by rfl) : PI X tg (.Call (.Name "range" p) [a] [] pos) (iRng1 ta) := by
  intro pins s σ H R I h
  refine Call_ (ld_blt I hg hm boot_range (PyProof.Rows.callWith_type1 (thn (ha pos pins s σ H _ I h) fun us s1 ⟨vs, H1, I1, r1, q1⟩ => ?_) hs rfl))
  obtain ⟨j, e, q1, q2, q⟩ := q1
  subst e
  cases r1 with
  | cons r rr =>
    cases rr
    obtain ⟨t, rfl⟩ := r
    exact call_range_1 (range_it I1 (by omega) (by omega) q1 q2 (by simpa using q))
theorem pi_range2 {a b : Expr} {ta : TA} {p pos : Pos} (hg : Gl X "range") (hm : X.mg "range" = none) (ha : PA X [a, b] ta) (hs : starEach [a, b] X.env = [(false, eval a X.env), (false, eval b X.env)] := by rfl) (hs2 : starEach [b] X.env = [(false, eval b X.env)] := by rfl) :
    PI X tg (.Call (.Name "range" p) [a, b] [] pos) (iRng2 ta) := by
  intro pins s σ H R I h
  refine Call_ (ld_blt I hg hm boot_range (PyProof.Rows.callWith_type1 (thn (ha pos pins s σ H _ I h) fun us s1 ⟨vs, H1, I1, r1, q1⟩ => ?_) (by rw [hs, hs2]) (by rw [hs2]; rfl)))
  obtain ⟨i, j, e, ⟨q1, q2, q3, q4⟩, q⟩ := q1
  subst e
  cases r1 with
  | cons r rr =>
    cases rr with
    | cons r' rr =>
      cases rr
      obtain ⟨t, rfl⟩ := r
      obtain ⟨t', rfl⟩ := r'
      exact call_range_2 (range_it I1 q1 q2 q3 q4 q)

/-! ### for -/
/-- W: the invariant by the turn and a measure; N: what the body is to reach -/
noncomputable def tFor (wi : TI) (g : TG) (tb : TS) : TS := fun D σ H => wi σ H fun J H1 => ∃ W : Nat → Nat → St → Hp → Prop, (∃ m, W 0 m σ H1) ∧ ∀ i m σ H, W i m σ H →
  (J.stop i H ∧ D.nx σ H) ∨ (J.go i H ∧ ∃ N : St → Hp → Prop, (∀ σ' H', N σ' H' → ∃ m', m' < m ∧ W (i + 1) m' σ' H') ∧ ∀ x H', J.yld i H x H' → g x σ H' fun σ2 H2 => tb { D with nx := N, ct := N, bk := D.nx } σ2 H2)
/-- the records at fp as they stand -/
noncomputable def pinsAt (fp : List Addr) (h : Heap) : List (Addr × Obj) := fp.filterMap fun b => (h.get? b).map fun o => (b, o)
theorem mem_pinsAt {fp : List Addr} {h : Heap} {b : Addr} {o : Obj} (hb : b ∈ fp) (e : h.get? b = some o) : (b, o) ∈ pinsAt fp h := List.mem_filterMap.mpr ⟨b, hb, by rw [e]; rfl⟩
theorem of_pinsAt {fp : List Addr} {h : Heap} {p : Addr × Obj} (hp : p ∈ pinsAt fp h) : p.1 ∈ fp ∧ h.get? p.1 = some p.2 := by
  obtain ⟨b, hb, e⟩ := List.mem_filterMap.mp hp
  cases q : h.get? b with
  | none => rw [q] at e; cases e
  | some o =>
    rw [q] at e
    have e' : (b, o) = p := Option.some.inj e
    subst e'
    exact ⟨hb, q⟩
theorem Inv.pinned {pins : List (Addr × Obj)} {σ : St} {H : Hp} {s : Shared} {fp : List Addr} (I : Inv X pins σ H s) (hf : ∀ b ∈ fp, FpOk X pins H b) (ho : ∀ b ∈ fp, ∃ o, s.heap.get? b = some o ∧ ∀ v, o.data ≠ .cell v) : Inv X (pins ++ pinsAt fp s.heap) σ H s :=
  I.pins_of fun p hp => (List.mem_append.mp hp).elim (fun z => I.pin p (List.mem_append_right _ z)) fun z => by
    obtain ⟨hb, e⟩ := of_pinsAt z
    obtain ⟨f0, f1, f2, _⟩ := hf p.1 hb
    obtain ⟨o, e', d⟩ := ho p.1 hb
    rw [e] at e'; cases e'
    exact ⟨e, f0, f1, f2, d⟩
theorem Inv.unpinned {pins pl : List (Addr × Obj)} {σ : St} {H : Hp} {s : Shared} (I : Inv X (pins ++ pl) σ H s) : Inv X pins σ H s := I.pins_of fun p hp => I.pin p (List.mem_append_right _ (List.mem_append_left _ hp))
theorem ps_for {iter : Expr} {body : List Stmt} {wi : TI} {g : TG} {tb : TS} {pos : Pos} (hp : PassesOwn (model X.prog X.w) X.A X.env X.xe) (hc : X.calm = true) (hi : PI X tg iter wi) (hg : PG X tg g) (hb : PSs X body tb)
    (hs : ∀ x, foldedSetIterable iter X.env x = pure x := by intro _; rfl) : PS X (.For tg iter body [] pos) (tFor wi g tb) := by
  intro pins s σ H D I h
  refine wpAny_For (thn (hi pins s σ H _ I h) fun v s1 h1 => thn h1 fun itv s2 h2 => ?_) hs
  obtain ⟨it, fp, tn, J, H2, e, I2, T, st2, f2, W, ⟨m0, w0⟩, turn⟩ := h2
  subst e
  -- what stays true of the iterator's objects through the loop
  have stat : ∀ {H' : Hp}, (∀ b ∈ fp, H' b = none) → ∀ b ∈ fp, FpOk X pins H' b := fun hn b hb => ⟨hn b hb, (f2 b hb).2⟩
  refine codeAny_forLoop_any (fun n s' => ∃ i σ' H', Inv X pins σ' H' s' ∧ tn i s'.heap ∧ (∀ b ∈ fp, H' b = none) ∧ W i n σ' H') ?_ m0 ⟨0, σ, H2, I2, st2, fun b hb => (f2 b hb).1, w0⟩
  rintro n s3 ⟨i, σ3, H3, I3, st3, fr3, w3⟩
  rcases turn i n σ3 H3 w3 with ⟨stop, qn⟩ | ⟨go, N, hN, step⟩
  · refine wpAny_passesOwn hp (thn (T.done X rfl rfl rfl hc i pins s3 σ3 H3 X.xe I3 (stat fr3) st3 stop) fun r s4 ⟨hr, I4⟩ => ?_)
    subst hr
    exact wpAny_execs_nil ⟨σ3, H3, I4, qn⟩
  · refine wpAny_passesOwn hp (thn (T.item X rfl rfl rfl hc i pins s3 σ3 H3 X.xe I3 (stat fr3) st3 go) fun r s4 ⟨u, hr, h4⟩ => ?_)
    subst hr
    refine wpAny_passesOwn hp (thn h4 fun _ s5 ⟨x, H5, I5, r5, y5, st5, fr5⟩ => ?_)
    have I5' := I5.pinned (stat fr5) (T.obj _ _ st5)
    refine wpAny_passesOwn hp (thn (hg _ s5 σ3 H5 x u _ I5' r5 (step x H5 y5)) fun _ s6 ⟨σ6, H6, I6, q6⟩ => ?_)
    refine wpAny_passesOwn hp (thn (hb _ s6 σ6 H6 _ I6 q6) fun f s7 q7 => ?_)
    have again : ∀ {σ7 : St} {H7 : Hp}, Inv X (pins ++ pinsAt fp s5.heap) σ7 H7 s7 → N σ7 H7 → ∃ m, m < n ∧ ∃ i σ' H', Inv X pins σ' H' s7 ∧ tn i s7.heap ∧ (∀ b ∈ fp, H' b = none) ∧ W i m σ' H' := fun {σ7 H7} I7 n7 => by
      obtain ⟨m', hm, w7⟩ := hN σ7 H7 n7
      refine ⟨m', hm, i + 1, σ7, H7, I7.unpinned, T.keep _ _ _ st5 fun b hb o e => (I7.pin (b, o) (List.mem_append_right _ (List.mem_append_right _ (mem_pinsAt hb e)))).1, fun b hb => ?_, w7⟩
      obtain ⟨o, e, d⟩ := T.obj _ _ st5 b hb
      exact (I7.pin (b, o) (List.mem_append_right _ (List.mem_append_right _ (mem_pinsAt hb e)))).2.1
    cases f with
    | next => obtain ⟨σ7, H7, I7, n7⟩ := q7; exact again I7 n7
    | cont => obtain ⟨σ7, H7, I7, n7⟩ := q7; exact again I7 n7
    | brk => obtain ⟨σ7, H7, I7, q7⟩ := q7; exact ⟨σ7, H7, I7.unpinned, q7⟩
    | ret v => obtain ⟨x7, σ7, H7, I7, r7, q7⟩ := q7; exact ⟨x7, σ7, H7, I7.unpinned, r7, q7⟩
end

/-! ### the forms one uses -/
/-- over a list that the body leaves as it is -/
theorem for_list {K : PySem.W.Frag} {a : Addr} {xs : List V} {g : TG} {tb : TS} {D : Ends} {σ : St} {H : Hp} (Pv : Nat → St → Hp → Prop) (h0 : Pv 0 σ H) (hl : ∀ i σ H, i ≤ xs.length → Pv i σ H → SqL K H a xs)
    (hs : ∀ i x σ H, xs[i]? = some x → Pv i σ H → g x σ H fun σ2 H2 => tb { D with nx := Pv (i + 1), ct := Pv (i + 1), bk := D.nx } σ2 H2) (hd : ∀ σ H, Pv xs.length σ H → D.nx σ H) :
    ∃ W : Nat → Nat → St → Hp → Prop, (∃ m, W 0 m σ H) ∧ ∀ i m σ H, W i m σ H →
      ((Itl K a).stop i H ∧ D.nx σ H) ∨ ((Itl K a).go i H ∧ ∃ N : St → Hp → Prop, (∀ σ' H', N σ' H' → ∃ m', m' < m ∧ W (i + 1) m' σ' H') ∧ ∀ x H', (Itl K a).yld i H x H' → g x σ H' fun σ2 H2 => tb { D with nx := N, ct := N, bk := D.nx } σ2 H2) := by
  refine ⟨fun i m σ H => m = xs.length - i ∧ i ≤ xs.length ∧ Pv i σ H, ⟨xs.length, by simp, Nat.zero_le _, h0⟩, ?_⟩
  rintro i m σ H ⟨rfl, hi, p⟩
  have q := hl i σ H hi p
  by_cases hlt : i < xs.length
  · refine .inr ⟨⟨xs, xs[i], q, by simp [hlt]⟩, Pv (i + 1), fun σ' H' p' => ⟨xs.length - (i + 1), by omega, rfl, hlt, p'⟩, fun x H' y => ?_⟩
    obtain ⟨e, y⟩ := y
    subst e
    exact hs i x σ _ (y xs q) p
  · have e : i = xs.length := by omega
    subst e
    exact .inl ⟨⟨xs, q, Nat.le_refl _⟩, hd σ H p⟩
theorem for_tup {K : PySem.W.Frag} {a : Addr} {xs : List V} {g : TG} {tb : TS} {D : Ends} {σ : St} {H : Hp} (Pv : Nat → St → Hp → Prop) (h0 : Pv 0 σ H) (hl : ∀ i σ H, i ≤ xs.length → Pv i σ H → SqT K H a xs)
    (hs : ∀ i x σ H, xs[i]? = some x → Pv i σ H → g x σ H fun σ2 H2 => tb { D with nx := Pv (i + 1), ct := Pv (i + 1), bk := D.nx } σ2 H2) (hd : ∀ σ H, Pv xs.length σ H → D.nx σ H) :
    ∃ W : Nat → Nat → St → Hp → Prop, (∃ m, W 0 m σ H) ∧ ∀ i m σ H, W i m σ H →
      ((Itt K a).stop i H ∧ D.nx σ H) ∨ ((Itt K a).go i H ∧ ∃ N : St → Hp → Prop, (∀ σ' H', N σ' H' → ∃ m', m' < m ∧ W (i + 1) m' σ' H') ∧ ∀ x H', (Itt K a).yld i H x H' → g x σ H' fun σ2 H2 => tb { D with nx := N, ct := N, bk := D.nx } σ2 H2) := by
  refine ⟨fun i m σ H => m = xs.length - i ∧ i ≤ xs.length ∧ Pv i σ H, ⟨xs.length, by simp, Nat.zero_le _, h0⟩, ?_⟩
  rintro i m σ H ⟨rfl, hi, p⟩
  have q := hl i σ H hi p
  by_cases hlt : i < xs.length
  · refine .inr ⟨⟨xs, xs[i], q, by simp [hlt]⟩, Pv (i + 1), fun σ' H' p' => ⟨xs.length - (i + 1), by omega, rfl, hlt, p'⟩, fun x H' y => ?_⟩
    obtain ⟨e, y⟩ := y
    subst e
    exact hs i x σ _ (y xs q) p
  · have e : i = xs.length := by omega
    subst e
    exact .inl ⟨⟨xs, q, Nat.le_refl _⟩, hd σ H p⟩
theorem for_range {lo : Int} {n : Nat} {g : TG} {tb : TS} {D : Ends} {σ : St} {H : Hp} (Pv : Nat → St → Hp → Prop) (h0 : Pv 0 σ H)
    (hs : ∀ i σ H, i < n → Pv i σ H → g (.int (lo + i)) σ H fun σ2 H2 => tb { D with nx := Pv (i + 1), ct := Pv (i + 1), bk := D.nx } σ2 H2) (hd : ∀ σ H, Pv n σ H → D.nx σ H) :
    ∃ W : Nat → Nat → St → Hp → Prop, (∃ m, W 0 m σ H) ∧ ∀ i m σ H, W i m σ H →
      ((Itr lo n).stop i H ∧ D.nx σ H) ∨ ((Itr lo n).go i H ∧ ∃ N : St → Hp → Prop, (∀ σ' H', N σ' H' → ∃ m', m' < m ∧ W (i + 1) m' σ' H') ∧ ∀ x H', (Itr lo n).yld i H x H' → g x σ H' fun σ2 H2 => tb { D with nx := N, ct := N, bk := D.nx } σ2 H2) := by
  refine ⟨fun i m σ H => m = n - i ∧ i ≤ n ∧ Pv i σ H, ⟨n, by simp, Nat.zero_le _, h0⟩, ?_⟩
  rintro i m σ H ⟨rfl, hi, p⟩
  by_cases hlt : i < n
  · refine .inr ⟨hlt, Pv (i + 1), fun σ' H' p' => ⟨n - (i + 1), by omega, rfl, hlt, p'⟩, fun x H' y => ?_⟩
    obtain ⟨e, y⟩ := y
    subst e y
    exact hs i σ _ hlt p
  · have e : i = n := by omega
    subst e
    exact .inl ⟨Nat.le_refl _, hd σ H p⟩
end L2

namespace L2
open PySem PySem.Spec PyProof.Rows

noncomputable abbrev R2 := V → V → Hp → VK → Prop
/-- a two-place operation on values: f is binaryOp op, inplaceOp op or compareOp op -/
noncomputable def OpR (X : Cx) (f : Value → Value → Sem Value) (r : R2) : Prop :=
  ∀ (pins : List (Addr × Obj)) (s : Shared) (σ : St) (H : Hp) (x y : V) (v u : Value) (Q : VK), Inv X pins σ H s → RelV x v → RelV y u → r x y H Q →
    wpAny (model X.prog X.w) X.A (f v u) (EP X pins σ Q) X.xe s
/-- a one-place operation -/
noncomputable def UnR (X : Cx) (f : Value → Sem Value) (r : V → Hp → VK → Prop) : Prop :=
  ∀ (pins : List (Addr × Obj)) (s : Shared) (σ : St) (H : Hp) (x : V) (v : Value) (Q : VK), Inv X pins σ H s → RelV x v → r x H Q →
    wpAny (model X.prog X.w) X.A (f v) (EP X pins σ Q) X.xe s
/-- a call of a value that is known (a builtin, a type) with values -/
noncomputable def CallR (X : Cx) (f : Value) (r : List V → Hp → VK → Prop) : Prop :=
  ∀ (pins : List (Addr × Obj)) (s : Shared) (σ : St) (H : Hp) (xs : List V) (us : List Value) (Q : VK), Inv X pins σ H s → Vals xs us → r xs H Q →
    wpAny (model X.prog X.w) X.A (call f us) (EP X pins σ Q) X.xe s

noncomputable def tOp (r : R2) (ta tb : TE) : TE := fun σ H Q => ta σ H fun x H1 => tb σ H1 fun y H2 => r x y H2 Q
noncomputable def tUn (r : V → Hp → VK → Prop) (ta : TE) : TE := fun σ H Q => ta σ H fun x H1 => r x H1 Q
/-- ints in, under C, and a value out -/
noncomputable def rI (C : Int → Int → Prop) (g : Int → Int → V) : R2 := fun x y H Q => ∃ i j, x = .int i ∧ y = .int j ∧ C i j ∧ Q (g i j) H
noncomputable def rI0 (g : Int → Int → V) : R2 := fun x y H Q => ∃ i j, x = .int i ∧ y = .int j ∧ Q (g i j) H
noncomputable def rU (g : Int → V) : V → Hp → VK → Prop := fun x H Q => ∃ i, x = .int i ∧ Q (g i) H

section
variable {X : Cx} {a b c : Expr} {ta tb tc : TE} {pos : Pos}

theorem binT (ha : PE X a ta) (hb : PE X b tb) {pins : List (Addr × Obj)} {s : Shared} {σ : St} {H : Hp} {R : V → V → Hp → Prop} (I : Inv X pins σ H s)
    (h : ta σ H fun x H1 => tb σ H1 fun y H2 => R x y H2) {Q : Value → Shared → Prop} {f : Value → Value → Sem Value}
    (hf : ∀ v u s2 x y H2, Inv X pins σ H2 s2 → RelV x v → RelV y u → R x y H2 → wpAny (model X.prog X.w) X.A (f v u) Q X.xe s2) :
    wpAny (model X.prog X.w) X.A (eval a X.env) (fun v s₁ => wpAny (model X.prog X.w) X.A (eval b X.env) (fun u s₂ => wpAny (model X.prog X.w) X.A (f v u) Q X.xe s₂) X.xe s₁) X.xe s := by
  refine thn (ha pins s σ H _ I h) fun v s1 ⟨x, H1, I1, r1, q1⟩ => ?_
  refine thn (hb pins s1 σ H1 _ I1 q1) fun u s2 ⟨y, H2, I2, r2, q2⟩ => ?_
  exact hf v u s2 x y H2 I2 r1 r2 q2

theorem pe_op {op : Operator} {r : R2} (ho : OpR X (binaryOp op) r) (ha : PE X a ta) (hb : PE X b tb) : PE X (.BinOp a op b pos) (tOp r ta tb) := by
  intro pins s σ H Q I h
  exact wpAny_BinOp (binT ha hb I h fun v u s2 x y H2 I2 rx ry q => ho pins s2 σ H2 x y v u Q I2 rx ry q)
theorem pe_un {op : UnaryOp} {r : V → Hp → VK → Prop} (ho : UnR X (unaryOp op) r) (ha : PE X a ta) : PE X (.UnaryOp op a pos) (tUn r ta) := by
  intro pins s σ H Q I h
  exact UnaryOp_ (thn (ha pins s σ H _ I h) fun v s1 ⟨x, H1, I1, r1, q1⟩ => ho pins s1 σ H1 x v Q I1 r1 q1)

/-! ### ints -/
theorem opI {f : Value → Value → Sem Value} {C : Int → Int → Prop} {g : Int → Int → Int}
    (rule : ∀ (i j : Int) (t u : Tok) (s : Shared) (Q : Value → Shared → Prop) (E : Value → Shared → Prop), C i j → Q (.int (g i j) s.toks) { s with toks := s.toks + 1 } → wpAny (model X.prog X.w) X.A (f (.int i t) (.int j u)) Q E s) :
    OpR X f (rI C fun i j => .int (g i j)) := by
  intro pins s σ H x y v u Q I rx ry h
  obtain ⟨i, j, rfl, rfl, hc, q⟩ := h
  obtain ⟨t, rfl⟩ := rx
  obtain ⟨t', rfl⟩ := ry
  exact rule i j t t' s _ _ hc ⟨.int (g i j), H, I.tok _, ⟨_, rfl⟩, q⟩
theorem opI0 {f : Value → Value → Sem Value} {g : Int → Int → Int}
    (rule : ∀ (i j : Int) (t u : Tok) (s : Shared) (Q : Value → Shared → Prop) (E : Value → Shared → Prop), Q (.int (g i j) s.toks) { s with toks := s.toks + 1 } → wpAny (model X.prog X.w) X.A (f (.int i t) (.int j u)) Q E s) :
    OpR X f (rI0 fun i j => .int (g i j)) := by
  intro pins s σ H x y v u Q I rx ry h
  obtain ⟨i, j, rfl, rfl, q⟩ := h
  obtain ⟨t, rfl⟩ := rx
  obtain ⟨t', rfl⟩ := ry
  exact rule i j t t' s _ _ ⟨.int (g i j), H, I.tok _, ⟨_, rfl⟩, q⟩
theorem opB0 {f : Value → Value → Sem Value} {g : Int → Int → Bool}
    (rule : ∀ (i j : Int) (t u : Tok) (s : Shared) (Q : Value → Shared → Prop) (E : Value → Shared → Prop), Q (.bool (g i j)) s → wpAny (model X.prog X.w) X.A (f (.int i t) (.int j u)) Q E s) :
    OpR X f (rI0 fun i j => .bl (g i j)) := by
  intro pins s σ H x y v u Q I rx ry h
  obtain ⟨i, j, rfl, rfl, q⟩ := h
  obtain ⟨t, rfl⟩ := rx
  obtain ⟨t', rfl⟩ := ry
  exact rule i j t t' s _ _ ⟨.bl (g i j), H, I, rfl, q⟩

noncomputable def CPow (i j : Int) : Prop := 0 ≤ j ∧ j ≤ 1000000 ∧ i.natAbs < 2 ^ 64
noncomputable def CMul (i j : Int) : Prop := (-(2 ^ 64) < i ∧ i < 2 ^ 64) ∨ (-(2 ^ 64) < j ∧ j < 2 ^ 64)
theorem CMul.ok {i j : Int} (h : CMul i j) : IntMulOk i j := by
  rcases h with ⟨h1, h2⟩ | ⟨h1, h2⟩
  · exact .of_left (intBits_le_64 h1 h2)
  · exact .of_right (intBits_le_64 h1 h2)

theorem op_add : OpR X (binaryOp .Add) (rI0 fun i j => .int (i + j)) := opI0 fun _ _ _ _ _ _ _ q => add_int q
/-- % by a positive divisor of any size -/
theorem op_mod : OpR X (binaryOp .Mod) (rI (fun _ j => 0 < j) fun i j => .int (i % j)) := opI fun i j _ _ _ _ _ hc q => by
  have h1 : (0 : Int) < j := hc
  exact mod_int' (by omega) (by rw [Int.fmod_eq_emod_of_nonneg i (by omega)]; exact q)


theorem unI {f : Value → Sem Value} {g : Int → Int}
    (rule : ∀ (i : Int) (t : Tok) (s : Shared) (Q : Value → Shared → Prop) (E : Value → Shared → Prop), Q (.int (g i) s.toks) { s with toks := s.toks + 1 } → wpAny (model X.prog X.w) X.A (f (.int i t)) Q E s) :
    UnR X f (rU fun i => .int (g i)) := by
  intro pins s σ H x v Q I rx h
  obtain ⟨i, rfl, q⟩ := h
  obtain ⟨t, rfl⟩ := rx
  exact rule i t s _ _ ⟨.int (g i), H, I.tok _, ⟨_, rfl⟩, q⟩
theorem un_neg : UnR X (unaryOp .USub) (rU fun i => .int (-i)) := unI fun _ _ _ _ _ q => neg_int q

/-! ### bools among ints: n += (a < b) -/
end

/-! ### comparisons -/
/-- the scalars that == tells apart as data does -/
noncomputable def scal : V → V → Bool
  | .non, .non => true | .non, .int _ => true | .int _, .non => true | .non, .bl _ => true | .bl _, .non => true | .non, .str _ => true | .str _, .non => true
  | .int _, .int _ => true | .bl _, .bl _ => true | .str _, .str _ => true | .byt _, .byt _ => true
  | .int _, .str _ => true | .str _, .int _ => true | .bl _, .str _ => true | .str _, .bl _ => true
  | _, _ => false
noncomputable def rEq : R2 := fun x y H Q => scal x y = true ∧ Q (.bl (decide (x = y))) H
noncomputable def rNe : R2 := fun x y H Q => scal x y = true ∧ Q (.bl (!decide (x = y))) H

theorem dec_int {i j : Int} : decide (V.int i = V.int j) = (i == j) := by
  rw [Bool.eq_iff_iff]
  simp
theorem dec_bl {i j : Bool} : decide (V.bl i = V.bl j) = (i == j) := by
  rw [Bool.eq_iff_iff]
  simp
theorem dec_str {i j : Str} : decide (V.str i = V.str j) = (i == j) := by
  rw [Bool.eq_iff_iff]
  simp
theorem dec_byt {i j : Array UInt8} : decide (V.byt i = V.byt j) = (i.toList == j.toList) := by
  rw [Bool.eq_iff_iff]
  cases i
  cases j
  simp

section
variable {X : Cx} {a b c : Expr} {ta tb tc : TE} {pos : Pos}
theorem fin_bl {pins : List (Addr × Obj)} {σ : St} {H : Hp} {s : Shared} {Q : VK} {k k' : Bool} (I : Inv X pins σ H s) (q : Q (.bl k) H) (e : k = k') : EP X pins σ Q (.bool k') s := by
  subst e
  exact ⟨.bl k, H, I, rfl, q⟩
theorem op_eq : OpR X (compareOp .Eq) rEq := by
  intro pins s σ H x y v u Q I rx ry h
  obtain ⟨hs, q⟩ := h
  cases x with
  | non =>
    cases rx
    cases y with
    | non => cases ry; exact PySem.EqNone.eq_none_none (fin_bl I q (by simp))
    | bl j => cases ry; exact PySem.EqNone.eq_none_bool (fin_bl I q (by simp))
    | int j => obtain ⟨t', rfl⟩ := ry; exact PySem.EqNone.eq_none_int (fin_bl I q (by simp))
    | str j => obtain ⟨t', rfl⟩ := ry; exact PySem.EqNone.eq_none_str (fin_bl I q (by simp))
    | _ => exact absurd (show false = true from hs) Bool.false_ne_true
  | bl i =>
    cases rx
    cases y with
    | non => cases ry; exact PySem.EqNone.eq_bool_none (fin_bl I q (by simp))
    | bl j => cases ry; exact eq_bool (fin_bl I q dec_bl)
    | str j => obtain ⟨t', rfl⟩ := ry; exact PySem.EqMixed.eq_bool_str (fin_bl I q (by simp))
    | _ => exact absurd (show false = true from hs) Bool.false_ne_true
  | int i =>
    obtain ⟨t, rfl⟩ := rx
    cases y with
    | non => cases ry; exact PySem.EqNone.eq_int_none (fin_bl I q (by simp))
    | int j => obtain ⟨t', rfl⟩ := ry; exact eq_int (fin_bl I q dec_int)
    | str j => obtain ⟨t', rfl⟩ := ry; exact PySem.EqMixed.eq_int_str (fin_bl I q (by simp))
    | _ => exact absurd (show false = true from hs) Bool.false_ne_true
  | str i =>
    obtain ⟨t, rfl⟩ := rx
    cases y with
    | non => cases ry; exact PySem.EqNone.eq_str_none (fin_bl I q (by simp))
    | bl j => cases ry; exact PySem.EqMixed.eq_str_bool (fin_bl I q (by simp))
    | int j => obtain ⟨t', rfl⟩ := ry; exact PySem.EqMixed.eq_str_int (fin_bl I q (by simp))
    | str j => obtain ⟨t', rfl⟩ := ry; exact eq_str (fin_bl I q dec_str)
    | _ => exact absurd (show false = true from hs) Bool.false_ne_true
  | byt i =>
    obtain ⟨t, rfl⟩ := rx
    cases y with
    | byt j => obtain ⟨t', rfl⟩ := ry; exact PySem.W.eq_bytes (fin_bl I q dec_byt)
    | _ => exact absurd (show false = true from hs) Bool.false_ne_true
  | _ => cases y <;> exact absurd (show false = true from hs) Bool.false_ne_true
theorem op_ne : OpR X (compareOp .NotEq) rNe := by
  intro pins s σ H x y v u Q I rx ry h
  obtain ⟨hs, q⟩ := h
  cases x with
  | non =>
    cases rx
    cases y with
    | non => cases ry; exact PySem.EqNone.ne_none_none (fin_bl I q (by simp))
    | bl j => cases ry; exact PySem.EqNone.ne_none_bool (fin_bl I q (by simp))
    | int j => obtain ⟨t', rfl⟩ := ry; exact PySem.EqNone.ne_none_int (fin_bl I q (by simp))
    | str j => obtain ⟨t', rfl⟩ := ry; exact PySem.EqNone.ne_none_str (fin_bl I q (by simp))
    | _ => exact absurd (show false = true from hs) Bool.false_ne_true
  | bl i =>
    cases rx
    cases y with
    | non => cases ry; exact PySem.EqNone.ne_bool_none (fin_bl I q (by simp))
    | bl j => cases ry; exact ne_bool (fin_bl I q (congrArg not dec_bl))
    | str j => obtain ⟨t', rfl⟩ := ry; exact PySem.EqMixed.ne_bool_str (fin_bl I q (by simp))
    | _ => exact absurd (show false = true from hs) Bool.false_ne_true
  | int i =>
    obtain ⟨t, rfl⟩ := rx
    cases y with
    | non => cases ry; exact PySem.EqNone.ne_int_none (fin_bl I q (by simp))
    | int j => obtain ⟨t', rfl⟩ := ry; exact ne_int (fin_bl I q (congrArg not dec_int))
    | str j => obtain ⟨t', rfl⟩ := ry; exact PySem.EqMixed.ne_int_str (fin_bl I q (by simp))
    | _ => exact absurd (show false = true from hs) Bool.false_ne_true
  | str i =>
    obtain ⟨t, rfl⟩ := rx
    cases y with
    | non => cases ry; exact PySem.EqNone.ne_str_none (fin_bl I q (by simp))
    | bl j => cases ry; exact PySem.EqMixed.ne_str_bool (fin_bl I q (by simp))
    | int j => obtain ⟨t', rfl⟩ := ry; exact PySem.EqMixed.ne_str_int (fin_bl I q (by simp))
    | str j => obtain ⟨t', rfl⟩ := ry; exact ne_str (fin_bl I q (congrArg not dec_str))
    | _ => exact absurd (show false = true from hs) Bool.false_ne_true
  | byt i =>
    obtain ⟨t, rfl⟩ := rx
    cases y with
    | byt j => obtain ⟨t', rfl⟩ := ry; exact PySem.W.ne_bytes (fin_bl I q (congrArg not dec_byt))
    | _ => exact absurd (show false = true from hs) Bool.false_ne_true
  | _ => cases y <;> exact absurd (show false = true from hs) Bool.false_ne_true

theorem op_lt : OpR X (compareOp .Lt) (rI0 fun i j => .bl (decide (i < j))) := opB0 fun _ _ _ _ _ _ _ q => lt_int q
theorem op_gt : OpR X (compareOp .Gt) (rI0 fun i j => .bl (decide (j < i))) := opB0 fun _ _ _ _ _ _ _ q => gt_int q
theorem op_ge : OpR X (compareOp .GtE) (rI0 fun i j => .bl (decide (j ≤ i))) := opB0 fun _ _ _ _ _ _ _ q => ge_int q

/-- is None, is not None: the right side a value none -/
theorem op_isN : OpR X (compareOp .Is) (fun x y H Q => y = .non ∧ Q (.bl (decide (x = .non))) H) := by
  intro pins s σ H x y v u Q I rx ry h
  obtain ⟨rfl, q⟩ := h
  cases ry
  refine is_none_gen (fin_bl I q ?_)
  cases x <;> first
    | (cases rx; rfl)
    | (obtain ⟨t, rfl⟩ := rx; rfl)
theorem op_notN : OpR X (compareOp .IsNot) (fun x y H Q => y = .non ∧ Q (.bl (!decide (x = .non))) H) := by
  intro pins s σ H x y v u Q I rx ry h
  obtain ⟨rfl, q⟩ := h
  cases ry
  refine isnot_none_gen (fin_bl I q ?_)
  cases x <;> first
    | (cases rx; rfl)
    | (obtain ⟨t, rfl⟩ := rx; rfl)



theorem nomark (b : Expr) {op : CmpOp} (h : op ≠ .In := by decide) (h2 : op ≠ .NotIn := by decide) : behindInMarks op b = false := by
  have e1 : (op == CmpOp.In) = false := by cases op <;> first | rfl | exact absurd rfl h
  have e2 : (op == CmpOp.NotIn) = false := by cases op <;> first | rfl | exact absurd rfl h2
  cases b <;> simp [behindInMarks, e1, e2]
/-- a comparison as a value; hm: nomark b, or (for in, not in) by with_unfolding_all rfl -/
theorem pe_cmpR {op : CmpOp} {r : R2} (ho : OpR X (compareOp op) r) (ha : PE X a ta) (hb : PE X b tb) (hm : behindInMarks op b = false) : PE X (.Compare a [op] [b] pos) (tOp r ta tb) := by
  intro pins s σ H Q I h
  exact wpAny_Compare1 (binT ha hb I h fun v u s2 x y H2 I2 rx ry q => ho pins s2 σ H2 x y v u Q I2 rx ry q) hm
/-- a reading of a value as a test -/
noncomputable def tTest (t : TE) : TT := fun σ H Q => t σ H fun x H' => ∃ k, x = .bl k ∧ Q k H'
theorem pt_cmpR {op : CmpOp} {r : R2} (ho : OpR X (compareOp op) r) (ha : PE X a ta) (hb : PE X b tb) (hm : behindInMarks op b = false) : PT X (.Compare a [op] [b] pos) (tTest (tOp r ta tb)) := by
  intro pins s σ H Q I h
  refine wpAny_isTrue_Compare1 (thn (ha pins s σ H _ I h) fun v s1 ⟨x, H1, I1, r1, q1⟩ => thn (hb pins s1 σ H1 _ I1 q1) fun u s2 ⟨y, H2, I2, r2, q2⟩ =>
    thn (ho pins s2 σ H2 x y v u _ I2 r1 r2 q2) fun c s3 ⟨z, H3, I3, r3, k, e, q3⟩ => ?_) hm
  subst e
  cases r3
  exact wpAny_truthy_bool ⟨H3, I3, q3⟩

/-! ### truth -/
theorem line63 : (sizeLine : Nat) < 2 ^ 63 := by rw [sizeLine_eq]; decide

/-! ### strs and bytes -/


/-! ### scalar builtins, by CallR -/
theorem vals1 {x : V} {us : List Value} (r : Vals [x] us) : ∃ u, us = [u] ∧ RelV x u := by
  cases r with
  | cons r1 r2 => cases r2; exact ⟨_, rfl, r1⟩
theorem vals2 {x y : V} {us : List Value} (r : Vals [x, y] us) : ∃ u w', us = [u, w'] ∧ RelV x u ∧ RelV y w' := by
  cases r with
  | cons r1 r2 =>
    cases r2 with
    | cons r3 r4 => cases r4; exact ⟨_, _, rfl, r1, r3⟩
theorem call_min2 (hc : X.calm = true) : CallR X (.builtin "min") (fun xs H Q => ∃ i j, xs = [.int i, .int j] ∧ Q (.int (if j < i then j else i)) H) := by
  intro pins s σ H xs us Q I r h
  obtain ⟨i, j, rfl, q⟩ := h
  obtain ⟨u, w', rfl, ⟨t, rfl⟩, ⟨t', rfl⟩⟩ := vals2 r
  refine min_two_ints (I.ok.hd hc) fun h' tk k => ⟨_, H, I.kept k, ?_, q⟩
  by_cases hj : j < i
  · rw [if_pos hj, if_pos hj]; exact ⟨_, rfl⟩
  · rw [if_neg hj, if_neg hj]; exact ⟨_, rfl⟩
theorem call_int1 : CallR X (.type "int") (fun xs H Q => (∃ i, xs = [.int i] ∧ Q (.int i) H) ∨ ∃ k, xs = [.bl k] ∧ Q (.int (if k then 1 else 0)) H) := by
  intro pins s σ H xs us Q I r h
  rcases h with ⟨i, rfl, q⟩ | ⟨k, rfl, q⟩
  · obtain ⟨u, rfl, t, rfl⟩ := vals1 r
    exact call_int_int ⟨.int i, H, I, ⟨_, rfl⟩, q⟩
  · obtain ⟨u, rfl, r1⟩ := vals1 r
    cases r1
    exact call_int_bool ⟨.int (if k then 1 else 0), H, I.tok _, ⟨_, rfl⟩, q⟩
end
end L2

namespace L2
open PySem PySem.Spec PyProof.Rows

/-! ### an instance, its attributes a map -/
structure ObjM (h : Heap) (x dx C : Addr) (mA : Str → Option Value) : Prop where
  obj : h.get? x = some (PySem.W.instObj C dx)
  ns : h.Ns1 dx mA
  ne : dx ≠ x

theorem lookIn_ns {h : Heap} {dx : Addr} {mA : Str → Option Value} (n : h.Ns1 dx mA) : ∃ od, h.get? dx = some od ∧ ∀ name, PySem.W.lookIn name od = some (mA name) := by
  obtain ⟨o, es, ep, ho, hd, hk, _, hm⟩ := n
  refine ⟨o, ho, fun name => ?_⟩
  have e := hm name
  unfold nsFind findBy at e
  rw [← Array.find?_toList] at e
  unfold PySem.W.lookIn
  rw [hd]
  dsimp only
  split
  · rename_i y q
    rw [q] at e
    exact congrArg some e
  · rename_i q
    rw [q] at e
    have a : es.toList.any (·.refKey) = false := by
      rw [List.any_eq_false]
      intro y hy
      obtain ⟨z, t, hkey⟩ := hk y (Array.mem_toList_iff.mp hy)
      simp [DictEntry.refKey, hkey]
    have a' : ¬ es.toList.any (·.refKey) = true := by rw [a]; exact Bool.false_ne_true
    rw [if_neg a']
    exact congrArg some e

theorem ObjM.look {h : Heap} {x dx C : Addr} {mA : Str → Option Value} (I : ObjM h x dx C mA) : ∃ od, PySem.W.InstAt h x (PySem.W.instObj C dx) C (some od) ∧ ∀ name, PySem.W.lookIn name od = some (mA name) :=
  let ⟨od, ho, hl⟩ := lookIn_ns I.ns
  ⟨od, ⟨I.obj, rfl, rfl, ho⟩, hl⟩

section
variable {prog : Program} {w : World} {A : Around} {E : Value → Shared → Prop} {s : Shared} {K : PySem.W.Frag} {x dx C f : Addr} {mA : Str → Option Value} {name : Str} {v : Value}





end

/-! ### the attributes as a list of pairs -/


section
variable {P : Program} {w : World} {H H' : Hp} {h h' : Heap} {a C dx : Addr} {fs fs' : List (Str × V)}
theorem ins_get (hok : HOk P w H h) (e : H a = some (.ins C dx fs)) : ∃ mA, ObjM h a dx C mA ∧ (∀ f, RelO (fs.lookup f) (mA f)) ∧ PySem.Within mA (fs.map (·.1)) ∧ fs.length ≤ 1000 ∧ H dx = some (.own a) := by
  obtain ⟨d, z, ne, ob, mA, n, r, q⟩ := (show ObjOk P w H h a (.ins C dx fs) from hok a _ e)
  exact ⟨mA, ⟨ob, n, ne⟩, r, q, z, d⟩
end

/-! ### what of the text a class must have -/
structure Cls (K : PySem.W.Frag) (C : Addr) : Prop where
  pg : PySem.W.plainGet K C Str.empty = true
  hd : PySem.W.hasDictIn K C = true
  po : PySem.W.plainOver K C = true
  sa : PySem.W.findIn K (.ref C) "__setattr__" = some (some (.builtin "object.__setattr__"))
theorem Cls.get {K : PySem.W.Frag} {C : Addr} (c : Cls K C) (f : Str) : PySem.W.plainGet K C f = true := c.pg

section
variable {X : Cx} {pins : List (Addr × Obj)} {σ : St} {H : Hp} {s : Shared} {a C dx : Addr} {fs : List (Str × V)} {f : Str} {v : V} {A : Around} {E : Value → Shared → Prop}






end

/-! ### readings and rules -/

section
variable {X : Cx} {o e value : Expr} {f : Str} {pos pos' tpos : Pos} {ta tv : TE}

end

/-! ### isinstance -/
section
variable {X : Cx} {pins : List (Addr × Obj)} {σ : St} {H : Hp} {s : Shared} {A : Around} {E : Value → Shared → Prop} {Q : Value → Shared → Prop} {c : Value} {b : Bool}
/-- the type of a value, as the fragment's deciders take it; for an instance its class -/
inductive TyOf (K : PySem.W.Frag) (H : Hp) : V → Value → Prop where
  | non : TyOf K H .non (.type "NoneType")
  | bl (x : Bool) : TyOf K H (.bl x) (.type "bool")
  | int (i : Int) : TyOf K H (.int i) (.type "int")
  | str (x : Str) : TyOf K H (.str x) (.type "str")
  | flt (x : UInt64) : TyOf K H (.flt x) (.type "float")
  | lst {a : Addr} {xs : List V} (e : H a = some (.lst xs)) : TyOf K H (.ref a) (.type "list")
  | frz {a : Addr} {o : Obj} {xs : List V} (e : H a = some (.frz o (.lst xs))) : TyOf K H (.ref a) (.type "list")
  | tup {a : Addr} {xs : List V} (e : H a = some (.tup xs)) : TyOf K H (.ref a) (.type "tuple")
  | dK {a : Addr} {kvs : List (Key × V)} (e : H a = some (.dK kvs)) : TyOf K H (.ref a) (.type "dict")
  | dT {a : Addr} {kvs : List (List Key × V)} (e : H a = some (.dT kvs)) : TyOf K H (.ref a) (.type "dict")
  | ins {a C dx : Addr} {fs : List (Str × V)} (e : H a = some (.ins C dx fs)) (cl : Cls K C) (ha : PySem.W.findIn K (.ref C) "__class__" = some (some (.builtin "object.__class__")))
      (hn : PySem.W.specialIn K (.builtin "object.__class__") "__get__" = some (some (.builtin "getset_descriptor.__get__"))) (htk : PySem.W.takesIn K (.builtin "object.__class__") = some true)
      (hm : PySem.W.mroIn K C (.type "object") = some true) : TyOf K H (.ref a) (.ref C)
/-- isinstance(x, c) for one class c, a built-in or an own one: kitOne's answer -/
theorem isinst_ok {x : V} {u t : Value} (I : Inv X pins σ H s) (rx : RelV x u) (ty : TyOf X.K H x t) (e : PySem.W.kitOne X.K t c = some b) (h : ∀ tk, Q (.bool b) { s with toks := tk }) :
    wpAny (model X.prog X.w) A (call (.builtin "isinstance") [u, c]) Q E s := by
  cases ty with
  | non => cases (show u = Value.none from rx); exact PySem.W.kia_one PySem.W.kitx_none I.kIn True.intro e (fun z => nomatch z) h
  | bl y => cases (show u = Value.bool y from rx); exact PySem.W.kia_one PySem.W.kitx_bool I.kIn True.intro e (fun z => nomatch z) h
  | int i => obtain ⟨t, q⟩ := (show ∃ t, u = Value.int i t from rx); cases q; exact PySem.W.kia_one PySem.W.kitx_int I.kIn True.intro e (fun z => nomatch z) h
  | str y => obtain ⟨t, q⟩ := (show ∃ t, u = Value.str y t from rx); cases q; exact PySem.W.kia_one PySem.W.kitx_str I.kIn True.intro e (fun z => nomatch z) h
  | flt y => obtain ⟨t, q⟩ := (show ∃ t, u = Value.float y t from rx); cases q; exact PySem.W.kia_one PySem.W.kitx_float I.kIn True.intro e (fun z => nomatch z) h
  | @lst a xs ea =>
    cases (show u = Value.ref a from rx)
    obtain ⟨_, _, n, _, h1⟩ := (show ObjOk X.prog X.w H s.heap a (.lst xs) from I.hok a _ ea)
    exact PySem.W.kia_one PySem.W.kitx_list I.kIn ⟨_, h1, rfl⟩ e (fun z => nomatch z) h
  | @frz a ob xs ea =>
    cases (show u = Value.ref a from rx)
    obtain ⟨_, _, _, n, _, h1⟩ := (show ObjOk X.prog X.w H s.heap a (.frz ob (.lst xs)) from I.hok a _ ea)
    exact PySem.W.kia_one PySem.W.kitx_list I.kIn ⟨_, h1, rfl⟩ e (fun z => nomatch z) h
  | @tup a xs ea =>
    cases (show u = Value.ref a from rx)
    obtain ⟨_, _, _, p⟩ := (show ObjOk X.prog X.w H s.heap a (.tup xs) from I.hok a _ ea)
    obtain ⟨o, h1, h2, _⟩ := p
    exact PySem.W.kia_one PySem.W.kitx_tuple I.kIn ⟨o, h1, h2⟩ e (fun z => nomatch z) h
  | @dK a kvs ea =>
    cases (show u = Value.ref a from rx)
    obtain ⟨_, _, vs, _, p⟩ := (show ObjOk X.prog X.w H s.heap a (.dK kvs) from I.hok a _ ea)
    obtain ⟨o, es, ep, h1, h2, _⟩ := p
    exact PySem.W.kia_one PySem.W.kitx_dict I.kIn ⟨o, h1, h2.1⟩ e (fun z => nomatch z) h
  | @dT a kvs ea =>
    cases (show u = Value.ref a from rx)
    obtain ⟨_, _, xs, _, o, es, ep, h1, h2, _⟩ := (show ObjOk X.prog X.w H s.heap a (.dT kvs) from I.hok a _ ea)
    exact PySem.W.kia_one PySem.W.kitx_dict I.kIn ⟨o, h1, h2.1⟩ e (fun z => nomatch z) h
  | @ins a C dx fs ea cl ha hn htk hm =>
    cases (show u = Value.ref a from rx)
    obtain ⟨mA, O, _⟩ := ins_get I.hok ea
    obtain ⟨od, J, _⟩ := O.look
    exact PySem.W.kia_one (PySem.W.kitx_own (cl.get _) cl.hd ha hn htk hm) I.kIn J e (fun z => nomatch z) h
end
end L2

namespace L2
open PySem PySem.Spec PyProof.Rows

/-! ### room -/
structure Room (k : Nat) (A : Around) : Prop where
  hd : A.handled = none
  dp : A.depth + 3 * k + 5 < recursionLimit
  un : A.units + 16 * k + 200 < cLine
theorem Room.mono {j k : Nat} {A : Around} (r : Room k A) (h : j ≤ k) : Room j A := ⟨r.hd, by have := r.dp; omega, by have := r.un; omega⟩
theorem Room.deeper {k : Nat} {A : Around} (r : Room (k + 1) A) (env : Env) : Room k (A.deeper env) :=
  ⟨r.hd, by have := r.dp; show A.depth + 1 + 3 * k + 5 < _; omega, by have := r.un; show A.units + 3 + 16 * k + 200 < _; omega⟩
theorem Room.depth {k : Nat} {A : Around} (r : Room k A) : A.depth < recursionLimit := by have := r.dp; omega
theorem Room.units {k : Nat} {A : Around} (r : Room k A) : A.units + 64 < cLine := by have := r.un; omega

/-! ### argument lists and displays -/
noncomputable def tNil : TA := fun _ H Q => Q [] H
noncomputable def tCons (ta : TE) (tr : TA) : TA := fun σ H Q => ta σ H fun x H1 => tr σ H1 fun xs H2 => Q (x :: xs) H2
section
variable {X : Cx} {e : Expr} {es : List Expr} {te : TE} {t : TA} {pos : Pos}
theorem pa_nil : PA X [] tNil := fun _ _ _ _ H Q I h => Calls.spliced_nil ⟨[], H, I, .nil, h⟩
theorem pa_cons (ha : PE X e te) (hr : PA X es t) (hs : starEach (e :: es) X.env = (false, eval e X.env) :: starEach es X.env := by rfl) : PA X (e :: es) (tCons te t) := by
  intro pos pins s σ H Q I h
  rw [hs]
  show wpAny _ _ (spliced ((false, eval e X.env) :: backTo pos (starEach es X.env))) _ _ s
  refine Calls.spliced_cons (thn (ha pins s σ H _ I h) fun u s1 ⟨x, H1, I1, r1, q1⟩ => ?_)
  exact thn (hr pos pins s1 σ H1 _ I1 q1) fun us s2 ⟨xs, H2, I2, r2, q2⟩ => ⟨x :: xs, H2, I2, .cons r1 r2, q2⟩

/-- a tuple, a list of written items -/
noncomputable def tTup (t : TA) : TE := fun σ H Q => t σ H fun xs H1 => xs.length ≤ sizeLine ∧ ∀ p, H1 p = none → Q (.ref p) (upd H1 p (.tup xs))
noncomputable def tLst (t : TA) : TE := fun σ H Q => t σ H fun xs H1 => xs.length ≤ sizeLine ∧ ∀ p, H1 p = none → Q (.ref p) (upd H1 p (.lst xs))
theorem pe_tup {x1} (h : PA X es t) : PE X (.Tuple es x1 pos) (tTup t) := by
  intro pins s σ H Q I hq
  refine wpAny_Tuple_spliced (thn (h pos pins s σ H _ I hq) fun us s1 ⟨xs, H1, I1, r, z, q⟩ => ⟨by rw [← r.length]; exact z, ?_⟩)
  have hf : H1 s1.heap.objs.size = none := I1.hok.fresh (Nat.le_refl _)
  refine ⟨.ref s1.heap.objs.size, upd H1 s1.heap.objs.size (.tup xs), I1.laid (t' := s1.toks) (fun b u e => Heap.get?_push_of_some _ e) (Nat.le_refl _) ?_, rfl, q _ hf⟩
  exact ⟨z, us, r, ⟨_, Heap.get?_push_size _ rfl, rfl, _, rfl⟩⟩
theorem pe_lst (h : PA X es t) : PE X (.List es pos) (tLst t) := by
  intro pins s σ H Q I hq
  refine wpAny_List_spliced (thn (h pos pins s σ H _ I hq) fun us s1 ⟨xs, H1, I1, r, z, q⟩ => ⟨by rw [← r.length]; exact z, ?_⟩)
  have hf : H1 s1.heap.objs.size = none := I1.hok.fresh (Nat.le_refl _)
  refine ⟨.ref s1.heap.objs.size, upd H1 s1.heap.objs.size (.lst xs), I1.laid (t' := s1.toks) (fun b u e => Heap.get?_push_of_some _ e) (Nat.le_refl _) ?_, rfl, q _ hf⟩
  exact ⟨z, us, 0, r, Heap.get?_push_size _ rfl⟩
end

/-! ### what a def promises -/
/-- a def's promise: the bound arguments in the parameters' order, the heap, the wanted end, the wanted exception -/
noncomputable abbrev Sp := List V → Hp → VK → XK → Prop
/-- how an exception lies behind a call (file 08 gives it): the callers' frames, abstract heap and state ahead of the call, the wish, the exception, the state -/
noncomputable abbrev CXT := List Env → Hp → Shared → XK → Value → Shared → Prop

/-- the state at a call -/
structure Env0 (P : Program) (w : World) (K : PySem.W.Frag) (mg : Str → Option Value) (base : Heap) (A : Around) (outer : List Env) (s : Shared) (H : Hp) : Prop where
  frames : A.frames = some outer
  mod : Mod K mg base
  bs : ∀ b o, base.get? b = some o → s.heap.get? b = some o ∧ H b = none
  bsz : base.objs.size ≤ s.heap.objs.size
  funs : s.heap.FunFrames base outer
  frf : ∀ b ∈ frs outer, H b = none
  hok : HOk P w H s.heap
  bare : AllBare s.gens
/-- a call's end -/
noncomputable def CE (outer : List Env) (P : Program) (w : World) (H : Hp) (s : Shared) (Q : VK) (u : Value) (s' : Shared) : Prop :=
  ∃ v H', s'.os = s.os ∧ AllBare s'.gens ∧ Un (frs outer) [] H H' s.heap s'.heap ∧ HOk P w H' s'.heap ∧ RelV v u ∧ Q v H'
noncomputable def CR (CX : CXT) (outer : List Env) (P : Program) (w : World) (H : Hp) (s : Shared) (Q : VK) (E : XK) (r : Result) (s' : Shared) : Prop :=
  match r with
  | .ok (.ret u) => CE outer P w H s Q u s'
  | .ok _ => False
  | .error e => CX outer H s E e s'
structure FnOk (P : Program) (w : World) (K : PySem.W.Frag) (mg : Str → Option Value) (base : Heap) (CX : CXT) (k : Nat) (f : Addr) (fd : FuncData) (ps : List Str) (sp : Sp) : Prop where
  len : ∀ vs H Q E, sp vs H Q E → vs.length = ps.length
  run : ∀ (A : Around) (outer : List Env) (s : Shared) (H : Hp) (args : Args) (us : List Value) (vs : List V) (Q : VK) (E : XK), Room k A → Env0 P w K mg base A outer s H → BindsTo s fd args (ps.zip us) → Vals vs us → sp vs H Q E →
    codeAny (model P w) A (.call (.ref f) args) (CR CX outer P w H s Q E) s


section
variable {X : Cx} {pins : List (Addr × Obj)} {σ : St} {H : Hp} {s s' : Shared}
/-- from a body: what a callee wants -/
theorem Inv.env0 (I : Inv X pins σ H s) : Env0 X.prog X.w X.K X.mg X.base X.A X.stack s H :=
  ⟨I.ok.frames, I.ok.mod, I.bs, Nat.le_trans I.ok.bsz I.sz, I.stack, I.stkFree, I.hok, I.bare⟩
/-- behind a call -/
theorem Inv.after {Q : VK} {u : Value} (I : Inv X pins σ H s) (h : CE X.stack X.prog X.w H s Q u s') : EP X pins σ Q u s' := by
  obtain ⟨v, H', os, bare, un, hok, r, q⟩ := h
  obtain ⟨hh, g, d, t, os'⟩ := s'
  obtain rfl : os' = s.os := os
  exact ⟨v, H', I.call (h' := hh) (g' := g) (d' := d) (t' := t) (ch := []) un hok bare (fun b z => absurd z (by simp)), r, q⟩
end

/-! ### calls -/
/-- f(..): the written arguments, then the defaults dvs; E: what is wanted of an exception -/
noncomputable def tCall (sp : Sp) (dvs : List V) (E : XK) (t : TA) : TE := fun σ H Q => t σ H fun vs H1 => sp (vs ++ dvs) H1 Q E

/-- how the parameters are bound: us the positional arguments, kw the keywords' values by name, ds the defaults that fill up -/
noncomputable def Binds (K : PySem.W.Frag) (fd : FuncData) (ps : List Str) (ds : List Value) : Prop :=
  ∀ (s : Shared) (us : List Value), K.In s.heap → (us ++ ds).length = ps.length → BindsTo s fd ⟨us, []⟩ (ps.zip (us ++ ds))
/-- every parameter is given -/
theorem Binds.all {K : PySem.W.Frag} {fd : FuncData} {ps : List Str} (h : ∀ us : List Value, us.length = ps.length → bindArgs fd ⟨us, []⟩ = pure (ps.zip us)) : Binds K fd ps [] := fun s us _ hl => by
  rw [List.append_nil] at hl ⊢
  exact .of_eq (h us hl)

/-- an exception of a callee reaches what this body wants of exceptions -/
noncomputable def Passes (CX : CXT) (X : Cx) (E : XK) : Prop := ∀ (pins : List (Addr × Obj)) (σ : St) (H : Hp) (s : Shared) (e : Value) (s' : Shared), Inv X pins σ H s → CX X.stack H s E e s' → X.xe e s'

section
variable {X : Cx} {CX : CXT} {k : Nat} {f C : Addr} {fd : FuncData} {ps : List Str} {sp : Sp} {dvs : List V} {ds : List Value} {E : XK} {x m : Str} {p pos apos : Pos} {e o : Expr} {es : List Expr} {ta : TE} {t : TA}

/-- the callee runs -/
theorem run_fn {pins : List (Addr × Obj)} {σ : St} {H : Hp} {s : Shared} {Q : VK} {us : List Value} {vs : List V} (F : FnOk X.prog X.w X.K X.mg X.base CX k f fd ps sp) (hr : Room k X.A) (hb : Binds X.K fd ps ds) (hd : Vals dvs ds) (hx : Passes CX X E)
    (I : Inv X pins σ H s) (r : Vals vs us) (h : sp (vs ++ dvs) H Q E) : wpAny (model X.prog X.w) X.A (call (.ref f) us) (EP X pins σ Q) X.xe s := by
  have r2 : Vals (vs ++ dvs) (us ++ ds) := r.append hd
  have hl : (us ++ ds).length = ps.length := by rw [← r2.length]; exact F.len _ _ _ _ h
  refine wpAny_call (codeAny_mono (F.run X.A X.stack s H ⟨us, []⟩ (us ++ ds) (vs ++ dvs) Q E hr I.env0 (hb s us I.kIn hl) r2 h) fun r s' hq => ?_)
  cases r with
  | error e => exact hx pins σ H s e s' I hq
  | ok fl =>
    cases fl with
    | ret u => exact I.after hq
    | next => exact False.elim hq
    | brk => exact False.elim hq
    | cont => exact False.elim hq

theorem pe_call (F : FnOk X.prog X.w X.K X.mg X.base CX k f fd ps sp) (hr : Room k X.A) (hg : Gl X x) (hm : X.mg x = some (.ref f)) (hk : PySem.W.keepIn X.K (.ref f) = true) (hb : Binds X.K fd ps ds) (hd : Vals dvs ds) (hx : Passes CX X E)
    (ha : PA X (e :: es) t) (hdb : (x == ("__debug__" : Str)) = false := by decide) (he : starEach (e :: es) X.env = (false, eval e X.env) :: starEach es X.env := by rfl) (hpl : (backTo pos (starEach es X.env)).any (·.1) = false := by rfl) :
    PE X (.Call (.Name x p) (e :: es) [] pos) (tCall sp dvs E t) := by
  intro pins s σ H Q I h
  refine wpAny_Call_Name_kw (ld_glob I hg hm ?_ hdb)
  refine PySem.W.callWith_K (h₀ := X.base) I.ok.mod.kin hk (thn (ha pos pins s σ H _ I h) fun us s1 ⟨vs, H1, I1, r, q⟩ => ⟨I1.kIn, ?_⟩) he hpl
  exact run_fn F hr hb hd hx I1 r q



end

/-! ### keywords -/
section
variable {X : Cx} {CX : CXT} {k : Nat} {f C : Addr} {fd : FuncData} {ps ks : List Str} {sp : Sp} {E : XK} {x m : Str} {p pos apos kpos : Pos} {e o : Expr} {es : List Expr} {kws : List Keyword} {te ta : TE} {t tk : TA} {nm : Option Str}

variable {g : List Value → List Value → List Value} {gV : List V → List V → List V}
end

/-! ### a def's body keeps its promise -/
/-- names: the parameters first -/
structure FnScope (N P : List Str) (sc : Scope) : Prop where
  kind : sc.kind = .function
  co : sc.isCoroutine = false
  gen : sc.isGenerator = false
  nd : N.Nodup
  pre : N.take P.length = P
  par : ∀ x ∈ P, sc.names.lookup x = some .local ∨ sc.names.lookup x = some .cell
  nofree : ∀ y ∈ sc.names, y.2 ≠ .free

theorem bindL_out {kindOf : Str → Option NameKind} {x : Str} : ∀ {binds : List (Str × Value)} {m : Str → Option Value}, (∀ v, (x, v) ∉ binds) → bindL kindOf binds m x = m x
  | [], _, _ => rfl
  | (n, v) :: r, m, h => by
    unfold bindL
    rw [bindL_out fun w hw => h w (List.mem_cons_of_mem _ hw)]
    split
    · have : x ≠ n := by rintro rfl; exact h v List.mem_cons_self
      simp [this]
    · rfl
theorem bindC_out {kindOf : Str → Option NameKind} {x : Str} : ∀ {binds : List (Str × Value)} {m : Str → Option Value}, (∀ v, (x, v) ∉ binds) → bindC kindOf binds m x = m x
  | [], _, _ => rfl
  | (n, v) :: r, m, h => by
    unfold bindC
    rw [bindC_out fun w hw => h w (List.mem_cons_of_mem _ hw)]
    split
    · rfl
    · have : x ≠ n := by rintro rfl; exact h v List.mem_cons_self
      simp [this]
theorem bindL_get {kindOf : Str → Option NameKind} {x : Str} {v : Value} : ∀ {P : List Str} {vs : List Value} {i : Nat} {m : Str → Option Value}, P.Nodup → P[i]? = some x → vs[i]? = some v → kindOf x = some .local →
    bindL kindOf (P.zip vs) m x = some v
  | [], _, _, _, _, h, _, _ => by simp at h
  | _ :: _, [], _, _, _, _, h, _ => by simp at h
  | p :: P, w :: vs, 0, m, nd, h1, h2, hk => by
    simp at h1 h2; subst h1; subst h2
    show bindL kindOf ((p, w) :: P.zip vs) m p = _
    unfold bindL
    rw [bindL_out fun v hv => (List.nodup_cons.mp nd).1 (List.of_mem_zip hv).1, if_pos hk]
    simp
  | p :: P, w :: vs, i + 1, m, nd, h1, h2, hk => by
    show bindL kindOf ((p, w) :: P.zip vs) m x = _
    unfold bindL
    exact bindL_get (i := i) (List.nodup_cons.mp nd).2 (by simpa using h1) (by simpa using h2) hk
theorem bindC_get {kindOf : Str → Option NameKind} {x : Str} {v : Value} : ∀ {P : List Str} {vs : List Value} {i : Nat} {m : Str → Option Value}, P.Nodup → P[i]? = some x → vs[i]? = some v → kindOf x ≠ some .local →
    bindC kindOf (P.zip vs) m x = some v
  | [], _, _, _, _, h, _, _ => by simp at h
  | _ :: _, [], _, _, _, _, h, _ => by simp at h
  | p :: P, w :: vs, 0, m, nd, h1, h2, hk => by
    simp at h1 h2; subst h1; subst h2
    show bindC kindOf ((p, w) :: P.zip vs) m p = _
    unfold bindC
    rw [bindC_out fun v hv => (List.nodup_cons.mp nd).1 (List.of_mem_zip hv).1, if_neg hk]
    simp
  | p :: P, w :: vs, i + 1, m, nd, h1, h2, hk => by
    show bindC kindOf ((p, w) :: P.zip vs) m x = _
    unfold bindC
    exact bindC_get (i := i) (List.nodup_cons.mp nd).2 (by simpa using h1) (by simpa using h2) hk

/-- the names' values at the entry -/
noncomputable def start (N : List Str) (vs : List V) : St := vs.map some ++ List.replicate (N.length - vs.length) none

/-- the context of a def's body, at its entry; an exception leaves the frame, then lies as CX says -/
noncomputable def cxOf (CX : CXT) (P : Program) (w : World) (K : PySem.W.Frag) (mg : Str → Option Value) (base : Heap) (N : List Str) (qual : Str) (scope : Scope) (f : Addr) (cd : Value) (A : Around) (outer : List Env) (s : Shared) (H : Hp) (E : XK) : Cx where
  prog := P
  w := w
  K := K
  mg := mg
  base := base
  A := A.deeper (envOfC qual scope s.heap.objs.size f cd)
  N := N
  s₀ := s
  H₀ := H
  env := envOfC qual scope s.heap.objs.size f cd
  outer := outer
  stack := envOfC qual scope s.heap.objs.size f cd :: outer
  ex := []
  calm := true
  fn := fun _ => true
  pn := []
  xe := fun e s' => wpAny (model P w) (A.deeper (envOfC qual scope s.heap.objs.size f cd)) (leaving (envOfC qual scope s.heap.objs.size f cd) e) (fun _ s'' => CX outer H s E e s'') (fun e' s'' => CX outer H s E e' s'') s'

theorem cell_has {sc : Scope} {n : Nat} {x : Str} (h : sc.names.lookup x = some .cell) : ∃ c, (cellsFrom n sc.names []).lookup x = some c := by
  have q := PySem.W.cellsFrom_some sc.names n [] (.inl h)
  exact Option.isSome_iff_exists.mp q

theorem inv_start {CX : CXT} {P : Program} {w : World} {K : PySem.W.Frag} {mg : Str → Option Value} {base : Heap} {N ps : List Str} {qual : Str} {scope : Scope} {f : Addr} {cd : Value} {A : Around} {outer : List Env} {s s1 : Shared} {H : Hp} {E : XK} {us : List Value} {vs : List V}
    (S : FnScope N ps scope) (hd : A.handled = none) (e0 : Env0 P w K mg base A outer s H) (hl : vs.length = ps.length) (r : Vals vs us)
    (x : InCallC s s.heap.objs.size (bindL (envOfC qual scope s.heap.objs.size f cd).kindOf (ps.zip us) fun _ => none) (cellsFrom (s.heap.objs.size + 1) scope.names []) (bindC (envOfC qual scope s.heap.objs.size f cd).kindOf (ps.zip us) fun _ => none) s1) :
    Inv (cxOf CX P w K mg base N qual scope f cd A outer s H E) [] (start N vs) H s1 := by
  have hpl : ps.length ≤ N.length := by have := congrArg List.length S.pre; rw [List.length_take] at this; omega
  obtain ⟨h1, tk, rfl, hk⟩ := x.done
  have noA : ∀ b : Addr, b ∉ (cxOf CX P w K mg base N qual scope f cd A outer s H E).ex := fun b z => absurd (show b ∈ ([] : List Addr) from z) (by simp)
  refine ⟨⟨e0.mod, S.kind, rfl, rfl, Nat.le_refl _, fun y z c h1 h2 => ?_, fun y hy => ?_, fun y c _ h => ?_, fun _ => hd, Around.frames_deeper e0.frames, .inr ⟨rfl, rfl⟩, fun b z => absurd z (noA b), e0.bs, e0.bsz, fun b _ _ => noA b, fun b z => absurd z (noA b), e0.funs, e0.frf⟩,
    rfl, e0.bare, Un.kept hk, ⟨_, x.toInCall.ns, fun i y v h1 h2 h3 => ?_⟩, fun y c h => ⟨_, x.cell y c h⟩, e0.hok.fresh (Nat.le_refl _), fun y c h => ?_, fun p hp => absurd (show p ∈ ([] : List (Addr × Obj)) from hp) (by simp), e0.hok.kept hk, ?_⟩
  · exact name_of_addr x.apart (PySem.mem_of_lookup h1) (PySem.mem_of_lookup h2)
  · have hy : scope.names.lookup y = some .cell ∨ scope.names.lookup y = some .free := hy
    rcases hy with hy | hy
    · exact cell_has hy
    · exact absurd rfl (S.nofree _ (PySem.mem_of_lookup hy))
  · exact Nat.le_of_lt (x.above y c (PySem.mem_of_lookup h))
  · have hi : i < vs.length := by
      unfold start at h2
      by_cases hi : i < vs.length
      · exact hi
      · rw [List.getElem?_append_right (by simpa using hi)] at h2
        rw [List.getElem?_replicate] at h2
        split at h2 <;> cases h2
    have ha : vs[i]? = some v := by
      unfold start at h2
      rw [List.getElem?_append_left (by simpa using hi), List.getElem?_map] at h2
      cases e : vs[i]? with
      | none => rw [e] at h2; cases h2
      | some a => rw [e] at h2; cases h2; rfl
    obtain ⟨u, hu, rv⟩ := r.get ha
    have hp : ps[i]? = some y := by
      rw [← S.pre, List.getElem?_take_of_lt (by omega)]; exact h1
    have ndP : ps.Nodup := by rw [← S.pre]; exact S.nd.sublist (List.take_sublist _ _)
    refine ⟨u, rv, ?_⟩
    rcases S.par y (List.mem_of_getElem? hp) with k | k
    · exact .inl ⟨k, bindL_get ndP hp hu k⟩
    · obtain ⟨c, e⟩ := cell_has (n := s.heap.objs.size + 1) k
      refine .inr ⟨.inl k, c, e, ?_⟩
      have q := x.cell y c e
      rw [bindC_get ndP hp hu (by show scope.names.lookup y ≠ _; rw [k]; decide)] at q
      exact q
  · exact e0.hok.fresh (Nat.le_of_lt (x.above y c (PySem.mem_of_lookup h)))
  · unfold start
    show _ = N.length
    rw [List.length_append, List.length_map, List.length_replicate]
    omega

/-- THE RULE: a def (or a method) of the text, by its body. The body's reading t is chosen for each entry; it is run at the parameters' values -/
theorem fn_of {CX : CXT} {P : Program} {w : World} {K : PySem.W.Frag} {mg : Str → Option Value} {base : Heap} {k : Nat} {f : Addr} {name qual : Str} {params : Arguments} {body : List Stmt} {scope : Scope} {dV kV doc pm cdv ct oc : Value} {an od : Option Addr}
    {osl : Array (Option Value)} {N ps : List Str} {sp : Sp} (lk : K.lookup f = some ⟨oc, od, .func (PySem.W.fnOf name qual params body scope dV kV doc pm an cdv ct), osl⟩) (hcd : PySem.W.codeIn K cdv qual = true) (S : FnScope N ps scope)
    (len : ∀ vs H Q E, sp vs H Q E → vs.length = ps.length)
    (hbody : ∀ (A : Around) (outer : List Env) (s : Shared) (H : Hp) (vs : List V) (Q : VK) (E : XK), Room k (A.deeper (envOfC qual scope s.heap.objs.size f cdv)) → sp vs H Q E →
      ∃ t, PSs (cxOf CX P w K mg base N qual scope f cdv A outer s H E) body t ∧ t { nx := fun _ H' => Q .non H', rt := Q } (start N vs) H) :
    FnOk P w K mg base CX (k + 1) f (PySem.W.fnOf name qual params body scope dV kV doc pm an cdv ct) ps sp := by
  refine ⟨len, fun A outer s H args us vs Q E hr e0 hb r hsp => ?_⟩
  have hl := len _ _ _ _ hsp
  have KX : K.In s.heap := e0.mod.kin.keeps fun b o e => (e0.bs b o e).1
  have lim : s.heap.NoLimit := e0.mod.nolimit.keeps fun b o e => (e0.bs b o e).1
  have hkind : ∀ y ∈ ps.zip us, scope.names.lookup y.1 = some .local ∨ (scope.names.lookup y.1 = some .cell ∧ ((cellsFrom (s.heap.objs.size + 1) scope.names []).lookup y.1).isSome = true) := fun ⟨n, v⟩ hy => by
    rcases S.par n (List.of_mem_zip hy).1 with q | q
    · exact .inl q
    · exact .inr ⟨q, PySem.W.cellsFrom_some _ _ _ (.inl q)⟩
  refine codeAny_call_function hr.depth (KX _ _ lk) rfl S.co S.gen rfl (PySem.W.codeRec_of KX hcd) (hb _ _ _ _ ?_)
  refine wpAny_newFunctionEnv_cells S.kind hkind fun env he s1 x => ?_
  subst he
  refine ⟨lim.keeps x.toInCall.keep, codeAny_func ?_⟩
  obtain ⟨t, ht, hq⟩ := hbody A outer s H vs Q E (hr.deeper _) hsp
  have I : Inv (cxOf CX P w K mg base N qual scope f cdv A outer s H E) [] (start N vs) H s1 := inv_start S hr.hd e0 hl r x
  refine wpAny_mono (ht [] s1 (start N vs) H _ I hq) (fun fl s' hs => ?_) fun e s' hs => hs
  have fin : ∀ {σ' : St} {H' : Hp} {v : V} {u : Value}, Inv (cxOf CX P w K mg base N qual scope f cdv A outer s H E) [] σ' H' s' → RelV v u → Q v H' → CE outer P w H s Q u s' :=
    fun {σ' H' v u} J rv q => ⟨v, H', J.os, J.bare, J.base, J.hok, rv, q⟩
  cases fl with
  | ret u =>
    obtain ⟨v, σ', H', J, rv, q⟩ := hs
    exact fin J rv q
  | next =>
    obtain ⟨σ', H', J, q⟩ := hs
    exact fin (v := V.non) (u := Value.none) J rfl q
  | brk =>
    obtain ⟨_, _, _, q⟩ := hs
    exact False.elim q
  | cont =>
    obtain ⟨_, _, _, q⟩ := hs
    exact False.elim q
end L2

namespace L2
open PySem PySem.Spec PyProof.Rows
section
variable {X : Cx} {x : Str} {p pos : Pos} {e : Expr} {es : List Expr} {t : TA} {id T : String} {r : List V → Hp → VK → Prop}

noncomputable def tCB (r : List V → Hp → VK → Prop) (t : TA) : TE := fun σ H Q => t σ H fun vs H1 => r vs H1 Q
/-- f(e, ..), f a built-in function -/
theorem pe_callB (hc : CallR X (.builtin id) r) (hg : Gl X x) (hm : X.mg x = none) (hv : bootBuiltins x = some (.builtin id)) (ha : PA X (e :: es) t) (hn : x ≠ "__name__" := by decide) (hdb : (x == ("__debug__" : Str)) = false := by decide)
    (he : starEach (e :: es) X.env = (false, eval e X.env) :: starEach es X.env := by rfl) (hpl : (backTo pos (starEach es X.env)).any (·.1) = false := by rfl) : PE X (.Call (.Name x p) (e :: es) [] pos) (tCB r t) := by
  intro pins s σ H Q I h
  refine wpAny_Call_Name_kw (ld_blt I hg hm hv ?_ hn hdb)
  exact PyProof.Rows.callWith_builtin1 (thn (ha pos pins s σ H _ I h) fun us s1 ⟨vs, H1, I1, r1, q1⟩ => hc pins s1 σ H1 vs us Q I1 r1 q1) he hpl
/-- T(e, ..), T a built-in type -/
theorem pe_callTy (hc : CallR X (.type T) r) (hg : Gl X x) (hm : X.mg x = none) (hv : bootBuiltins x = some (.type T)) (ha : PA X (e :: es) t) (hn : x ≠ "__name__" := by decide) (hdb : (x == ("__debug__" : Str)) = false := by decide)
    (he : starEach (e :: es) X.env = (false, eval e X.env) :: starEach es X.env := by rfl) (hpl : (backTo pos (starEach es X.env)).any (·.1) = false := by rfl) : PE X (.Call (.Name x p) (e :: es) [] pos) (tCB r t) := by
  intro pins s σ H Q I h
  refine wpAny_Call_Name_kw (ld_blt I hg hm hv ?_ hn hdb)
  exact PyProof.Rows.callWith_type1 (thn (ha pos pins s σ H _ I h) fun us s1 ⟨vs, H1, I1, r1, q1⟩ => hc pins s1 σ H1 vs us Q I1 r1 q1) he hpl
end
end L2

namespace HT
open PySem PyProof.Rows

/-- t < u of tuples of ints -/
noncomputable def lexLt : List Int → List Int → Bool
  | [], [] => false
  | [], _ :: _ => true
  | _ :: _, [] => false
  | x :: xs, y :: ys => if x = y then lexLt xs ys else decide (x < y)
theorem lexLt_cons (x y : Int) (xs ys : List Int) : lexLt (x :: xs) (y :: ys) = if x = y then lexLt xs ys else decide (x < y) := rfl
theorem lexLt_nil_nil : lexLt [] [] = false := rfl
theorem lexLt_nil_cons (y : Int) (ys : List Int) : lexLt [] (y :: ys) = true := rfl
theorem lexLt_cons_nil (x : Int) (xs : List Int) : lexLt (x :: xs) [] = false := rfl

theorem eqAt_int (A : Around) (s : Shared) (a : Int) (t : Tok) (c : Int) (u : Tok) : ∃ e, SeqAt.EqAt A s (.int a t) (.int c u) e ∧ (e = true ↔ a = c) :=
  ⟨(a == c), SeqAt.EqAt.int_int a t c u, by simp⟩
theorem rcLt_int (A : Around) (s : Shared) (a : Int) (t : Tok) (c : Int) (u : Tok) (prog : Program) (w : World) (E : Value → Shared → Prop) (Q : Value → Shared → Prop) (h : Q (.bool (decide (a < c))) s) :
    wpAny (model prog w) A (richCompare .Lt (.int a t) (.int c u)) Q E s :=
  (PyProof.Rows.lt_int h : wpAny (model prog w) A (compareOp .Lt (.int a t) (.int c u)) Q E s)

section
open PySem.SeqAt
open PySem.AutoSeq1 (wpAny_loadPart')
open PySem.MeetsSeq PySem.MeetsSeq2 PySem.MeetsSeq3

end

section
variable {prog : Program} {w : World} {A : Around} {E : Value → Shared → Prop} {s : Shared}



/-! ### t[a:b], not the whole -/
/-- a slice's bound as a place among n (d where it is left out) -/
noncomputable def sIx (n d : Nat) : Option Int → Nat
  | none => d
  | some v => if v < 0 then (v + (n : Int)).toNat else min v.toNat n
theorem sIx_none (n d : Nat) : sIx n d none = d := rfl
theorem sIx_nat (n d k : Nat) : sIx n d (some (k : Int)) = min k n := by
  show (if (k : Int) < 0 then ((k : Int) + (n : Int)).toNat else min (k : Int).toNat n) = min k n
  rw [if_neg (by omega), Int.toNat_natCast]

end
end HT

namespace L2
open PySem PySem.Spec PyProof.Rows

/-! ### the parts of a slice -/
noncomputable abbrev TO := St → Hp → (Option Int → Hp → Prop) → Prop
/-- a slice's part (left out, or an int) -/
noncomputable def PO (X : Cx) (e : Option Expr) (t : TO) : Prop :=
  ∀ (pins : List (Addr × Obj)) (s : Shared) (σ : St) (H : Hp) (Q : Option Int → Hp → Prop), Inv X pins σ H s → t σ H Q →
    wpAny (model X.prog X.w) X.A (evalPart e X.env) (fun u s' => ∃ o H', Inv X pins σ H' s' ∧ IsPart u o ∧ Q o H') X.xe s
noncomputable def tNoPart : TO := fun _ H Q => Q none H
noncomputable def tPart (t : TE) : TO := fun σ H Q => t σ H fun x H1 => ∃ i, x = .int i ∧ Q (some i) H1

theorem intsAre_of {ns : List Int} : ∀ {us : List Value}, Vals (ns.map V.int) us → IntsAre us ns := by
  induction ns with
  | nil => intro us r; rw [List.map_nil] at r; cases r; exact .nil
  | cons n ns ih =>
    intro us r
    rw [List.map_cons] at r
    cases r with
    | cons r1 r2 =>
      obtain ⟨t, e⟩ := r1
      subst e
      exact .cons n t (ih r2)

section
variable {X : Cx} {e : Expr} {te : TE} {lo hi : Option Expr} {tl th : TO} {pos p2 : Pos}

theorem po_none : PO X none tNoPart := by
  intro pins s σ H Q I h
  rw [evalPart_none]
  exact wpAny_pure ⟨none, H, I, .none, h⟩
theorem po_some (h : PE X e te) : PO X (some e) (tPart te) := by
  intro pins s σ H Q I hw
  rw [evalPart_some]
  refine thn (h pins s σ H _ I hw) fun u s1 ⟨x, H1, I1, r1, q1⟩ => ?_
  obtain ⟨i, rfl, q⟩ := q1
  obtain ⟨t, rfl⟩ := r1
  exact ⟨some i, H1, I1, .int i t, q⟩

/-- what a slice of a value is, by values: the slice object stands at sl -/
noncomputable def SlR (X : Cx) (r : V → Option Int → Option Int → Hp → VK → Prop) : Prop :=
  ∀ (pins : List (Addr × Obj)) (s : Shared) (σ : St) (H : Hp) (x : V) (v vl vu : Value) (lo hi : Option Int) (sl : Addr) (Q : VK), Inv X pins σ H s → RelV x v → s.heap.IsSliceOf sl vl vu .none → IsPart vl lo → IsPart vu hi → r x lo hi H Q →
    ∃ T id, typeLookup (.type T) "__getitem__" = pure (some (.builtin id)) ∧ s.TypeIs v T ∧ wpAny (model X.prog X.w) X.A (getItem v (.ref sl)) (EP X pins σ Q) X.xe s
noncomputable def tSl (r : V → Option Int → Option Int → Hp → VK → Prop) (te : TE) (tl th : TO) : TE := fun σ H Q => te σ H fun x H1 => tl σ H1 fun l H2 => th σ H2 fun u H3 => r x l u H3 Q
/-- a[lo:hi], any a -/
theorem pe_slice {r : V → Option Int → Option Int → Hp → VK → Prop} (hr : SlR X r) (he : PE X e te) (hl : PO X lo tl) (hu : PO X hi th) : PE X (.Subscript e (.Slice lo hi none p2) pos) (tSl r te tl th) := by
  intro pins s σ H Q I h
  refine Subscript_ (thn (he pins s σ H _ I h) fun v s1 ⟨x, H1, I1, r1, q1⟩ => ?_)
  refine wpAny_Slice (thn (hl pins s1 σ H1 _ I1 q1) fun vl s2 ⟨l, H2, I2, pl, q2⟩ => thn (hu pins s2 σ H2 _ I2 q2) fun vu s3 ⟨u, H3, I3, pu, q3⟩ => ?_)
  rw [evalPart_none]
  refine wpAny_pure ?_
  have I4 : Inv X pins σ H3 { s3 with heap := s3.heap.push { cls := .type "slice", data := .fields #[vl, vu, .none] } } := I3.kept (t' := s3.toks) fun b ob q => Heap.get?_push_of_some _ q
  obtain ⟨T, id, hT, ht, hg⟩ := hr pins { s3 with heap := s3.heap.push { cls := .type "slice", data := .fields #[vl, vu, .none] } } σ H3 x v vl vu l u s3.heap.objs.size Q I4 r1 (Heap.IsSliceOf.new ..) pl pu q3
  show wpAny (model X.prog X.w) X.A (subscriptTail e (.Slice lo hi none p2) v (.ref s3.heap.objs.size)) (EP X pins σ Q) X.xe { s3 with heap := s3.heap.push { cls := .type "slice", data := .fields #[vl, vu, .none] } }
  exact tail_any (ops := [.ref s3.heap.objs.size, v]) ht hT hg (by with_unfolding_all rfl)

/-- the items of xs[lo:hi] -/
noncomputable def cutV (xs : List V) (lo hi : Option Int) : List V := (xs.drop (HT.sIx xs.length 0 lo)).take (HT.sIx xs.length xs.length hi - HT.sIx xs.length 0 lo)
theorem cutV_length (xs : List V) (lo hi : Option Int) : (cutV xs lo hi).length ≤ xs.length := by
  unfold cutV
  rw [List.length_take, List.length_drop]
  omega

/-! ### t < u, t + u -/
end
end L2

namespace L2
open PySem PySem.Spec PyProof.Rows

/-! ### places -/
/-- the place that an index of any sign means -/
noncomputable def ixN (n : Nat) (i : Int) : Option Nat := if 0 ≤ i then (if i < n then some i.toNat else none) else if -(n : Int) ≤ i then some (i + n).toNat else none
noncomputable def atI {α : Type} (xs : List α) (i : Int) : Option α := (ixN xs.length i).bind fun j => xs[j]?
theorem ixN_seq {n : Nat} {i : Int} {j : Nat} (h : ixN n i = some j) : seqIndex? i n = some j ∧ j < n ∧ -(n : Int) ≤ i ∧ i < n := by
  unfold ixN at h
  by_cases h0 : 0 ≤ i
  · rw [if_pos h0] at h
    by_cases h1 : i < n
    · rw [if_pos h1] at h
      have e : i.toNat = j := Option.some.inj h
      exact ⟨by rw [seqIndex_of h0 h1, e], by omega, by omega, h1⟩
    · rw [if_neg h1] at h; cases h
  · rw [if_neg h0] at h
    by_cases h1 : -(n : Int) ≤ i
    · rw [if_pos h1] at h
      have e : (i + n).toNat = j := Option.some.inj h
      exact ⟨by rw [seqIndex_neg (by omega) h1, e], by omega, h1, by omega⟩
    · rw [if_neg h1] at h; cases h
theorem atI_get {α : Type} {xs : List α} {i : Int} {v : α} (h : atI xs i = some v) : ∃ j, seqIndex? i xs.length = some j ∧ xs[j]? = some v ∧ j < xs.length ∧ -(xs.length : Int) ≤ i ∧ i < xs.length := by
  unfold atI at h
  cases e : ixN xs.length i with
  | none => rw [e] at h; cases h
  | some j =>
    rw [e] at h
    obtain ⟨h1, h2, h3, h4⟩ := ixN_seq e
    exact ⟨j, h1, h, h2, h3, h4⟩
theorem atI_nat {α : Type} {xs : List α} {j : Nat} {v : α} (h : xs[j]? = some v) : atI xs (j : Int) = some v := by
  have hj : j < xs.length := (List.getElem?_eq_some_iff.mp h).1
  have e : ixN xs.length (j : Int) = some j := by
    unfold ixN
    rw [if_pos (by omega), if_pos (by omega)]; simp
  unfold atI; rw [e]; exact h
theorem atI_last {α : Type} (xs : List α) (v : α) : atI (xs ++ [v]) (-1) = some v := by
  have hl : (xs ++ [v]).length = xs.length + 1 := by simp
  have e : ixN (xs ++ [v]).length (-1) = some xs.length := by
    unfold ixN
    rw [hl, if_neg (by decide), if_pos (by omega)]
    congr 1
    omega
  unfold atI
  rw [e]
  show (xs ++ [v])[xs.length]? = some v
  simp

/-! ### what may be subscripted -/
/-- what stands as an index of a plain subscript -/
noncomputable def PlainIx (b : Expr) : Prop := ∀ o i, subscripted b false o i = operate [o, i] (getItem o i)
/-- a subscript by values -/
noncomputable def IxR (X : Cx) (r : R2) : Prop :=
  ∀ (value slice : Expr) (pins : List (Addr × Obj)) (s : Shared) (σ : St) (H : Hp) (x y : V) (v u : Value) (Q : VK), Inv X pins σ H s → RelV x v → RelV y u → r x y H Q →
    subscripted slice false v u = operate [v, u] (getItem v u) → wpAny (model X.prog X.w) X.A (subscriptTail value slice v u) (EP X pins σ Q) X.xe s
/-- a call of a builtin's method by values: the receiver, the arguments -/
noncomputable def MtR (X : Cx) (id : String) (r : V → List V → Hp → VK → Prop) : Prop :=
  ∀ (pins : List (Addr × Obj)) (s : Shared) (σ : St) (H : Hp) (x : V) (xs : List V) (v : Value) (us : List Value) (Q : VK), Inv X pins σ H s → RelV x v → Vals xs us → r x xs H Q →
    wpAny (model X.prog X.w) X.A (call (.builtin id) (v :: us)) (EP X pins σ Q) X.xe s
section
variable {X : Cx} {a b : Expr} {ta tb : TE} {pos : Pos}
/-- a[b] -/
theorem pe_ix {r : R2} (hr : IxR X r) (ha : PE X a ta) (hb : PE X b tb) (hs : PlainIx b) : PE X (.Subscript a b pos) (tOp r ta tb) := by
  intro pins s σ H Q I h
  exact Subscript_ (binT ha hb I h fun v u s2 x y H2 I2 rx ry q => hr a b pins s2 σ H2 x y v u Q I2 rx ry q (hs _ _))

noncomputable def rIxL (K : PySem.W.Frag) : R2 := fun x y H Q => ∃ p xs i v, x = .ref p ∧ y = .int i ∧ SqL K H p xs ∧ atI xs i = some v ∧ Q v H
noncomputable def rIxT (K : PySem.W.Frag) : R2 := fun x y H Q => ∃ p xs i v, x = .ref p ∧ y = .int i ∧ SqT K H p xs ∧ atI xs i = some v ∧ Q v H
theorem ix_list : IxR X (rIxL X.K) := by
  intro value slice pins s σ H x y v u Q I rx ry h hs
  obtain ⟨p, xs, i, z, rfl, rfl, hq, he, q⟩ := h
  cases rx
  obtain ⟨t, rfl⟩ := ry
  obtain ⟨its, r, pl, hz⟩ := I.list hq
  obtain ⟨j, h1, h2, h3, h4, h5⟩ := atI_get he
  obtain ⟨w, ew, rw'⟩ := r.get h2
  have hl := r.length
  have hn := line63
  have fin : EP X pins σ Q w s := ⟨z, H, I, rw', q⟩
  by_cases h0 : 0 ≤ i
  · have hj : i.toNat = j := by
      rw [seqIndex_of h0 h5] at h1
      exact Option.some.inj h1
    exact item_listR pl.isList h0 (by omega) (by rw [hj]; simpa using ew) fin hs
  · have hj : (i + (its.toArray.size : Int)).toNat = j := by
      rw [seqIndex_neg (by omega) h4] at h1
      rw [List.size_toArray, ← hl]
      exact Option.some.inj h1
    exact subscriptTail_builtinR (x := w) pl.isList.typeIs slot_list_getitem.lookup
      (wpAny_getItem_list_neg (Q := fun r s' => r = w ∧ EP X pins σ Q r s') pl.isList (by omega) (by rw [List.size_toArray] <;> omega) (by omega) (by rw [hj]; simpa using ew) ⟨rfl, fin⟩) hs
theorem ix_tup : IxR X (rIxT X.K) := by
  intro value slice pins s σ H x y v u Q I rx ry h hs
  obtain ⟨p, xs, i, z, rfl, rfl, hq, he, q⟩ := h
  cases rx
  obtain ⟨t, rfl⟩ := ry
  obtain ⟨its, r, pl, hz⟩ := I.tuple hq
  obtain ⟨j, h1, h2, h3, h4, h5⟩ := atI_get he
  obtain ⟨w, ew, rw'⟩ := r.get h2
  have hl := r.length
  have hn := line63
  have fin : EP X pins σ Q w s := ⟨z, H, I, rw', q⟩
  exact subscriptTail_builtinR (x := w) pl.typeIs slot_tuple_getitem.lookup
    (getItem_tuple (j := j) (Q := fun r s' => r = w ∧ EP X pins σ Q r s') pl (by omega) (by omega) (by rw [List.size_toArray, ← hl]; exact h1) (by simpa using ew) ⟨rfl, fin⟩) hs

/-! ### xs[i] = v, any sign -/

/-! ### slices -/
theorem slice_bounds (lo hi : Option Int) (n : Nat) : (sliceBounds lo hi none n).1 = ((HT.sIx n 0 lo : Nat) : Int) ∧ (sliceBounds lo hi none n).2.1 = ((HT.sIx n n hi : Nat) : Int) ∧ (sliceBounds lo hi none n).2.2 = 1 := by
  refine ⟨?_, ?_, rfl⟩
  · cases lo with
    | none => simp [sliceBounds, HT.sIx]
    | some i =>
      simp only [sliceBounds, HT.sIx, Option.getD_none, show (1 : Int) > 0 by decide, if_true]
      by_cases h : i < 0
      · simp only [h, if_true] <;> omega
      · simp only [h, if_false] <;> omega
  · cases hi with
    | none => simp [sliceBounds, HT.sIx]
    | some i =>
      simp only [sliceBounds, HT.sIx, Option.getD_none, show (1 : Int) > 0 by decide, if_true]
      by_cases h : i < 0
      · simp only [h, if_true] <;> omega
      · simp only [h, if_false] <;> omega
theorem slicePick_cut (its : List Value) (lo hi : Option Int) : slicePick its.toArray lo hi none = ((its.drop (HT.sIx its.length 0 lo)).take (HT.sIx its.length its.length hi - HT.sIx its.length 0 lo)).toArray := by
  obtain ⟨h1, h2, h3⟩ := slice_bounds lo hi its.toArray.size
  unfold slicePick
  rw [h1, h2, h3]
  simp only [sliceRange_one, pick_run, List.size_toArray] <;> rfl
/-- xs[lo:hi] of a list: a new list -/
noncomputable def rSlL (K : PySem.W.Frag) : V → Option Int → Option Int → Hp → VK → Prop := fun x lo hi H Q => ∃ a xs, x = .ref a ∧ SqL K H a xs ∧ ∀ p, H p = none → Q (.ref p) (upd H p (.lst (cutV xs lo hi)))
theorem sl_list : SlR X (rSlL X.K) := by
  intro pins s σ H x v vl vu lo hi sl Q I rx hs pl pu h
  obtain ⟨a, xs, rfl, hx, q⟩ := h
  cases rx
  obtain ⟨its, r, ht, hz⟩ := I.list hx
  have hlen := r.length
  refine ⟨"list", _, slot_list_getitem.lookup, ht.isList.typeIs, ?_⟩
  refine wpAny_getItem_list_slice ht.isList hs pl pu .none (by simp) ?_ (by rw [List.size_toArray] <;> omega)
  rw [slicePick_cut, ← hlen]
  refine ⟨.ref s.heap.objs.size, _, I.laid (t' := s.toks) (o := .lst (cutV xs lo hi)) (fun b ob q => Heap.get?_push_of_some _ q) (Nat.le_refl _) ?_, rfl, q _ (I.hok.fresh (Nat.le_refl _))⟩
  exact ⟨Nat.le_trans (cutV_length xs lo hi) hz, _, 0, (r.drop (HT.sIx xs.length 0 lo)).take (HT.sIx xs.length xs.length hi - HT.sIx xs.length 0 lo), Heap.get?_push_size _ rfl⟩

/-! ### in, not in: flat items -/
noncomputable def flatV : V → Bool
  | .non => true
  | .bl _ => true
  | .int _ => true
  | .str _ => true
  | _ => false
/-- == of flat values -/
noncomputable def eqV : V → V → Bool
  | .non, .non => true
  | .bl a, .bl b => a == b
  | .bl a, .int b => (if a then 1 else 0) == b
  | .int a, .bl b => a == (if b then 1 else 0)
  | .int a, .int b => a == b
  | .str a, .str b => a == b
  | _, _ => false
theorem eqAt_V {A : Around} {s : Shared} {y x : V} {u v : Value} (ry : RelV y u) (rx : RelV x v) (fy : flatV y = true) (fx : flatV x = true) : SeqAt.EqAt A s u v (eqV y x) := by
  cases y with
  | non =>
    cases ry
    cases x with
    | non => cases rx; exact SeqAt.EqAt.same _
    | bl b => cases rx; exact SeqAt.EqAt.none_bool b
    | int b => obtain ⟨t, rfl⟩ := rx; exact SeqAt.EqAt.none_int b t
    | str b => obtain ⟨t, rfl⟩ := rx; exact SeqAt.EqAt.none_str b t
    | _ => exact absurd (show false = true from fx) Bool.false_ne_true
  | bl a =>
    cases ry
    cases x with
    | non => cases rx; exact SeqAt.EqAt.bool_none a
    | bl b => cases rx; exact SeqAt.EqAt.bool_bool a b
    | int b => obtain ⟨t, rfl⟩ := rx; exact SeqAt.EqAt.bool_int a b t
    | str b => obtain ⟨t, rfl⟩ := rx; exact SeqAt.EqAt.bool_str a b t
    | _ => exact absurd (show false = true from fx) Bool.false_ne_true
  | int a =>
    obtain ⟨t', rfl⟩ := ry
    cases x with
    | non => cases rx; exact SeqAt.EqAt.int_none a t'
    | bl b => cases rx; exact SeqAt.EqAt.int_bool a t' b
    | int b => obtain ⟨t, rfl⟩ := rx; exact SeqAt.EqAt.int_int a t' b t
    | str b => obtain ⟨t, rfl⟩ := rx; exact SeqAt.EqAt.int_str a t' b t
    | _ => exact absurd (show false = true from fx) Bool.false_ne_true
  | str a =>
    obtain ⟨t', rfl⟩ := ry
    cases x with
    | non => cases rx; exact SeqAt.EqAt.str_none a t'
    | bl b => cases rx; exact SeqAt.EqAt.str_bool a t' b
    | int b => obtain ⟨t, rfl⟩ := rx; exact SeqAt.EqAt.str_int a t' b t
    | str b => obtain ⟨t, rfl⟩ := rx; exact SeqAt.EqAt.str_str a t' b t
    | _ => exact absurd (show false = true from fx) Bool.false_ne_true
  | _ => exact absurd (show false = true from fy) Bool.false_ne_true
/-- the items' answers, read off the values (a value's own answer does not lean on its token) -/
noncomputable def eqU (x : V) (u : Value) : Bool := match u with
  | .none => eqV .non x
  | .bool b => eqV (.bl b) x
  | .int i _ => eqV (.int i) x
  | .str z _ => eqV (.str z) x
  | _ => false
theorem eqU_of {x y : V} {u : Value} (r : RelV y u) (f : flatV y = true) : eqU x u = eqV y x := by
  cases y with
  | non => cases r; rfl
  | bl b => cases r; rfl
  | int i => obtain ⟨t, rfl⟩ := r; rfl
  | str z => obtain ⟨t, rfl⟩ := r; rfl
  | _ => exact absurd (show false = true from f) Bool.false_ne_true
theorem any_eqU {x : V} : ∀ {xs : List V} {us : List Value}, Vals xs us → xs.all flatV = true → us.any (eqU x) = xs.any fun y => eqV y x
  | _, _, .nil, _ => rfl
  | y :: xs, u :: us, .cons r t, f => by
    rw [List.all_cons, Bool.and_eq_true] at f
    rw [List.any_cons, List.any_cons, eqU_of r f.1, any_eqU t f.2]
theorem mem_eqAt {A : Around} {s : Shared} {x : V} {v : Value} (rx : RelV x v) (fx : flatV x = true) : ∀ {xs : List V} {us : List Value}, Vals xs us → xs.all flatV = true → ∀ u ∈ us, SeqAt.EqAt A s u v (eqU x u)
  | _, _, .nil, _ => fun u hu => by cases hu
  | y :: xs, u :: us, .cons r t, f => fun u' hu => by
    rw [List.all_cons, Bool.and_eq_true] at f
    rcases List.mem_cons.mp hu with rfl | hu
    · rw [eqU_of r f.1]; exact eqAt_V r rx f.1 fx
    · exact mem_eqAt rx fx t f.2 u' hu
noncomputable def inV (x : V) (xs : List V) : Bool := xs.any fun y => eqV y x
/-- x in a list or tuple of flat items -/
noncomputable def rIn (K : PySem.W.Frag) (neg : Bool) : R2 := fun x y H Q => ∃ p xs, y = .ref p ∧ (SqL K H p xs ∨ SqT K H p xs) ∧ flatV x = true ∧ xs.all flatV = true ∧ Q (.bl (if neg then !inV x xs else inV x xs)) H
theorem op_in_seq : OpR X (compareOp .In) (rIn X.K false) := by
  intro pins s σ H x y v u Q I rx ry h
  obtain ⟨p, xs, rfl, hq, fx, fs, q⟩ := h
  cases ry
  rcases hq with hq | hq
  · obtain ⟨its, r, pl, hz⟩ := I.list hq
    refine SeqAt.in_listAt (eqU x) pl.isList (fun w hw => mem_eqAt rx fx r fs w (by simpa using hw)) ⟨.bl _, H, I, rfl, ?_⟩
    rw [show its.toArray.any (eqU x) = its.any (eqU x) by simp, any_eqU r fs]
    exact q
  · obtain ⟨its, r, pl, hz⟩ := I.tuple hq
    refine SeqAt.in_tupleAt (eqU x) pl (fun w hw => mem_eqAt rx fx r fs w (by simpa using hw)) ⟨.bl _, H, I, rfl, ?_⟩
    rw [show its.toArray.any (eqU x) = its.any (eqU x) by simp, any_eqU r fs]
    exact q
theorem op_notIn_seq : OpR X (compareOp .NotIn) (rIn X.K true) := by
  intro pins s σ H x y v u Q I rx ry h
  obtain ⟨p, xs, rfl, hq, fx, fs, q⟩ := h
  cases ry
  rcases hq with hq | hq
  · obtain ⟨its, r, pl, hz⟩ := I.list hq
    refine SeqAt.notIn_listAt (eqU x) pl.isList (fun w hw => mem_eqAt rx fx r fs w (by simpa using hw)) ⟨.bl _, H, I, rfl, ?_⟩
    rw [show its.toArray.any (eqU x) = its.any (eqU x) by simp, any_eqU r fs]
    exact q
  · obtain ⟨its, r, pl, hz⟩ := I.tuple hq
    refine SeqAt.notIn_tupleAt (eqU x) pl (fun w hw => mem_eqAt rx fx r fs w (by simpa using hw)) ⟨.bl _, H, I, rfl, ?_⟩
    rw [show its.toArray.any (eqU x) = its.any (eqU x) by simp, any_eqU r fs]
    exact q

/-! ### len, list(x), tuple(x) of any list or tuple that is read -/
theorem call_len_seq : CallR X (.builtin "len") (fun xs H Q => ∃ p ys, xs = [.ref p] ∧ (SqL X.K H p ys ∨ SqT X.K H p ys) ∧ Q (.int ys.length) H) := by
  intro pins s σ H xs us Q I r h
  obtain ⟨p, ys, rfl, hq, q⟩ := h
  obtain ⟨u, rfl, rx⟩ := vals1 r
  cases rx
  have hn := line63
  rcases hq with hq | hq
  · obtain ⟨its, r', pl, hz⟩ := I.list hq
    have hlen := r'.length
    exact Calls.call_len_list pl.isList (by simp only [List.size_toArray] <;> omega) ⟨.int ys.length, H, I.tok _, ⟨s.toks + 1, by rw [List.size_toArray, hlen]⟩, q⟩
  · obtain ⟨its, r', pl, hz⟩ := I.tuple hq
    have hlen := r'.length
    exact len_tuple pl (by simp only [List.size_toArray] <;> omega) ⟨.int ys.length, H, I.tok _, ⟨s.toks + 1, by rw [List.size_toArray, hlen]⟩, q⟩
theorem call_list_of : CallR X (.type "list") (fun xs H Q => ∃ p ys, xs = [.ref p] ∧ (SqL X.K H p ys ∨ SqT X.K H p ys) ∧ ∀ l, H l = none → Q (.ref l) (upd H l (.lst ys))) := by
  intro pins s σ H xs us Q I r h
  obtain ⟨p, ys, rfl, hq, q⟩ := h
  obtain ⟨u, rfl, rx⟩ := vals1 r
  cases rx
  have fin : ∀ (its : List Value), Vals ys its → ys.length ≤ sizeLine → ∀ (h' : Heap) (c' : Nat), (∀ b o', s.heap.get? b = some o' → h'.get? b = some o') →
      h'.get? s.heap.objs.size = some { cls := .type "list", dict := none, data := .seq its.toArray c', slots := #[] } → EP X pins σ Q (.ref s.heap.objs.size) { s with heap := h' } := fun its r' hz h' c' kp e =>
    ⟨.ref s.heap.objs.size, _, I.laid (t' := s.toks) kp (Nat.le_refl _) (show ObjOk X.prog X.w _ h' _ (.lst ys) from ⟨hz, its, c', r', e⟩), rfl, q _ (I.hok.fresh (Nat.le_refl _))⟩
  rcases hq with hq | hq
  · obtain ⟨its, r', pl, hz⟩ := I.list hq
    have hlen := r'.length
    obtain ⟨o, ho, hc, n, hd⟩ := pl.isList
    exact call_list_seq p (.inl rfl) ho hc hd (fun h' c' kp e => fin its r' hz h' c' kp e) (by simp only [List.size_toArray] <;> omega)
  · obtain ⟨its, r', pl, hz⟩ := I.tuple hq
    have hlen := r'.length
    obtain ⟨o, ho, hc, n, hd⟩ := pl
    exact call_list_seq p (.inr rfl) ho hc hd (fun h' c' kp e => fin its r' hz h' c' kp e) (by simp only [List.size_toArray] <;> omega)

/-! ### the call of a builtin's method: o.m(..) -/
/-- the value is of that builtin type -/
noncomputable def tyV (K : PySem.W.Frag) (T : String) (x : V) (H : Hp) : Prop := match x with
  | .str _ => T = "str"
  | .int _ => T = "int"
  | .ref p => (T = "list" ∧ ∃ xs, SqL K H p xs) ∨ (T = "tuple" ∧ ∃ o, K.lookup p = some o ∧ o.cls = .type "tuple" ∧ o.dict = none) ∨
      (T = "dict" ∧ ((∃ kvs, H p = some (.dK kvs)) ∨ ∃ kvs, H p = some (.dT kvs))) ∨ (T = "set" ∧ ∃ S n, H p = some (.set S n))
  | _ => False
theorem tyV_is {pins : List (Addr × Obj)} {σ : St} {H : Hp} {s : Shared} {T : String} {x : V} {v : Value} (I : Inv X pins σ H s) (r : RelV x v) (ty : tyV X.K T x H) :
    s.TypeIs v T ∧ ∀ a, v = .ref a → ∃ ob, s.heap.get? a = some ob ∧ ob.dict = none := by
  cases x with
  | str z =>
    obtain ⟨t, rfl⟩ := r
    cases (show T = "str" from ty)
    exact ⟨typeIs_str s z t, fun _ e => nomatch e⟩
  | int i =>
    obtain ⟨t, rfl⟩ := r
    cases (show T = "int" from ty)
    exact ⟨typeIs_int s i t, fun _ e => nomatch e⟩
  | ref p =>
    cases r
    rcases ty with ⟨rfl, xs, hq⟩ | ⟨rfl, o, hk, hc, hd⟩ | ⟨rfl, hk⟩ | ⟨rfl, S, n, hk⟩
    · obtain ⟨its, _, pl, _⟩ := I.list hq
      refine ⟨pl.isList.typeIs, fun a e => ?_⟩
      cases e
      obtain ⟨o, n, e, c, hd, _⟩ := pl
      exact ⟨o, e, hd⟩
    · refine ⟨⟨o, I.kIn p o hk, hc⟩, fun a e => ?_⟩
      cases e
      exact ⟨o, I.kIn _ o hk, hd⟩
    · have z : ∃ o, s.heap.get? p = some o ∧ o.ExactDict := by
        rcases hk with ⟨kvs, hk⟩ | ⟨kvs, hk⟩
        · obtain ⟨_, _, _, _, o, _, _, e, ex, _⟩ := I.hok p _ hk
          exact ⟨o, e, ex⟩
        · obtain ⟨_, _, _, _, o, _, _, e, ex, _⟩ := I.hok p _ hk
          exact ⟨o, e, ex⟩
      obtain ⟨o, e, ex⟩ := z
      refine ⟨⟨o, e, ex.1⟩, fun a e2 => ?_⟩
      cases e2
      exact ⟨o, e, ex.2.1⟩
    · obtain ⟨o, _, _, _, e, ex, _⟩ := I.hok p _ hk
      refine ⟨⟨o, e, ex.1⟩, fun a e2 => ?_⟩
      cases e2
      exact ⟨o, e, ex.2.1⟩
  | _ => exact False.elim ty
noncomputable def tBM0 (K : PySem.W.Frag) (T : String) (r : V → List V → Hp → VK → Prop) (to : TE) : TE := fun σ H Q => to σ H fun x H1 => tyV K T x H1 ∧ r x [] H1 Q
noncomputable def tBM (K : PySem.W.Frag) (T : String) (r : V → List V → Hp → VK → Prop) (to : TE) (t : TA) : TE := fun σ H Q => to σ H fun x H1 => tyV K T x H1 ∧ t σ H1 fun xs H2 => r x xs H2 Q
variable {o e : Expr} {es : List Expr} {to : TE} {t : TA} {name : Str} {apos cpos : Pos} {T id : String} {r : V → List V → Hp → VK → Prop}
theorem pe_bm0 (pa : PlainAttrs T) (slot : Slot T name id) (hty : typeOf (.builtin id) = pure (.type "method_descriptor")) (hm : MtR X id r) (ho : PE X o to)
    (hbase : attributeBase o name X.env (eval o X.env) = eval o X.env := by rfl) (hline : (apos.endLine == cpos.line) = true := by rfl) : PE X (.Call (.Attribute o name apos) [] [] cpos) (tBM0 X.K T r to) := by
  intro pins s σ H Q I h
  refine wpAny_Call_method0_late hbase hline (thn (ho pins s σ H _ I h) fun v s1 ⟨x, H1, I1, r1, ty, q1⟩ => ?_)
  obtain ⟨h1, h2⟩ := tyV_is I1 r1 ty
  exact ⟨T, id, pa, slot, hty, h1, h2, Calls.callWith_builtin rfl (PySem.evalArgs_none (hm pins s1 σ H1 x [] v [] Q I1 r1 .nil q1))⟩
theorem pe_bm (pa : PlainAttrs T) (slot : Slot T name id) (hty : typeOf (.builtin id) = pure (.type "method_descriptor")) (hm : MtR X id r) (ho : PE X o to) (ha : PA X (e :: es) t)
    (hbase : attributeBase o name X.env (eval o X.env) = eval o X.env := by rfl)
    (hfew : ((backTo cpos (starEach (e :: es) X.env)).all (fun x => !x.1) && (backToKw cpos (keywordEach [] X.env)).all (fun x => x.1.isSome)
      && decide ((e :: es).length + ([] : List Keyword).length + (if ([] : List Keyword).isEmpty then 0 else 1) < 30)) = true := by rfl)
    (hline : (apos.endLine == cpos.line) = true := by rfl) (hs : starEach (e :: es) X.env = (false, eval e X.env) :: starEach es X.env := by rfl) (hplain : (backTo cpos (starEach es X.env)).any (·.1) = false := by rfl) :
    PE X (.Call (.Attribute o name apos) (e :: es) [] cpos) (tBM X.K T r to t) := by
  intro pins s σ H Q I h
  refine wpAny_Call_method_late hbase hfew hline rfl (thn (ho pins s σ H _ I h) fun v s1 ⟨x, H1, I1, r1, ty, q1⟩ => ?_)
  obtain ⟨h1, h2⟩ := tyV_is I1 r1 ty
  refine ⟨T, id, pa, slot, hty, h1, h2, ?_⟩
  have hA := ha cpos pins s1 σ H1 _ I1 q1
  rw [hs] at hA ⊢
  refine Calls.callWith_builtin (by show (false || (backTo cpos (starEach es X.env)).any (·.1)) = false; rw [hplain] <;> rfl) (Calls.evalArgs_plain ?_)
  exact thn hA fun us s2 ⟨vs, H2, I2, r2, q2⟩ => hm pins s2 σ H2 x vs v us Q I2 r1 r2 q2
/- xs.append(e), list.index on a module's tuple .. are MtR facts of 06m -/
end
end L2

namespace L2
open PySem PySem.Spec PyProof.Rows

noncomputable def MtM (X : Cx) (id : String) (r : V → List V → Hp → VK → Prop) : Prop :=
  ∀ (pins : List (Addr × Obj)) (s : Shared) (σ : St) (H : Hp) (x : V) (xs : List V) (v : Value) (us : List Value) (Q : VK), Inv X pins σ H s → RelV x v → Vals xs us → r x xs H Q →
    wpAny (model X.prog X.w) X.A (call (.builtin id) (v :: us)) (EP X pins σ Q) X.xe s

/-! ### lists of values -/
theorem Vals.one : ∀ {x : V} {us : List Value}, Vals [x] us → ∃ u, us = [u] ∧ RelV x u
  | _, _, .cons r .nil => ⟨_, rfl, r⟩
theorem Vals.zero : ∀ {us : List Value}, Vals [] us → us = []
  | _, .nil => rfl
theorem Vals.dropLast {xs : List V} {us : List Value} (h : Vals xs us) : Vals xs.dropLast us.dropLast := by
  induction h with
  | nil => exact .nil
  | cons r t ih =>
    cases t with
    | nil => exact .nil
    | cons q t' => exact .cons r ih
theorem erase_last {α : Type} (l : List α) : l.eraseIdx (l.length - 1) = l.dropLast := by
  induction l with
  | nil => rfl
  | cons a r ih =>
    cases r with
    | nil => rfl
    | cons b r =>
      have e : (a :: b :: r).length - 1 = ((b :: r).length - 1) + 1 := by
        have h1 : (a :: b :: r).length = r.length + 2 := rfl
        have h2 : (b :: r).length = r.length + 1 := rfl
        omega
      rw [e, List.eraseIdx_cons_succ, ih]
      all_goals rfl

section
variable {X : Cx} {pins : List (Addr × Obj)} {σ : St} {H : Hp} {s : Shared} {l b : Addr} {xs ys zs : List V}

/-! ### the two steps: a tracked list is rewritten, a new list is laid -/
theorem Inv.lset {its its' : List Value} {n : Nat} {f : Array Value → Array Value} {t' : Nat} (I : Inv X pins σ H s) (hH : H l = some (.lst xs))
    (e : s.heap.get? l = some { cls := .type "list", data := .seq its.toArray n }) (hf : f its.toArray = its'.toArray) (hv : Vals ys its') (hz : ys.length ≤ sizeLine) :
    Inv X pins σ (upd H l (.lst ys)) { s with heap := s.heap.update l (Obj.mapSeq f), toks := t' } := by
  have q := PySem.IsL.update e f
  rw [hf] at q
  refine I.write (x := l) (e := l) (by rw [hH]; exact trivial) (.inl rfl) (fun b' u hb hu => (Heap.get?_update_other s.heap (Obj.mapSeq f) (Ne.symm hb)).trans hu) ⟨_, q⟩ ?_
  exact ⟨hz, its', _, hv, q⟩
theorem Inv.lnew {its : List Value} {t' : Nat} (I : Inv X pins σ H s) (hv : Vals ys its) (hz : ys.length ≤ sizeLine) :
    Inv X pins σ (upd H s.heap.objs.size (.lst ys)) { s with heap := s.heap.push { cls := .type "list", data := .seq its.toArray }, toks := t' } :=
  I.laid (fun _ _ q => Heap.get?_push_of_some _ q) (Nat.le_refl _) ⟨hz, its, 0, hv, Heap.get?_push_size _ rfl⟩
theorem Inv.fresh (I : Inv X pins σ H s) : H s.heap.objs.size = none := I.hok.fresh (Nat.le_refl _)
theorem Inv.lstM (I : Inv X pins σ H s) (hH : H l = some (.lst xs)) : xs.length ≤ sizeLine ∧ ∃ (its : List Value) (n : Nat), Vals xs its ∧ xs.length = its.length ∧ s.heap.get? l = some { cls := .type "list", data := .seq its.toArray n } := by
  obtain ⟨z, its, n, r, e⟩ := I.hok l _ hH
  exact ⟨z, its, n, r, r.length, e⟩

theorem notLongL {n : Nat} (h : n ≤ sizeLine) : Builtin.List.listTooLong n = false := by
  unfold Builtin.List.listTooLong
  exact decide_eq_false (by omega)
end

section
variable {X : Cx}

/-! ### methods -/
noncomputable def rAppend : V → List V → Hp → VK → Prop := fun x vs H Q => ∃ l xs y, x = .ref l ∧ vs = [y] ∧ H l = some (.lst xs) ∧ xs.length < sizeLine ∧ Q .non (upd H l (.lst (xs ++ [y])))
theorem mt_append : MtM X "list.append" rAppend := by
  intro pins s σ H x vs v us Q I rx rv h
  obtain ⟨l, xs, y, rfl, rfl, hH, hz, q⟩ := h
  cases rx
  obtain ⟨u, rfl, ru⟩ := rv.one
  obtain ⟨z, its, n, r, hl, e⟩ := I.lstM hH
  refine call_meets F.slot_list_append ⟨_, e, rfl⟩ F.entry_list_append (F.args_list_append_2 _ _) (PySem.list_append l its.toArray n u (by rw [List.size_toArray]; omega)) ⟨e, ?_⟩
  refine ⟨.non, _, I.lset (its' := its ++ [u]) hH e (by simp) (r.append (.cons ru .nil)) ?_, rfl, q⟩
  rw [List.length_append, List.length_singleton]
  omega

noncomputable def rExtend : V → List V → Hp → VK → Prop := fun x vs H Q => ∃ l b xs zs, x = .ref l ∧ vs = [.ref b] ∧ H l = some (.lst xs) ∧ H b = some (.lst zs) ∧ xs.length + zs.length ≤ sizeLine ∧ Q .non (upd H l (.lst (xs ++ zs)))
theorem mt_extend : MtM X "list.extend" rExtend := by
  intro pins s σ H x vs v us Q I rx rv h
  obtain ⟨l, b, xs, zs, rfl, rfl, hH, hB, hz, q⟩ := h
  cases rx
  obtain ⟨u, rfl, ru⟩ := rv.one
  cases ru
  obtain ⟨z, its, n, r, hl, e⟩ := I.lstM hH
  obtain ⟨z2, its2, n2, r2, hl2, e2⟩ := I.lstM hB
  have hsz : its.toArray.size + its2.toArray.size ≤ sizeLine := by rw [List.size_toArray, List.size_toArray]; omega
  have hlong : ¬ (!its.toArray.isEmpty && Builtin.List.listTooLong (its.toArray.size + its2.toArray.size)) = true := by
    rw [notLongL hsz, Bool.and_false]
    exact Bool.false_ne_true
  refine call_meets F.slot_list_extend ⟨_, e, rfl⟩ F.entry_list_extend (F.args_list_extend_2 _ _)
    (AutoSeq1.list_extend_list_list_0 l its.toArray n b its2.toArray n2 hlong (by rw [List.size_toArray]; omega) (by omega)) ⟨e, e2, ?_⟩
  refine ⟨.non, _, I.lset (its' := its ++ its2) hH e (by simp) (r.append r2) ?_, rfl, q⟩
  rw [List.length_append]
  omega

noncomputable def rPop : V → List V → Hp → VK → Prop := fun x vs H Q => ∃ l xs y, x = .ref l ∧ vs = [] ∧ H l = some (.lst xs) ∧ xs[xs.length - 1]? = some y ∧ Q y (upd H l (.lst xs.dropLast))
theorem mt_pop : MtM X "list.pop" rPop := by
  intro pins s σ H x vs v us Q I rx rv h
  obtain ⟨l, xs, y, rfl, rfl, hH, hy, q⟩ := h
  cases rx
  have hus := rv.zero
  subst hus
  obtain ⟨z, its, n, r, hl, e⟩ := I.lstM hH
  obtain ⟨u, hu, ru⟩ := r.get hy
  have hy' : its.toArray[its.toArray.size - 1]? = some u := by
    show its.toArray[its.length - 1]? = some u
    rw [← Array.getElem?_toList, ← hl]
    exact hu
  refine call_meets F.slot_list_pop ⟨_, e, rfl⟩ F.entry_list_pop (F.args_list_pop_1 _) (MeetsSeq.list_pop_last l its.toArray n u hy' (by rw [List.size_toArray]; omega)) ⟨e, ?_⟩
  refine ⟨y, _, I.lset (its' := its.dropLast) hH e ?_ r.dropLast ?_, ru, q⟩
  · show its.toArray.eraseIdxIfInBounds (its.toArray.size - 1) = its.dropLast.toArray
    rw [List.size_toArray, List.eraseIdxIfInBounds_toArray, erase_last]
  · rw [List.length_dropLast]
    omega



noncomputable def rClear : V → List V → Hp → VK → Prop := fun x vs H Q => ∃ l xs, x = .ref l ∧ vs = [] ∧ H l = some (.lst xs) ∧ Q .non (upd H l (.lst []))
theorem mt_clear : MtM X "list.clear" rClear := by
  intro pins s σ H x vs v us Q I rx rv h
  obtain ⟨l, xs, rfl, rfl, hH, q⟩ := h
  cases rx
  have hus := rv.zero
  subst hus
  obtain ⟨z, its, n, r, hl, e⟩ := I.lstM hH
  refine call_meets F.slot_list_clear ⟨_, e, rfl⟩ F.entry_list_clear (F.args_list_clear_1 _) (AutoSeq1.list_clear_list_0 l its.toArray n (by rw [List.size_toArray]; omega)) ⟨e, ?_⟩
  exact ⟨.non, _, I.lset (its' := []) (ys := []) hH e rfl .nil (Nat.zero_le _), rfl, q⟩

/-! ### list + list, list += list, list * int -/
noncomputable def rCat : R2 := fun x y H Q => ∃ l b xs zs, x = .ref l ∧ y = .ref b ∧ H l = some (.lst xs) ∧ H b = some (.lst zs) ∧ xs.length + zs.length ≤ sizeLine ∧ ∀ p, H p = none → Q (.ref p) (upd H p (.lst (xs ++ zs)))
theorem op_cat : OpR X (binaryOp .Add) rCat := by
  intro pins s σ H x y v u Q I rx ry h
  obtain ⟨l, b, xs, zs, rfl, rfl, hH, hB, hz, q⟩ := h
  cases rx
  cases ry
  obtain ⟨z, its, n, r, hl, e⟩ := I.lstM hH
  obtain ⟨z2, its2, n2, r2, hl2, e2⟩ := I.lstM hB
  refine PySem.P.add_list e e2 ?_ (by rw [List.size_toArray, List.size_toArray]; omega)
  have ea : its.toArray ++ its2.toArray = (its ++ its2).toArray := by simp
  rw [ea]
  exact ⟨.ref _, _, I.lnew (t' := s.toks) (r.append r2) (by rw [List.length_append]; omega), rfl, q _ I.fresh⟩

/-! ### del xs[i] -/
end

/-! ### xs[a:b] = ys -/
section
variable {prog : Program} {w : World} {A : Around} {E : Value → Shared → Prop} {s : Shared}
end

section
variable {X : Cx}
end
end L2

namespace Att
open PySem PySem.W PySem.Calls PyProof.Rows

/-! ### the script -/
theorem ints_of_wellAll {P : Params} {h : Heap} : ∀ (ns : List Int) (vs : List Value), WellAll P h vs (ns.map WData.int) → IntsAre vs ns := by
  intro ns
  induction ns with
  | nil =>
    intro vs w
    rw [List.map_nil] at w
    cases w
    exact .nil
  | cons n ns ih =>
    intro vs w
    rw [List.map_cons] at w
    cases w with
    | cons a b =>
      cases a
      exact .cons _ _ (ih _ b)

theorem script_of {l : OpenLaw} {n : Nat} (hn : l.most = some n) {P : Params} {h : Heap} {args : List WData} {vals : List Value}
    (hpre : l.row.toRowW.claim.pre args = true) (hwl : WellAll P h vals args) :
    ∃ a vs ns, vals = [Value.ref a] ∧ args = [WData.list (ns.map WData.int)] ∧ h.get? a = some { cls := .type "list", data := .seq vs.toArray } ∧ IntsAre vs ns ∧ ns.length ≤ n := by
  have hsh : WShape.hasAll [] args [.list .int] = true := (pre_splitW hpre).1
  have hc : l.pre.holds [] { args := args } = true := (pre_splitW hpre).2
  obtain ⟨d, r, rfl, h1, h2⟩ := hasAllW_cons hsh
  obtain rfl := hasAllW_nil h2
  obtain ⟨xs, rfl, h3⟩ := hasW_list h1
  obtain ⟨ns, rfl⟩ := items_int h3
  have hlen : ns.length ≤ n := by
    unfold OpenLaw.pre at hc
    have h4 : (WTm.not (.lt (.lit (.int (n : Int))) (.len (.arg 0)))).holds [] { args := [.list (ns.map .int)] } = true := by
      have h4 := (holds_andW hc).1
      rw [hn] at h4
      exact h4
    have h5 := condW_of h4 (w_not (w_lt w_lit (w_len_list (w_arg rfl))))
    rw [List.length_map] at h5
    refine Nat.le_of_not_lt fun q => ?_
    have q' : (n : Int) < ((ns.length : Nat) : Int) := by omega
    first
      | (rw [decide_eq_true q'] at h5; exact absurd h5 (by decide))
      | (simp at h5; omega)
  cases hwl with
  | cons w1 w2 =>
    cases w2
    cases w1 with
    | list ho hall => exact ⟨_, _, ns, rfl, rfl, ho, ints_of_wellAll ns _ hall, hlen⟩

theorem post_true (l : OpenLaw) (args : List WData) : l.row.toRowW.claim.post args (.bool true) args = true :=
  postW_of (r := l.row.toRowW) (X := (true == true))
    (show WShape.has [] (.bool true) .bool = true by first | rfl | decide | simp [WShape.has, WShape.arms, WShape.armsAll])
    (show (WTm.eq .res (.lit (.bool true))).value [] { args := args, res := some (.bool true), after := args } = some (.bool (true == true)) from w_eq_bool (w_res rfl) w_lit) rfl

/-! ### the attachment: holds_open's last premise (the goal 'hc' behind k_head) from a wpAny of the law's body -/

/-- the same from a codeAny of the CALL (for a layer whose function contracts speak of calls) -/
theorem attach_call {l : OpenLaw} {n : Nat} {q : Program} {loose : List Str} {XP : (Str → Option Value) → Heap → Prop} {YP : World → Heap → Prop} {d : DefRec}
    (hn : l.most = some n) (hdf : d.params.defaults = [])
    (call : ∀ (w : World) (s₀ s₁ : Shared) (mg mb : Str → Option Value) (fa : Addr) (o : Obj) (pm cd doc : Value) (a : Addr) (vs : List Value) (ns : List Int),
      Ground q loose [] XP w s₀ mg mb s₁.heap → YP w s₁.heap →
      s₁.heap.get? fa = some o → o.data = .func (docDef d.name d.params d.body d.scope pm cd doc) → s₁.heap.CodeRec cd d.name → mg d.name = some (.ref fa) →
      s₁.heap.get? a = some { cls := .type "list", data := .seq vs.toArray } → IntsAre vs ns → ns.length ≤ n → s₁.gens = #[] →
      codeAny (model l.prog w) callerA (.call (.ref fa) ⟨[.ref a], []⟩) (fun r s' => r = .ok (.ret (.bool true)) ∧ OldK s₁.heap s'.heap ∧ s'.os = s₁.os ∧ AllBare s'.gens) s₁) :
    WalkO q loose XP YP l.row.toRowW d [] (fun f vs => PySem.call f vs) := by
  intro w s₀ s₁ mg mb G Y fa o pm cd doc dV kV ho hd hcd hD hmg hg args vals as hpre hlay hrd hwl hlo
  obtain rfl : dV = .none := Dflts.none hD hdf
  obtain rfl : kV = .none := Dflts.noKw hD
  obtain ⟨a, vs, ns, rfl, rfl, hobj, hints, hlen⟩ := script_of hn hpre hwl
  refine enter_call (codeAny_mono (call w s₀ s₁ mg mb fa o pm cd doc a vs ns G Y ho (fd_plain hd) hcd hmg hobj hints hlen hg) fun r s' hq => ?_)
  obtain ⟨rfl, h2, h3, h4⟩ := hq
  exact ⟨.inl ⟨.bool true, .bool true, [], rfl, fun _ => rfl, .bool true, post_true l _, fun _ => ⟨List.Pairwise.nil, fun _ hm => (nomatch hm)⟩⟩, h2, h3, h4⟩


/-! ### rules over ANY heap (no ledger) from facts about the written part K: the library's own take a ledger (News) for what they write -/
section
variable {prog : Program} {w : World} {A : Around} {E : Value → Shared → Prop} {s : Shared} {K : Frag}





/-! the whole heap as the ledger: makes every rule that writes through a ledger a rule over any heap -/

end
end Att

namespace L2
open PySem PySem.Spec PyProof.Rows

theorem vals_ints : ∀ {vs : List Value} {ns : List Int}, IntsAre vs ns → Vals (ns.map V.int) vs
  | _, _, .nil => .nil
  | _, _, .cons n t h => .cons ⟨t, rfl⟩ (vals_ints h)

/-- nothing is tracked but the script, known to the object (or it is an object of the module) -/
noncomputable def Only (H : Hp) : Prop := ∀ b, H b = none ∨ ∃ o xs, H b = some (.frz o (.lst xs))

/-- THE HEAD: the law's promise, at the heap behind the top. F, the promise of the law's def, may use that base is part of the heap (so K.In base, base.Ns mainGlobals mg stand in Mod) -/
theorem law_call {P : Program} {w : World} {K : PySem.W.Frag} {mg mb : Str → Option Value} {CX : CXT} {k : Nat} {fa a : Addr} {fd : FuncData} {x : Str} {sp : Sp} {s₁ : Shared} {vs : List Value} {ns : List Int}
    (KX : K.In s₁.heap) (hns : s₁.heap.Ns mainGlobals mg) (hb : s₁.heap.Ns builtinsNs mb) (hbb : ∀ x : Str, x ≠ "__name__" → mb x = bootBuiltins x) (hlim : s₁.heap.NoLimit) (hg : s₁.gens = #[])
    (ha : s₁.heap.get? a = some { cls := .type "list", data := .seq vs.toArray }) (hi : IntsAre vs ns) (hl : ns.length ≤ sizeLine) (hr : Room k callerA)
    (F : ∀ base : Heap, K.In base → base.Ns mainGlobals mg → FnOk P w K mg base CX k fa fd [x] sp) (hbind : ∀ (s : Shared) (u : Value), BindsTo s fd ⟨[u], []⟩ [(x, u)])
    (hsp : ∀ H : Hp, Only H → SqL K H a (ns.map V.int) → sp [.ref a] H (fun v _ => v = .bl true) fun _ _ _ => False)
    (hCX : ∀ H e s', CX [] H s₁ (fun _ _ _ => False) e s' → False) :
    codeAny (model P w) callerA (.call (.ref fa) ⟨[.ref a], []⟩) (fun r s' => r = .ok (.ret (.bool true)) ∧ OldK s₁.heap s'.heap ∧ s'.os = s₁.os ∧ AllBare s'.gens) s₁ := by
  have rv := vals_ints hi
  have lenV := hi.length
  -- from an abstract heap in which nothing but the script may be tracked
  have core : ∀ H : Hp, Only H → SqL K H a (ns.map V.int) → HOk P w H s₁.heap → (∀ b, H b ≠ none → b = a) → (H a ≠ none → K.lookup a = none) →
      codeAny (model P w) callerA (.call (.ref fa) ⟨[.ref a], []⟩) (fun r s' => r = .ok (.ret (.bool true)) ∧ OldK s₁.heap s'.heap ∧ s'.os = s₁.os ∧ AllBare s'.gens) s₁ := by
    intro H hO hS hok hA hK
    have base_of : ∀ {b : Addr} {o : Obj}, s₁.heap.get? b = some o → H b = none → (hidT s₁.heap H).get? b = some o := fun e n => hidT_get e n
    have noA : ∀ {b : Addr} {o : Obj} {es : Array DictEntry} {ep : Nat}, s₁.heap.get? b = some o → o.data = .dict es ep → H b = none := fun {b o es ep} e d => by
      cases q : H b with
      | none => rfl
      | some u =>
        have e' : b = a := hA b (by rw [q]; simp)
        subst e'
        rw [ha] at e; cases e
        have d' : Data.seq vs.toArray _ = Data.dict es ep := d
        cases d'
    have nsK : ∀ {b : Addr} {m : Str → Option Value}, s₁.heap.Ns b m → (hidT s₁.heap H).Ns b m := fun {b m} ⟨o, es, ep, e, d, r⟩ => ⟨o, es, ep, base_of e (noA e d), d, r⟩
    have hKb : K.In (hidT s₁.heap H) := fun b o e => base_of (KX b o e) (by
      cases q : H b with
      | none => rfl
      | some u =>
        have e' : b = a := hA b (by rw [q]; simp)
        subst e'
        rw [hK (by rw [q]; simp)] at e; cases e)
    have hM : Mod K mg (hidT s₁.heap H) := ⟨hKb, nsK hns, ⟨mb, nsK hb, hbb⟩, let ⟨mc, h1, h2⟩ := hlim; ⟨mc, nsK h1, h2⟩⟩
    have e0 : Env0 P w K mg (hidT s₁.heap H) callerA [] s₁ H := ⟨rfl, hM, fun b o e => of_hidT e, Nat.le_of_eq (hidT_size _ _), trivial, fun b hb => absurd (show b ∈ ([] : List Addr) from hb) (by simp), hok, .of_eq hg⟩
    refine codeAny_mono ((F _ hKb (nsK hns)).run callerA [] s₁ H ⟨[.ref a], []⟩ [.ref a] [.ref a] _ _ hr e0 (hbind s₁ (.ref a)) (.cons rfl .nil) (hsp H hO hS)) fun r s' h => ?_
    cases r with
    | error e => exact (hCX H e s' h).elim
    | ok fl =>
      cases fl with
      | next => exact False.elim h
      | brk => exact False.elim h
      | cont => exact False.elim h
      | ret u =>
        obtain ⟨v, H', os, bare, un, hok', r', q⟩ := h
        have q' : v = .bl true := q
        subst q'
        obtain rfl : u = Value.bool true := r'
        refine ⟨rfl, OldK.of_keep fun b o e => ?_, os, bare⟩
        cases q : H b with
        | none => exact un.keep b o e q (by intro z; exact absurd (show b ∈ ([] : List Addr) from z) (by simp)) (by simp)
        | some u =>
          rcases hO b with z | ⟨ob, xs, z⟩
          · rw [q] at z; cases z
          · have z2 := un.frzs b ob _ z
            obtain ⟨e1, _⟩ := hok b _ z
            obtain ⟨e2, _⟩ := hok' b _ z2
            rw [e] at e1; cases e1
            exact e2
  cases hk : K.lookup a with
  | some o =>
    -- the script is one of the module's own objects
    have e := KX a o hk
    rw [ha] at e
    cases e
    refine core (fun _ => none) (fun _ => .inl rfl) (.inr ⟨_, vs.toArray, _, hk, rfl, rfl, rfl, by rw [List.size_toArray, lenV]; exact hl, by simpa using rv⟩) (fun b u z => by have z' : (none : Option HO) = some u := z; cases z') (fun b z => absurd rfl z) fun z => absurd rfl z
  | none =>
    refine core (fun b => if b = a then some (.frz { cls := .type "list", data := .seq vs.toArray } (.lst (ns.map V.int))) else none) (fun b => ?_) (.inl (.inr ⟨{ cls := .type "list", data := .seq vs.toArray }, if_pos rfl⟩)) (fun b u z => ?_) (fun b z => ?_) fun _ => hk
    · by_cases hb : b = a
      · exact .inr ⟨_, _, if_pos hb⟩
      · exact .inl (if_neg hb)
    · by_cases hb : b = a
      · have z' := (if_pos hb).symm.trans z
        cases z'
        subst hb
        exact ⟨ha, by rw [List.length_map]; exact hl, vs, _, rv, ha⟩
      · have z' := (if_neg hb).symm.trans z
        cases z'
    · by_cases hb : b = a
      · exact hb
      · exact absurd (if_neg hb) z
end L2

namespace L2
open PySem PySem.Spec PyProof.Rows

noncomputable abbrev KOf {K : PySem.W.Frag} {h : Heap} (_ : K.In h) : PySem.W.Frag := K

/-- the goal that k_head leaves (case hc), from the law's promise. F gives the function object fd (K's own) once, then the promise over every base -/
theorem walk_of {l : PySem.W.OpenLaw} {n k : Nat} {q : Program} {loose : List Str} {XP : (Str → Option Value) → Heap → Prop} {YP : World → Heap → Prop} {d : DefRec} {K : Params → PySem.W.Frag} {CX : World → CXT} {sp : World → Sp} {x : Str}
    (hn : l.most = some n) (hn2 : n ≤ sizeLine) (hdf : d.params.defaults = []) (hr : Room k callerA)
    (hY : ∀ (w : World) (h : Heap), YP w h → (K w.params).In h)
    (F : ∀ (w : World) (mg : Str → Option Value) (fa : Addr) (h : Heap), (K w.params).In h → h.Ns mainGlobals mg → mg d.name = some (.ref fa) →
      ∃ fd : FuncData, (∀ (s : Shared) (u : Value), BindsTo s fd ⟨[u], []⟩ [(x, u)]) ∧
        ∀ base : Heap, (K w.params).In base → base.Ns mainGlobals mg → FnOk l.prog w (K w.params) mg base (CX w) k fa fd [x] (sp w))
    (hsp : ∀ (w : World) (H : Hp) (a : Addr) (ns : List Int), ns.length ≤ n → Only H → SqL (K w.params) H a (ns.map V.int) → sp w [.ref a] H (fun v _ => v = .bl true) fun _ _ _ => False)
    (hCX : ∀ (w : World) (H : Hp) (s : Shared) (e : Value) (s' : Shared), CX w [] H s (fun _ _ _ => False) e s' → False) :
    PySem.W.WalkO q loose XP YP l.row.toRowW d [] (fun f vs => PySem.call f vs) := by
  refine Att.attach_call hn hdf fun w s₀ s₁ mg mb fa o pm cd doc a vs ns G Y ho hd hcd hmg hobj hints hlen hg => ?_
  have KX := hY w _ Y
  obtain ⟨fd, hb, hF⟩ := F w mg fa _ KX G.T.g hmg
  exact law_call KX G.T.g G.T.b G.T.builtins G.T.nolimit hg hobj hints (Nat.le_trans hlen hn2) hr hF hb (fun H hO hS => hsp w H a ns hlen hO hS) fun H e s' => hCX w H s₁ e s'
end L2

/- THE LAST THEOREM (shape; LID, My.* are yours):
   My.Adr: a structure of the addresses that your layer names (classes, functions); My.Txt K t: a structure (Prop) of the equations over K;
   My.txt_mk : {K} {implicit addresses ..} (e1 : nsIn K mainGlobals "law" = some (some (.ref f))) (e2 : K.lookup f = some ⟨oc, od, .func (fnOf "law" "law" params body scope dV kV doc pm an cdv ct), sl⟩) (e3 : codeIn K cdv "law" = true) .. : ∃ t, My.Txt K t

set_option maxRecDepth 100000 in
set_option maxHeartbeats 0 in
theorem PySem.Challenge.cw_LID_holds : PySem.Challenge.rw_LID.Holds := by
  w_on; o_law; k_head; (case hw => w_witness2)
  k_fill
  refine L2.walk_of (l := PySem.Challenge.rw_LID) (n := 63) (k := 40) (x := "script") (CX := fun w => ..) (sp := fun _ => My.sp_law) rfl (by decide) rfl ⟨rfl, by decide, by decide⟩ (fun w h Y => PySem.W.kIn_of Y) ?F ?S ?C
  case F =>
    intro w mg fa h KX G hmg
    have T : ∃ t, My.Txt (L2.KOf KX) t := by
      dsimp only [L2.KOf]                          -- K must stand as «<heap const> w.params» for k_is
      refine' My.txt_mk ?e1 ?e2 ?e3 ..
      (case e1 => PySem.W.k_is)                    -- in the order: a name -> its address -> its object -> its parts
      (case e2 => PySem.W.k_is)
      ..
    obtain ⟨t, T⟩ := T
    have e0 := hmg.symm.trans (PySem.W.mg_of KX G T.law)
    cases e0                                       -- fa is the law's own address
    exact ⟨_, fun s u => .of_eq rfl, fun base kb nb => My.law_fn T kb nb⟩     -- if «.of_eq rfl» comes too early: refine' ⟨_, ?b, fun base kb nb => My.law_fn T kb nb⟩; exact fun s u => .of_eq rfl
  case S => exact fun w H a ns hl hO hS => ..
  case C => exact ..
(the tactic k_is has no namespace: write k_is) -/

/-! SHORT WORDS over the layer: a def of the text, its body, what a loop and a test want. -/
namespace L2
open PySem PySem.Spec PyProof.Rows

/-! ### the text by places -/
noncomputable def defArgs (s : Stmt) : Arguments := match s with
  | .FunctionDef _ a _ _ _ _ _ _ _ _ => a
  | _ => { posonlyargs := [], args := [], vararg := none, kwonlyargs := [], kw_defaults := [], kwarg := none, defaults := [] }
noncomputable def defBody (s : Stmt) : List Stmt := match s with
  | .FunctionDef _ _ b _ _ _ _ _ _ _ => b
  | _ => []
noncomputable def defScope (s : Stmt) : Scope := match s with
  | .FunctionDef _ _ _ _ _ _ sc _ _ _ => sc
  | _ => { kind := .function, names := [], isGenerator := false, isCoroutine := false }

/-! ### no exception leaves a def -/
noncomputable abbrev CX0 : CXT := fun _ _ _ _ _ _ => False
noncomputable abbrev E0 : XK := fun _ _ _ => False
theorem pass0 {X : Cx} : Passes CX0 X E0 := fun _ _ _ _ _ _ _ h => h.elim

/-! ### a def (or method) of the text as it stands behind the top -/
structure Fun (K : PySem.W.Frag) (x qual : Str) (st : Stmt) (f : Addr) (fd : FuncData) : Prop where
  ex : ∃ (oc : Value) (od : Option Addr) (kV doc pm : Value) (an : Option Addr) (cdv ct : Value) (osl : Array (Option Value)),
    fd = PySem.W.fnOf x qual (defArgs st) (defBody st) (defScope st) .none kV doc pm an cdv ct ∧ K.lookup f = some ⟨oc, od, .func fd, osl⟩ ∧ PySem.W.codeIn K cdv qual = true
  kp : PySem.W.keepIn K (.ref f) = true
section
variable {P : Program} {w : World} {K : PySem.W.Frag} {mg : Str → Option Value} {base : Heap}
/-- THE RULE for a def: its body as a term of rules, and the reading of that term -/
theorem Fun.ok {x qual : Str} {st : Stmt} {f : Addr} {fd : FuncData} {N ps : List Str} {k : Nat} {sp : Sp} (F : Fun K x qual st f fd) (S : FnScope N ps (defScope st)) (len : ∀ vs H Q E, sp vs H Q E → vs.length = ps.length)
    (hbody : ∀ (cdv : Value) (A : Around) (outer : List Env) (s : Shared) (H : Hp) (vs : List V) (Q : VK) (E : XK), Room k (A.deeper (envOfC qual (defScope st) s.heap.objs.size f cdv)) → sp vs H Q E →
      ∃ t, PSs (cxOf CX0 P w K mg base N qual (defScope st) f cdv A outer s H E).nox (defBody st) t ∧ t { nx := fun _ H' => Q .non H', rt := Q } (start N vs) H) : FnOk P w K mg base CX0 (k + 1) f fd ps sp := by
  obtain ⟨oc, od, kV, doc, pm, an, cdv, ct, osl, rfl, lk, hcd⟩ := F.ex
  refine fn_of lk hcd S len fun A outer s H vs Q E hr hsp => ?_
  obtain ⟨t, h, q⟩ := hbody cdv A outer s H vs Q E hr hsp
  exact ⟨t, h.nox, q⟩
theorem fun_mk {x qual : Str} {st : Stmt} {f : Addr} {oc : Value} {od an : Option Addr} {osl : Array (Option Value)} {kV doc pm cdv ct : Value} (l : K.lookup f = some ⟨oc, od, .func (PySem.W.fnOf x qual (defArgs st) (defBody st) (defScope st) .none kV doc pm an cdv ct), osl⟩)
    (c : PySem.W.codeIn K cdv qual = true) (k : PySem.W.keepIn K (.ref f) = true) : Fun K x qual st f (PySem.W.fnOf x qual (defArgs st) (defBody st) (defScope st) .none kV doc pm an cdv ct) := ⟨⟨oc, od, kV, doc, pm, an, cdv, ct, osl, rfl, l, c⟩, k⟩
end
theorem small1000 {n : Nat} (h : n ≤ 1000) : n < sizeLine := Nat.lt_of_le_of_lt h (by decide)

/-! ### expressions in short: the name that stands in the i-th slot -/
section
variable {X : Cx}
theorem pv (i : Nat) {x : Str} {pos : Pos} (hN : X.N[i]? = some x := by rfl) (hv : Vis X.env.scope x := by first | exact Or.inl rfl | exact Or.inr (Or.inl rfl) | exact Or.inr (Or.inr rfl)) (hd : (x == ("__debug__" : Str)) = false := by decide)
    (hcd : (x == ("__classdict__" : Str)) = false := by decide) : PE X (.Name x pos) (tVar i) := pe_var hN hv hd hcd
end

/-! ### tests -/
theorem iteF {A B : Prop} (h : B) : if false = true then A else B := by
  rw [if_neg Bool.false_ne_true]
  exact h
theorem iteT {A B : Prop} (h : A) : if true = true then A else B := by
  rw [if_pos rfl]
  exact h
theorem ite2 {c A B : Prop} [Decidable c] (h1 : c → A) (h2 : ¬ c → B) : if c then A else B := by
  by_cases h : c
  · rw [if_pos h]
    exact h1 h
  · rw [if_neg h]
    exact h2 h
theorem iteNS {c A B : Prop} [Decidable c] (hc : c) (h : B) : if (!decide c) = true then A else B := by
  rw [decide_eq_true hc]
  exact iteF h

/-! ### heaps -/
/-- all that was tracked is as it was -/
noncomputable def Same (H H' : Hp) : Prop := ∀ b o, H b = some o → H' b = some o
theorem Same.refl (H : Hp) : Same H H := fun _ _ h => h
theorem Same.trans {H H1 H2 : Hp} (a : Same H H1) (b : Same H1 H2) : Same H H2 := fun c o h => b c o (a c o h)
theorem Same.free {H H' : Hp} (e : Same H H') {l : Addr} (h : H' l = Option.none) : H l = Option.none := by
  cases q : H l with
  | none => rfl
  | some o =>
    rw [e l o q] at h
    cases h
theorem Same.seq {K : PySem.W.Frag} {H H' : Hp} {a : Addr} {xs : List V} (e : Same H H') (h : SqL K H a xs) : SqL K H' a xs := by
  rcases h with (h | ⟨o, h⟩) | h
  · exact .inl (.inl (e _ _ h))
  · exact .inl (.inr ⟨o, e _ _ h⟩)
  · exact .inr h

end L2

/-! ### a list comprehension of one clause -/
namespace L2
open PySem PySem.Spec PyProof.Rows

section
variable {prog : Program} {w : World} {A : Around} {R : Result → Shared → Prop} {s : Shared}
theorem compLoop_own {elt target iter : Expr} {ifs : List Expr} {scope : Scope} {pos : Pos} {it acc : Value} {env : Env} (I : Nat → Shared → Prop)
    (turn : ∀ n s, I n s → wpAny (model prog w) A (pyNext it) (fun r s₁ => match r with
      | none => R (.ok .next) s₁
      | some v => wpAny (model prog w) A (letOwnedTupleGo target it v) (fun _ s₀ => wpAny (model prog w) A (assign target env v) (fun _ s₂ =>
          wpAny (model prog w) A (forIn ifs true fun c r => if r = true then do let ok ← isTrue c env (eval c env); pure (ForInStep.yield ok) else pure (ForInStep.yield r)) (fun ok s₃ =>
            if ok = true then wpAny (model prog w) A (eval elt env) (fun x s₄ =>
              wpAny (model prog w) A (call (.builtin "list.append") [acc, x]) (fun _ s₅ => ∃ m, m < n ∧ I m s₅) (fun _ _ => False) s₄) (fun _ _ => False) s₃
            else ∃ m, m < n ∧ I m s₃) (fun _ _ => False) s₂) (fun _ _ => False) s₀) (fun _ _ => False) s₁) (fun _ _ => False) s)
    (n : Nat) (h : I n s) :
    codeAny (model prog w) A (.compLoop (.ListComp elt [⟨target, iter, ifs, 0⟩] scope pos) 0 it acc env) R s := by
  refine codeAny_loop rfl I (fun n s hI => ?_) n h
  show wpAny _ A ((compTurn (.ListComp elt [⟨target, iter, ifs, 0⟩] scope pos) 0 it acc env).onRaise (fun x => do noteFrame x env; theTreesLotGoes x)) _ _ s
  refine wpAny_noted ?_
  rw [compTurn_list]
  refine wpAny_bind (wpAny_standAt (wpAny_bind (wpAny_mono (turn n s hI) (fun r s₁ h₁ => ?_) fun _ _ h' => h'.elim)))
  cases r with
  | none => exact wpAny_pure h₁
  | some v =>
    refine wpAny_bind (wpAny_mono h₁ (fun _ s₀ h₀ => ?_) fun _ _ h' => h'.elim)
    refine wpAny_bind (wpAny_mono h₀ (fun _ s₂ h₂ => wpAny_bind (wpAny_mono h₂ (fun ok s₃ h₃ => ?_) fun _ _ h' => h'.elim)) fun _ _ h' => h'.elim)
    cases ok with
    | false => exact wpAny_pure ⟨rfl, h₃⟩
    | true =>
      exact wpAny_bind (wpAny_bind (wpAny_mono h₃ (fun x s₄ h₄ => wpAny_bind (wpAny_mono h₄ (fun _ s₅ h₅ => wpAny_pure (wpAny_pure ⟨rfl, h₅⟩)) fun _ _ h' => h'.elim)) fun _ _ h' => h'.elim))
end

/-! the closure of a block -/
noncomputable def closList (env : Env) : List (Str × NameKind) → List (Str × Addr) → List (Str × Addr)
  | [], acc => acc
  | (x, k) :: r, acc => if k == .free then closList env r ((x, (env.cells.lookup x).getD 0) :: acc) else closList env r acc
theorem closureFor_list {scope : Scope} {env : Env} (h : ∀ x ∈ scope.names, x.2 = .free → ∃ c, env.cells.lookup x.1 = some c) : closureFor scope env = pure (closList env scope.names []) := by
  have all : ∀ (names : List (Str × NameKind)) (acc : List (Str × Addr)), (∀ x ∈ names, x.2 = .free → ∃ c, env.cells.lookup x.1 = some c) →
      (forIn names acc fun (x : Str × NameKind) (r : List (Str × Addr)) => (if (x.2 == NameKind.free) = true then do let a ← cellOf env x.1; pure (ForInStep.yield ((x.1, a) :: r)) else pure (ForInStep.yield r) : Sem (ForInStep (List (Str × Addr))))) = pure (closList env names acc) := by
    intro names
    induction names with
    | nil => intro acc _; rfl
    | cons x r ih =>
      intro acc hx
      obtain ⟨n, k⟩ := x
      have hr := fun y hy => hx y (List.mem_cons_of_mem _ hy)
      rw [List.forIn_cons]
      unfold closList
      by_cases hk : (k == NameKind.free) = true
      · obtain ⟨c, hc⟩ := hx (n, k) List.mem_cons_self (by simpa using hk)
        have hc' : env.cells.lookup n = some c := hc
        have e1 : cellOf env n = pure c := by unfold cellOf; rw [hc']
        simp only [hk, if_true, e1, pure_bind, hc', Option.getD_some]
        exact ih _ hr
      · simp only [hk, Bool.false_eq_true, if_false, pure_bind]
        exact ih _ hr
  have := all scope.names [] h
  simp only [closureFor]
  first
    | exact this
    | (refine Eq.trans ?_ (this); rfl)
    | (rw [show (forIn scope.names ([] : List (Str × Addr)) _ : Sem _) = _ from this]; rfl)

theorem closList_mem {env : Env} : ∀ (names : List (Str × NameKind)) (acc : List (Str × Addr)) (x : Str) (c : Addr), (x, c) ∈ closList env names acc → ((x, NameKind.free) ∈ names ∧ c = (env.cells.lookup x).getD 0) ∨ (x, c) ∈ acc
  | [], _, _, _, h => .inr h
  | (y, k) :: r, acc, x, c, h => by
    unfold closList at h
    split at h
    · rename_i hk
      have hk : k = .free := by simpa using hk
      rcases closList_mem r _ x c h with ⟨h1, h2⟩ | h1
      · exact .inl ⟨List.mem_cons_of_mem _ h1, h2⟩
      · rcases List.mem_cons.mp h1 with e | h1
        · cases e; subst hk; exact .inl ⟨List.mem_cons_self, rfl⟩
        · exact .inr h1
    · rcases closList_mem r _ x c h with ⟨h1, h2⟩ | h1
      · exact .inl ⟨List.mem_cons_of_mem _ h1, h2⟩
      · exact .inr h1
theorem closList_acc {env : Env} : ∀ (names : List (Str × NameKind)) (acc : List (Str × Addr)) (p : Str × Addr), p ∈ acc → p ∈ closList env names acc
  | [], _, _, h => h
  | (y, k) :: r, acc, p, h => by
    unfold closList
    split
    · exact closList_acc r _ p (List.mem_cons_of_mem _ h)
    · exact closList_acc r _ p h
theorem closList_has {env : Env} : ∀ (names : List (Str × NameKind)) (acc : List (Str × Addr)) (x : Str), (x, NameKind.free) ∈ names → (x, (env.cells.lookup x).getD 0) ∈ closList env names acc
  | [], _, _, h => nomatch h
  | (y, k) :: r, acc, x, h => by
    unfold closList
    rcases List.mem_cons.mp h with e | h
    · cases e
      rw [if_pos (by rfl)]
      exact closList_acc r _ _ List.mem_cons_self
    · split
      · exact closList_has r _ x h
      · exact closList_has r _ x h
theorem mem_lookup {α : Type} : ∀ {l : List (Str × α)} {x : Str} {c : α}, (x, c) ∈ l → ∃ d, l.lookup x = some d
  | (k, v) :: r, x, c, h => by
    rw [List.lookup_cons]
    cases hb : x == k with
    | true => exact ⟨v, rfl⟩
    | false =>
      rcases List.mem_cons.mp h with e | h
      · cases e; simp at hb
      · exact mem_lookup h
theorem closList_lookup {env : Env} {names : List (Str × NameKind)} {x : Str} {c : Addr} (h : (closList env names []).lookup x = some c) (hh : ∀ y ∈ names, y.2 = .free → ∃ c, env.cells.lookup y.1 = some c) :
    (x, NameKind.free) ∈ names ∧ env.cells.lookup x = some c := by
  rcases closList_mem names [] x c (mem_of_lookup h) with ⟨h1, h2⟩ | h1
  · obtain ⟨d, hd⟩ := hh _ h1 rfl
    have hd' : env.cells.lookup x = some d := hd
    rw [hd'] at h2
    exact ⟨h1, by rw [h2]; exact hd'⟩
  · exact nomatch h1
theorem closList_look {env : Env} {names : List (Str × NameKind)} {x : Str} (hx : (x, NameKind.free) ∈ names) (hh : ∀ y ∈ names, y.2 = .free → ∃ c, env.cells.lookup y.1 = some c) :
    ∃ c, (closList env names []).lookup x = some c ∧ env.cells.lookup x = some c := by
  obtain ⟨d, hd⟩ := mem_lookup (closList_has names [] x hx)
  exact ⟨d, hd, (closList_lookup hd hh).2⟩

/-! the cells of a block's own -/
theorem cf_not : ∀ (names : List (Str × NameKind)) (n : Nat) (acc : List (Str × Addr)) (x : Str), (x, NameKind.cell) ∉ names → (cellsFrom n names acc).lookup x = acc.lookup x
  | [], _, _, _, _ => rfl
  | (y, k) :: r, n, acc, x, h => by
    unfold cellsFrom
    have hr : (x, NameKind.cell) ∉ r := fun z => h (List.mem_cons_of_mem _ z)
    split
    · rename_i hk
      have hk : k = .cell := by simpa using hk
      rw [cf_not r _ _ x hr, List.lookup_cons]
      cases hb : x == y with
      | true =>
        have e : x = y := by simpa using hb
        exact absurd List.mem_cons_self (by subst e; subst hk; exact h)
      | false => rfl
    · exact cf_not r n acc x hr
theorem cf_own : ∀ (names : List (Str × NameKind)) (n : Nat) (acc : List (Str × Addr)) (x : Str), (x, NameKind.cell) ∈ names → ∃ c, n ≤ c ∧ (cellsFrom n names acc).lookup x = some c
  | [], _, _, _, h => nomatch h
  | (y, k) :: r, n, acc, x, h => by
    unfold cellsFrom
    by_cases hr : (x, NameKind.cell) ∈ r
    · split
      · obtain ⟨c, h1, h2⟩ := cf_own r (n + 1) ((y, n) :: acc) x hr
        exact ⟨c, by omega, h2⟩
      · exact cf_own r n acc x hr
    · have e : (x, NameKind.cell) = (y, k) := (List.mem_cons.mp h).resolve_right hr
      injection e with e1 e2
      subst e1
      subst e2
      rw [if_pos (by rfl), cf_not r _ _ x hr, List.lookup_cons]
      simp
theorem cf_lt : ∀ (names : List (Str × NameKind)) (h : Heap) (acc : List (Str × Addr)) (x : Str) (c : Addr), (cellsFrom h.objs.size names acc).lookup x = some c → (pushCells h names).IsCell c none ∨ acc.lookup x = some c
  | [], _, _, _, _, h => .inr h
  | (y, k) :: r, h, acc, x, c, e => by
    unfold cellsFrom at e
    unfold pushCells
    by_cases hk : (k == NameKind.cell) = true
    · rw [if_pos hk] at e ⊢
      have e' : (cellsFrom (h.push { cls := .type "cell", data := .cell none }).objs.size r ((y, h.objs.size) :: acc)).lookup x = some c := by rw [Heap.size_push]; exact e
      rcases cf_lt r _ _ x c e' with q | q
      · exact .inl q
      · rw [List.lookup_cons] at q
        cases hb : x == y with
        | true =>
          rw [hb] at q
          have q' : h.objs.size = c := Option.some.inj q
          subst q'
          exact .inl ((show (h.push { cls := .type "cell", data := .cell none }).IsCell h.objs.size none from ⟨_, Heap.get?_push_size _ rfl, rfl⟩).keeps (pushCells_keeps _ _))
        | false => rw [hb] at q; exact .inr q
    · rw [if_neg hk] at e ⊢
      exact cf_lt r h acc x c e
/-- addresses of own cells lie at n or above, they differ by name -/
theorem cf_inj : ∀ (names : List (Str × NameKind)) (n : Nat) (acc : List (Str × Addr)), (∀ x c, acc.lookup x = some c → c < n) → (∀ x y c, acc.lookup x = some c → acc.lookup y = some c → x = y) →
    ∀ x y c, (cellsFrom n names acc).lookup x = some c → (cellsFrom n names acc).lookup y = some c → x = y
  | [], _, _, _, h => h
  | (z, k) :: r, n, acc, h1, h2 => by
    unfold cellsFrom
    split
    · refine cf_inj r (n + 1) _ (fun x c e => ?_) fun x y c e e' => ?_
      · rw [List.lookup_cons] at e
        cases hb : x == z with
        | true => rw [hb] at e; exact (Option.some.inj e) ▸ Nat.lt_succ_self n
        | false => rw [hb] at e; exact Nat.lt_succ_of_lt (h1 x c e)
      · rw [List.lookup_cons] at e e'
        cases hb : x == z with
        | true =>
          rw [hb] at e
          have ec : n = c := Option.some.inj e
          cases hb' : y == z with
          | true => have a : x = z := by simpa using hb
                    have b : y = z := by simpa using hb'
                    rw [a, b]
          | false => rw [hb'] at e'; exact absurd (h1 y c e') (by rw [← ec]; exact Nat.lt_irrefl n)
        | false =>
          rw [hb] at e
          cases hb' : y == z with
          | true =>
            rw [hb'] at e'
            have ec : n = c := Option.some.inj e'
            exact absurd (h1 x c e) (by rw [← ec]; exact Nat.lt_irrefl n)
          | false => rw [hb'] at e'; exact h2 x y c e e'
    · exact cf_inj r n acc h1 h2

/-- what a block wants of its scope: N0, sc the names and the scope around; mp: for each name of the block its place among N0, where it is taken from there -/
structure BlkOk (N0 : List Str) (sc : Scope) (N : List Str) (scope : Scope) (mp : List (Option Nat)) : Prop where
  kind : scope.kind = .function
  nd : (scope.names.map (·.1)).Nodup
  freeB : (scope.names.all fun x => !decide (x.2 = .free) || (decide (sc.names.lookup x.1 = some .cell) || decide (sc.names.lookup x.1 = some .free))) = true
  len : mp.length = N.length
  map : ((List.range mp.length).all fun i => match mp[i]? with
    | some (some j) => (match N[i]?, N0[j]? with
      | some x, some y => decide (x = y) && decide (scope.names.lookup x = some .free)
      | _, _ => false)
    | _ => true) = true
theorem BlkOk.free {N0 : List Str} {sc : Scope} {N : List Str} {scope : Scope} {mp : List (Option Nat)} (S : BlkOk N0 sc N scope mp) : ∀ x ∈ scope.names, x.2 = .free → sc.names.lookup x.1 = some .cell ∨ sc.names.lookup x.1 = some .free := fun x hx e => by
  have q := List.all_eq_true.mp S.freeB x hx
  rw [decide_eq_true e] at q
  simpa using q
theorem BlkOk.at {N0 : List Str} {sc : Scope} {N : List Str} {scope : Scope} {mp : List (Option Nat)} (S : BlkOk N0 sc N scope mp) {i j : Nat} (h : mp[i]? = some (some j)) :
    ∃ x, N[i]? = some x ∧ N0[j]? = some x ∧ scope.names.lookup x = some .free := by
  have hi : i < mp.length := (List.getElem?_eq_some_iff.mp h).1
  have q := List.all_eq_true.mp S.map i (List.mem_range.mpr hi)
  rw [h] at q
  simp only at q
  cases e1 : N[i]? with
  | none => rw [e1] at q; simp at q
  | some x =>
    cases e2 : N0[j]? with
    | none => rw [e1, e2] at q; simp at q
    | some y =>
      rw [e1, e2] at q
      simp only [Bool.and_eq_true, decide_eq_true_eq] at q
      obtain ⟨q1, q2⟩ := q
      subst q1
      exact ⟨x, rfl, rfl, q2⟩
theorem nodup_lookup {α : Type} : ∀ {l : List (Str × α)} {x : Str} {a : α}, (l.map (·.1)).Nodup → (x, a) ∈ l → l.lookup x = some a
  | (k, v) :: r, x, a, nd, h => by
    have nd : (k :: r.map (·.1)).Nodup := nd
    obtain ⟨n1, n2⟩ := List.nodup_cons.mp nd
    rw [List.lookup_cons]
    rcases List.mem_cons.mp h with e | h'
    · cases e; simp
    · have ne : (x == k) = false := by
        cases hb : x == k with
        | false => rfl
        | true =>
          have e : x = k := by simpa using hb
          subst e
          exact (n1 (List.mem_map.mpr ⟨(x, a), h', rfl⟩)).elim
      rw [ne]
      exact nodup_lookup n2 h'

/-- the names' values at a block's entry -/
noncomputable def liftSt (mp : List (Option Nat)) (σ : St) : St := mp.map fun o => o.bind fun j => (σ[j]?).join

/-- the context of a comprehension's block -/
noncomputable def cxBlk (X : Cx) (N : List Str) (scope : Scope) (C : Addr) (cl : List (Str × Addr)) (s : Shared) (H : Hp) (fp : List Addr) (pins : List (Addr × Obj)) : Cx where
  prog := X.prog
  w := X.w
  K := X.K
  mg := X.mg
  base := X.base
  A := X.A
  N := N
  s₀ := s
  H₀ := H
  env := compEnvC scope (cellsFrom (C + 1) scope.names cl) C X.env
  outer := X.stack
  stack := X.stack
  ex := fp
  fn := fun x => decide (scope.names.lookup x = some .cell)
  calm := X.calm
  pn := X.pn ++ pins
  xe := fun _ _ => False

theorem relabel_lookup {env : Env} : ∀ {names : List (Str × NameKind)} {x : Str} {k : NameKind}, (names.map fun (n, k) => if (k == NameKind.free && env.scope.kind == .function && env.kindOf n == some .cell) then (n, NameKind.cell) else (n, k)).lookup x = some k →
    names.lookup x = some k ∨ (names.lookup x = some .free ∧ k = .cell ∧ env.kindOf x = some .cell)
  | [], _, _, h => by simp at h
  | (n, k') :: r, x, k, h => by
    have ih := @relabel_lookup env r x k
    rw [List.map_cons] at h
    rw [List.lookup_cons]
    cases hx : x == n with
    | true =>
      have e : x = n := by simpa using hx
      subst e
      by_cases hc : (k' == NameKind.free && env.scope.kind == .function && env.kindOf x == some .cell) = true
      · simp only [hc, if_true, List.lookup_cons, beq_self_eq_true, Option.some.injEq] at h
        rw [Bool.and_eq_true, Bool.and_eq_true] at hc
        obtain ⟨⟨c1, _⟩, c3⟩ := hc
        exact .inr ⟨by rw [show k' = .free by simpa using c1], h.symm, by simpa using c3⟩
      · simp only [hc, Bool.false_eq_true, if_false, List.lookup_cons, beq_self_eq_true, Option.some.injEq] at h
        exact .inl (by rw [h])
    | false =>
      refine ih ?_
      by_cases hc : (k' == NameKind.free && env.scope.kind == .function && env.kindOf n == some .cell) = true
      · simpa only [hc, if_true, List.lookup_cons, hx] using h
      · simpa only [hc, Bool.false_eq_true, if_false, List.lookup_cons, hx] using h

theorem newBlk {M : Model} {A : Around} {E : Value → Shared → Prop} {s : Shared} {scope : Scope} {globals : Addr} {cl : List (Str × Addr)} {qual : Str} {env : Env} {Q : Env → Shared → Prop}
    (h : Q { scope := scope, locals := s.heap.objs.size, globals := globals, cells := cellsFrom (s.heap.objs.size + 1) scope.names cl, qual := qual, func := none, code := env.code, frame := env.frame, builtins := env.builtins }
      { s with heap := pushCells (s.heap.push { cls := .type "dict", data := .dict #[] }) scope.names }) :
    wpAny M A (newFunctionEnv scope globals cl [] qual none .none (some env)) Q E s := by
  simp only [newFunctionEnv, Option.isSome_some, if_true]
  refine wpAny_bind (wpAny_alloc ?_)
  refine wpAny_bind (wpAny_layCells _ (fun name kind cells => by cases hkc : kind == NameKind.cell <;> simp [hkc]) _ _ _ _ ?_)
  rw [show ({ s with heap := s.heap.push { cls := .type "dict", data := .dict #[] } } : Shared).heap.objs.size = s.heap.objs.size + 1 from Heap.size_push ..]
  first
    | exact wpAny_bind (wpAny_pure (wpAny_pure h))
    | exact wpAny_pure h
    | (rw [List.forIn_nil]; exact wpAny_bind (wpAny_pure (wpAny_pure h)))

section
variable {X : Cx} {pins : List (Addr × Obj)} {σ : St} {H : Hp} {s : Shared}
/-- the block's entry -/
theorem blk_start {N : List Str} {scope : Scope} {mp : List (Option Nat)} {fp : List Addr} (S : BlkOk X.N X.env.scope N scope mp) (I : Inv X pins σ H s) (f : ∀ b ∈ fp, FpOk X pins H b) (fo : ∀ b ∈ fp, b < s.heap.objs.size) :
    Inv (cxBlk X N scope s.heap.objs.size (closList X.env scope.names []) s H fp pins) [] (liftSt mp σ) H { s with heap := pushCells (s.heap.push { cls := .type "dict", data := .dict #[] }) scope.names } := by
  have hk : ∀ b o, s.heap.get? b = some o → (pushCells (s.heap.push { cls := .type "dict", data := .dict #[] }) scope.names).get? b = some o := fun b o e => pushCells_keeps _ _ b o (Heap.get?_push_of_some _ e)
  have hfree : ∀ y ∈ scope.names, y.2 = .free → ∃ c, X.env.cells.lookup y.1 = some c := fun y hy hf => I.ok.has y.1 (S.free y hy hf)
  have clo : ∀ x c, (closList X.env scope.names []).lookup x = some c → (x, NameKind.free) ∈ scope.names ∧ X.env.cells.lookup x = some c := fun x c e => closList_lookup e hfree
  have old : ∀ x c, X.env.cells.lookup x = some c → c < s.heap.objs.size := fun x c e => by
    obtain ⟨v, q⟩ := I.cell x c e
    exact q.lt
  -- a name's cell: an own one, above, or one of the closure's
  have cell_of : ∀ x c, (cellsFrom (s.heap.objs.size + 1) scope.names (closList X.env scope.names [])).lookup x = some c → (s.heap.objs.size + 1 ≤ c ∧ (x, NameKind.cell) ∈ scope.names) ∨ ((x, NameKind.free) ∈ scope.names ∧ X.env.cells.lookup x = some c) := fun x c e => by
    by_cases hx : (x, NameKind.cell) ∈ scope.names
    · obtain ⟨d, h1, h2⟩ := cf_own scope.names (s.heap.objs.size + 1) (closList X.env scope.names []) x hx
      rw [h2] at e
      cases e
      exact .inl ⟨h1, hx⟩
    · rw [cf_not _ _ _ x hx] at e
      exact .inr (clo x c e)
  have isCell : ∀ x c, (cellsFrom (s.heap.objs.size + 1) scope.names (closList X.env scope.names [])).lookup x = some c → ∃ v, (pushCells (s.heap.push { cls := .type "dict", data := .dict #[] }) scope.names).IsCell c v := fun x c e => by
    have e' : (cellsFrom (s.heap.push { cls := .type "dict", data := .dict #[] }).objs.size scope.names (closList X.env scope.names [])).lookup x = some c := by rw [Heap.size_push]; exact e
    rcases cf_lt scope.names _ _ x c e' with q | q
    · exact ⟨none, q⟩
    · obtain ⟨v, z⟩ := I.cell x c (clo x c q).2
      exact ⟨v, z.keeps hk⟩
  refine ⟨⟨I.ok.mod, S.kind, I.ok.glob, I.ok.blt, Nat.le_refl _, ?_, ?_, ?_, I.ok.hd, I.ok.frames, .inl rfl, ?_, I.bs, Nat.le_trans I.ok.bsz I.sz, ?_, ?_, I.stack, I.stkFree⟩,
    rfl, I.bare, Un.kept hk, ⟨fun _ => none, ?_, ?_⟩, isCell, I.hok.fresh (Nat.le_refl _), ?_, ?_, I.hok.kept hk, ?_⟩
  · -- inj
    refine cf_inj scope.names _ _ (fun x c e => ?_) fun x y c e e' => I.ok.inj x y c (clo x c e).2 (clo y c e').2
    exact Nat.lt_succ_of_lt (old x c (clo x c e).2)
  · -- has
    intro x hx
    have key : (x, NameKind.cell) ∈ scope.names ∨ (x, NameKind.free) ∈ scope.names := by
      have hx' : (relabel scope X.env).names.lookup x = some .cell ∨ (relabel scope X.env).names.lookup x = some .free := hx
      rcases hx' with q | q
      · rcases relabel_lookup q with z | ⟨z, _, _⟩
        · exact .inl (mem_of_lookup z)
        · exact .inr (mem_of_lookup z)
      · rcases relabel_lookup q with z | ⟨z, _, _⟩
        · exact .inr (mem_of_lookup z)
        · exact .inr (mem_of_lookup z)
    by_cases hc : (x, NameKind.cell) ∈ scope.names
    · obtain ⟨d, _, h2⟩ := cf_own scope.names (s.heap.objs.size + 1) (closList X.env scope.names []) x hc
      exact ⟨d, h2⟩
    · obtain ⟨d, h2, _⟩ := closList_look (key.resolve_left hc) hfree
      exact ⟨d, by show (cellsFrom (s.heap.objs.size + 1) scope.names (closList X.env scope.names [])).lookup x = some d; rw [cf_not _ _ _ x hc]; exact h2⟩
  · -- cab
    intro x c hf e
    have hc : (x, NameKind.cell) ∈ scope.names := mem_of_lookup (of_decide_eq_true hf)
    rcases cell_of x c e with ⟨h1, _⟩ | ⟨h1, _⟩
    · exact Nat.le_of_succ_le h1
    · have q1 := nodup_lookup S.nd hc
      have q2 := nodup_lookup S.nd h1
      rw [q1] at q2; cases q2
  · -- exf
    intro b hb
    refine ⟨Nat.ne_of_lt (fo b hb), fun x c e z => ?_⟩
    subst z
    rcases cell_of x c e with ⟨h1, _⟩ | ⟨_, h1⟩
    · exact absurd (Nat.lt_of_lt_of_le (fo c hb) (Nat.le_of_succ_le h1)) (Nat.lt_irrefl _)
    · exact (f c hb).2.2.2.2.1 x c h1 rfl
  · -- noex
    intro b o e hb
    rcases (f b hb).2.2.2.1 with z | z
    · exact I.ok.noex b o e z
    · exact absurd (Nat.lt_of_lt_of_le (Nat.lt_of_lt_of_le (Heap.lt_size e) I.ok.bsz) z) (Nat.lt_irrefl _)
  · -- exfs
    intro b hb hs
    rcases List.mem_cons.mp (I.stkSub b hs) with z | z
    · exact (f b hb).2.1 z
    · exact (f b hb).2.2.1 z
  · -- the frame
    exact (Heap.Ns.new s.heap (.type "dict")).keeps (pushCells_keeps _ _)
  · -- the names taken from around
    intro i x v e1 e2 _
    have e2' : (mp.map fun o => o.bind fun j => (σ[j]?).join)[i]? = some (some v) := e2
    rw [List.getElem?_map] at e2'
    cases em : mp[i]? with
    | none => rw [em] at e2'; cases e2'
    | some o =>
      rw [em] at e2'
      cases o with
      | none => cases e2'
      | some j =>
        have e3 : (σ[j]?).join = some v := Option.some.inj e2'
        have e4 : σ[j]? = some (some v) := by
          cases q : σ[j]? with
          | none => rw [q] at e3; cases e3
          | some z => rw [q] at e3; exact congrArg some e3
        obtain ⟨y, h1, h2, h3⟩ := S.at em
        have h1' : some x = some y := e1.symm.trans h1
        cases h1'
        have hm := mem_of_lookup h3
        have vis : Vis X.env.scope x := (S.free _ hm rfl).elim (fun z => .inr (.inl z)) fun z => .inr (.inr z)
        obtain ⟨m, hn, hl⟩ := I.loc
        obtain ⟨u, r, l⟩ := hl j x v h2 e4 vis
        refine ⟨u, r, .inr ?_⟩
        have nc : (x, NameKind.cell) ∉ scope.names := fun z => by
          have q2 := nodup_lookup S.nd z
          rw [h3] at q2; cases q2
        obtain ⟨c, hc1, hc2⟩ := closList_look hm hfree
        have hc3 : (cellsFrom (s.heap.objs.size + 1) scope.names (closList X.env scope.names [])).lookup x = some c := by rw [cf_not _ _ _ x nc]; exact hc1
        have hcell : s.heap.IsCell c (some u) := by
          rcases l with ⟨hk', _⟩ | ⟨_, c', e5, e6⟩
          · exfalso
            have hk' : X.env.scope.names.lookup x = some .local := hk'
            rcases S.free _ hm rfl with z | z
            · have z : X.env.scope.names.lookup x = some .cell := z
              rw [hk'] at z; cases z
            · have z : X.env.scope.names.lookup x = some .free := z
              rw [hk'] at z; cases z
          · rw [hc2] at e5; cases e5; exact e6
        refine ⟨?_, c, hc3, hcell.keeps hk⟩
        rename_i hv
        have hv : Vis (relabel scope X.env) x := hv
        rcases hv with z | z | z
        · exfalso
          rcases relabel_lookup (show (relabel scope X.env).names.lookup x = some .local from z) with q | ⟨_, q, _⟩
          · rw [h3] at q; cases q
          · cases q
        · exact .inl z
        · exact .inr z
  · -- freeC
    intro x c e
    rcases cell_of x c e with ⟨h1, _⟩ | ⟨_, h1⟩
    · exact I.hok.fresh (Nat.le_of_succ_le h1)
    · exact I.freeC x c h1
  · -- pins
    intro p hp
    have hp' : p ∈ X.pn ++ pins := by simpa [cxBlk] using hp
    obtain ⟨e, n, ne, nf, d⟩ := I.pin p hp'
    refine ⟨hk _ _ e, n, Nat.ne_of_lt (Heap.lt_size e), fun z => ?_, d⟩
    rcases List.mem_cons.mp (I.stkSub _ z) with q | q
    · exact ne q
    · exact nf q
  · show (mp.map _).length = N.length
    rw [List.length_map]
    exact S.len
end

/-! ### the rule -/
noncomputable def PIfs (X : Cx) (ifs : List Expr) (t : TT) : Prop :=
  ∀ (pins : List (Addr × Obj)) (s : Shared) (σ : St) (H : Hp) (Q : Bool → Hp → Prop), Inv X pins σ H s → t σ H Q →
    wpAny (model X.prog X.w) X.A (forIn ifs true fun c r => if r = true then do let ok ← isTrue c X.env (eval c X.env); pure (ForInStep.yield ok) else pure (ForInStep.yield r)) (TP X pins σ Q) X.xe s
noncomputable def tYes : TT := fun _ H Q => Q true H
theorem pifs_nil {X : Cx} : PIfs X [] tYes := fun _ _ _ H _ I h => wpAny_tests_nil ⟨H, I, h⟩
theorem pifs_one {X : Cx} {c : Expr} {t : TT} (h : PT X c t) : PIfs X [c] t := fun pins s σ H Q I q => wpAny_tests_one (h pins s σ H Q I q)

noncomputable def tCompK (mp : List (Option Nat)) (g : TG) (tt : TT) (te : TE) (J : It) (σ : St) (H : Hp) (Q : VK) : Prop :=
  ∀ l, H l = none → ∃ W : Nat → Nat → List V → St → Hp → Prop, (∃ m, W 0 m [] (liftSt mp σ) (upd H l (.lst []))) ∧ ∀ i m acc σ' H', W i m acc σ' H' →
    (J.stop i H' ∧ Q (.ref l) H') ∨ (J.go i H' ∧ acc.length < sizeLine ∧ ∃ Nx : List V → St → Hp → Prop, (∀ acc' σ2 H2, Nx acc' σ2 H2 → ∃ m', m' < m ∧ W (i + 1) m' acc' σ2 H2) ∧
      ∀ x H2, J.yld i H' x H2 → g x σ' H2 fun σ2 H3 => tt σ2 H3 fun b H4 => if b = true then te σ2 H4 fun v H5 => H5 l = some (.lst acc) ∧ Nx (acc ++ [v]) σ2 (upd H5 l (.lst (acc ++ [v]))) else Nx acc σ2 H4)
noncomputable def tComp (mp : List (Option Nat)) (wi : TI) (g : TG) (tt : TT) (te : TE) : TE := fun σ H Q => wi σ H fun J H1 => tCompK mp g tt te J σ H1 Q

section
variable {X : Cx} {elt iter tg : Expr} {ifs : List Expr} {scope : Scope} {pos : Pos} {N : List Str} {mp : List (Option Nat)} {wi : TI} {g : TG} {tt : TT} {te : TE}

theorem comp_block {pins : List (Addr × Obj)} {σ : St} {H2 : Hp} {s2 : Shared} {it : Addr} {fp : List Addr} {tn : Nat → Heap → Prop} {J : It} {Q : VK} {RR : Value → Addr → Result → Shared → Prop} {E : Value → Shared → Prop}
    (hc : X.calm = true) (S : BlkOk X.N X.env.scope N scope mp) (I2 : Inv X pins σ H2 s2) (T : Turn X.prog X.w X.K tg J fp it tn) (st2 : tn 0 s2.heap) (f2 : ∀ b ∈ fp, FpOk X pins H2 b)
    (hg : ∀ C cl s H fp pins, PG (cxBlk X N scope C cl s H fp pins) tg g) (ht : ∀ C cl s H fp pins, PIfs (cxBlk X N scope C cl s H fp pins) ifs tt) (he : ∀ C cl s H fp pins, PE (cxBlk X N scope C cl s H fp pins) elt te)
    (k : tCompK mp g tt te J σ H2 Q)
    (fin : ∀ (l C : Addr) (m : Str → Option Value) (s' : Shared) (H' : Hp), Inv X pins σ H' s' → s'.heap.Ns C m → H' C = none → C ≠ X.env.locals → X.s₀.heap.objs.size ≤ C → (∀ x c, X.env.cells.lookup x = some c → c ≠ C) → (∀ p ∈ X.pn ++ pins, p.1 ≠ C) →
      Q (.ref l) H' → RR (.ref l) C (.ok .next) s') :
    wpAny (model X.prog X.w) X.A (newList []) (fun acc s₃ => wpAny (model X.prog X.w) X.A (newFunctionEnv scope X.env.globals (closList X.env scope.names []) [] X.env.qual none .none (some X.env)) (fun cenv s₄ =>
      codeAny (model X.prog X.w) X.A (.compStart (.ListComp elt [⟨tg, iter, ifs, 0⟩] scope pos) 0 (.ref it) acc { cenv with scope := relabel scope X.env }) (RR acc cenv.locals) s₄) E s₃) E s2 := by
  refine wpAny_newList ?_ (Nat.zero_le _)
  have I3 : Inv X pins σ (upd H2 s2.heap.objs.size (.lst [])) { s2 with heap := s2.heap.push { cls := .type "list", data := .seq ([] : List Value).toArray } } := I2.lnew (t' := s2.toks) (its := []) .nil (Nat.zero_le _)
  have fl : H2 s2.heap.objs.size = none := I2.fresh
  have nfl : s2.heap.objs.size ∉ fp := fun z => by
    obtain ⟨o, e, _⟩ := T.obj 0 _ st2 _ z
    exact absurd (Heap.lt_size e) (Nat.lt_irrefl _)
  have fo2 : ∀ b ∈ fp, b < s2.heap.objs.size := fun b hb => by
    obtain ⟨o, e, _⟩ := T.obj 0 _ st2 b hb
    exact Heap.lt_size e
  have f3 : ∀ b ∈ fp, FpOk X pins (upd H2 s2.heap.objs.size (.lst [])) b := fun b hb => by
    obtain ⟨h0, hr⟩ := f2 b hb
    exact ⟨by rw [upd_ne (Nat.ne_of_lt (fo2 b hb))]; exact h0, hr⟩
  have k3 := k s2.heap.objs.size fl
  clear k
  have st3 : tn 0 (s2.heap.push { cls := .type "list", data := .seq ([] : List Value).toArray }) := T.keep 0 _ _ st2 fun b _ o e => Heap.get?_push_of_some _ e
  have fo3 : ∀ b ∈ fp, b < (s2.heap.push { cls := .type "list", data := .seq ([] : List Value).toArray }).objs.size := fun b hb => by rw [Heap.size_push]; exact Nat.lt_succ_of_lt (fo2 b hb)
  generalize hs3 : ({ s2 with heap := s2.heap.push { cls := .type "list", data := .seq ([] : List Value).toArray } } : Shared) = s3 at I3 ⊢
  have st3 : tn 0 s3.heap := by rw [← hs3]; exact st3
  have fo3 : ∀ b ∈ fp, b < s3.heap.objs.size := by rw [← hs3]; exact fo3
  generalize s2.heap.objs.size = l at *
  generalize upd H2 l (.lst []) = H3 at *
  refine newBlk ?_
  have I4 := blk_start S I3 f3 fo3
  obtain ⟨W, ⟨m0, w0⟩, turn⟩ := k3
  have st4 : tn 0 (pushCells (s3.heap.push { cls := .type "dict", data := .dict #[] }) scope.names) := T.keep 0 _ _ st3 fun b _ o e => pushCells_keeps _ _ b o (Heap.get?_push_of_some _ e)
  generalize hs4 : ({ s3 with heap := pushCells (s3.heap.push { cls := .type "dict", data := .dict #[] }) scope.names } : Shared) = s4 at I4 ⊢
  have st4 : tn 0 s4.heap := by rw [← hs4]; exact st4
  -- the block's context, and what stays true of the iterator's objects in it
  have stat : ∀ {H' : Hp}, (∀ b ∈ fp, H' b = none) → ∀ b ∈ fp, FpOk (cxBlk X N scope s3.heap.objs.size (closList X.env scope.names []) s3 H3 fp pins) [] H' b := fun {H'} hn b hb => by
    refine ⟨hn b hb, (I4.ok.exf b hb).1, I4.ok.exfs b hb, .inl hb, (I4.ok.exf b hb).2, fun p hp => ?_⟩
    exact (f3 b hb).2.2.2.2.2 p (by simpa [cxBlk] using hp)
  have back : ∀ {σ' : St} {H' : Hp} {s' : Shared} {ps : List (Addr × Obj)}, Inv (cxBlk X N scope s3.heap.objs.size (closList X.env scope.names []) s3 H3 fp pins) ps σ' H' s' → Inv X pins σ H' s' := fun {σ' H' s' ps} I' =>
    I3.call' (ch := fp) I'.os I'.base I'.hok I'.bare fun b hb => ⟨(f3 b hb).2.2.2.1, (f3 b hb).2.1, (f3 b hb).2.2.2.2.1, (f3 b hb).2.2.2.2.2⟩
  have loop : codeAny (model X.prog X.w) X.A (.compLoop (.ListComp elt [⟨tg, iter, ifs, 0⟩] scope pos) 0 (.ref it) (.ref l) (compEnvC scope (cellsFrom (s3.heap.objs.size + 1) scope.names (closList X.env scope.names [])) s3.heap.objs.size X.env)) (RR (.ref l) s3.heap.objs.size) s4 := by
    refine compLoop_own (fun n s' => ∃ i acc σ' H', Inv (cxBlk X N scope s3.heap.objs.size (closList X.env scope.names []) s3 H3 fp pins) [] σ' H' s' ∧ tn i s'.heap ∧ (∀ b ∈ fp, H' b = none) ∧ W i n acc σ' H') ?_ m0
      ⟨0, [], liftSt mp σ, H3, I4, st4, fun b hb => (f3 b hb).1, w0⟩
    rintro n s5 ⟨i, acc, σ5, H5, I5, st5, fr5, w5⟩
    rcases turn i n acc σ5 H5 w5 with ⟨stop, q⟩ | ⟨go, hz, Nx, hN, step⟩
    · refine thn (T.done (cxBlk X N scope s3.heap.objs.size (closList X.env scope.names []) s3 H3 fp pins) rfl rfl rfl hc i [] s5 σ5 H5 _ I5 (stat fr5) st5 stop) fun r s6 ⟨hr, I6⟩ => ?_
      subst hr
      obtain ⟨m, hn, _⟩ := I6.loc
      refine fin l _ m s6 H5 (back I6) hn I6.free ?_ I3.sz (fun x c e z => ?_) (fun p hp z => ?_) q
      · exact Nat.ne_of_gt I3.lt
      · obtain ⟨v, y⟩ := I3.cell x c e
        exact absurd y.lt (by rw [z]; exact Nat.lt_irrefl _)
      · exact absurd (Heap.lt_size (I3.pin p hp).1) (by rw [z]; exact Nat.lt_irrefl _)
    · refine thn (T.item (cxBlk X N scope s3.heap.objs.size (closList X.env scope.names []) s3 H3 fp pins) rfl rfl rfl hc i [] s5 σ5 H5 _ I5 (stat fr5) st5 go) fun r s6 ⟨u, hr, h6⟩ => ?_
      subst hr
      refine thn h6 fun _ s7 ⟨x, H7, I7, r7, y7, st7, fr7⟩ => ?_
      have I7' := I7.pinned (stat fr7) (T.obj _ _ st7)
      have again : ∀ {s8 : Shared} {acc' : List V} {σ8 : St} {H8 : Hp}, Inv (cxBlk X N scope s3.heap.objs.size (closList X.env scope.names []) s3 H3 fp pins) ([] ++ pinsAt fp s7.heap) σ8 H8 s8 → Nx acc' σ8 H8 →
          ∃ m, m < n ∧ ∃ i acc σ' H', Inv (cxBlk X N scope s3.heap.objs.size (closList X.env scope.names []) s3 H3 fp pins) [] σ' H' s8 ∧ tn i s8.heap ∧ (∀ b ∈ fp, H' b = none) ∧ W i m acc σ' H' := fun {s8 acc' σ8 H8} I8 n8 => by
        obtain ⟨m', hm, w8⟩ := hN acc' σ8 H8 n8
        refine ⟨m', hm, i + 1, acc', σ8, H8, I8.unpinned, T.keep _ _ _ st7 fun b hb o e => (I8.pin (b, o) (List.mem_append_right _ (List.mem_append_right _ (mem_pinsAt hb e)))).1, fun b hb => ?_, w8⟩
        obtain ⟨o, e, d⟩ := T.obj _ _ st7 b hb
        exact (I8.pin (b, o) (List.mem_append_right _ (List.mem_append_right _ (mem_pinsAt hb e)))).2.1
      refine thn (hg _ _ _ _ _ _ _ s7 σ5 H7 x u _ I7' r7 (step x H7 y7)) fun _ s8 ⟨σ8, H8, I8, q8⟩ => ?_
      refine thn (ht _ _ _ _ _ _ _ s8 σ8 H8 _ I8 q8) fun b s9 ⟨H9, I9, q9⟩ => ?_
      cases b with
      | false =>
        rw [if_neg Bool.false_ne_true] at q9 ⊢
        exact again I9 q9
      | true =>
        rw [if_pos rfl] at q9 ⊢
        refine thn (he _ _ _ _ _ _ _ s9 σ8 H9 _ I9 q9) fun v s10 ⟨y, H10, I10, r10, q10, n10⟩ => ?_
        refine thn (mt_append _ s10 σ8 H10 (.ref l) [y] (.ref l) [v] (fun _ H' => Nx (acc ++ [y]) σ8 H') I10 rfl (.cons r10 .nil) ⟨l, acc, y, rfl, rfl, q10, hz, n10⟩) fun _ s11 ⟨_, H11, I11, _, q11⟩ => ?_
        exact again I11 q11
  exact codeAny_compStart_list loop (T.self _ 0 _ _ _ st4 loop)

/-- [elt for tg in iter if ..] -/
theorem pe_comp (hc : X.calm = true) (S : BlkOk X.N X.env.scope N scope mp) (hi : PI X tg iter wi)
    (hg : ∀ C cl s H fp pins, PG (cxBlk X N scope C cl s H fp pins) tg g) (ht : ∀ C cl s H fp pins, PIfs (cxBlk X N scope C cl s H fp pins) ifs tt) (he : ∀ C cl s H fp pins, PE (cxBlk X N scope C cl s H fp pins) elt te)
    (hs : ∀ x, foldedSetIterable iter X.env x = pure x := by intro _; rfl) : PE X (.ListComp elt [⟨tg, iter, ifs, 0⟩] scope pos) (tComp mp wi g tt te) := by
  intro pins s σ H Q I h
  rw [eval_ListComp]
  have hfree : ∀ y ∈ scope.names, y.2 = .free → ∃ c, X.env.cells.lookup y.1 = some c := fun y hy hf => I.ok.has y.1 (S.free y hy hf)
  refine wpAny_comprehension_free (use := none) rfl hs (closureFor_list hfree) S.kind (fun x hx e => nodup_lookup S.nd (by rw [← e]; exact hx)) ?_
  show wpAny _ _ (eval iter X.env) _ _ _
  refine thn (hi pins s σ H _ I h) fun v s1 h1 => thn h1 fun itv s2 h2 => ?_
  obtain ⟨it, fp, tn, J, H2, e, I2, T, st2, f2, k⟩ := h2
  subst e
  refine comp_block (RR := fun acc C => compPost (model X.prog X.w) X.A X.xe none (EP X pins σ Q) acc C) hc S I2 T st2 f2 hg ht he k ?_
  intro l C m s' H' I' hn hC h1 h2 h3 h4 q
  exact ⟨m, hn, fun h' hb => ⟨.ref l, H', I'.turned (t' := s'.toks) (it := C) (fun b o hbC e => hb.extBut b o hbC e) hC (Ne.symm (Ne.symm h1)) (.inr h2) h3 h4, rfl, q⟩⟩

/-- x = [elt for tg in iter if ..], x a local: the block's names go behind the store -/
theorem ps_setC {i : Nat} {x : Str} {pos' spos : Pos} (hN : X.N.Nodup) (hxi : X.N[i]? = some x) (hx : Loc X.env.scope x) (hc : X.calm = true) (S : BlkOk X.N X.env.scope N scope mp) (hi : PI X tg iter wi)
    (hg : ∀ C cl s H fp pins, PG (cxBlk X N scope C cl s H fp pins) tg g) (ht : ∀ C cl s H fp pins, PIfs (cxBlk X N scope C cl s H fp pins) ifs tt) (he : ∀ C cl s H fp pins, PE (cxBlk X N scope C cl s H fp pins) elt te)
    (hsw : swapsWith (.ListComp elt [⟨tg, iter, ifs, 0⟩] scope pos) (some (.Name x pos')) spos.line X.env = pure true)
    (hf : X.fn x = true ∨ X.env.scope.names.lookup x = some .local := by first | exact .inl rfl | exact .inr rfl | assumption)
    (hs : ∀ x, foldedSetIterable iter X.env x = pure x := by intro _; rfl) : PS X (.Assign [.Name x pos'] (.ListComp elt [⟨tg, iter, ifs, 0⟩] scope pos) spos) (tAsg (tComp mp wi g tt te) (gName i)) := by
  intro pins s σ H D I h
  have hfree : ∀ y ∈ scope.names, y.2 = .free → ∃ c, X.env.cells.lookup y.1 = some c := fun y hy hf => I.ok.has y.1 (S.free y hy hf)
  rw [exec_Assign_Name_used _ _ _ _ hsw]
  refine wpAny_bind (wpAny_standAt (wpAny_bind ?_))
  show wpAny _ _ (do let _ ← comprehension (.ListComp elt [⟨tg, iter, ifs, 0⟩] scope pos) scope X.env _ (newList []) false (eval iter X.env) (some (assign (.Name x pos') X.env))) _ _ s
  refine wpAny_bind (wpAny_mono (wpAny_comprehension_free (use := some (assign (.Name x pos') X.env)) (Q := fun _ s' => SP X pins D .next s') rfl hs (closureFor_list hfree) S.kind (fun x hx e => nodup_lookup S.nd (by rw [← e]; exact hx)) ?_) (fun _ s' hq => wpAny_pure (wpAny_pure hq)) fun _ _ e => e)
  refine thn (hi pins s σ H _ I h) fun v s1 h1 => thn h1 fun itv s2 h2 => ?_
  obtain ⟨it, fp, tn, J, H2, e, I2, T, st2, f2, k⟩ := h2
  subst e
  refine comp_block (Q := fun y H1 => gName i y σ H1 D.nx) (RR := fun acc C => compPost (model X.prog X.w) X.A X.xe (some (assign (.Name x pos') X.env)) (fun _ s' => SP X pins D .next s') acc C) hc S I2 T st2 f2 hg ht he k ?_
  intro l C m s' H' I' hn hC h1 h2 h3 h4 q
  show wpAny _ _ (assign (.Name x pos') X.env (.ref l)) _ _ _
  refine wpAny_assign_Name (store_ok2 I' hN hxi hx (v := .ref l) rfl (fun s'' I'' ⟨a, hsb, ha⟩ => ?_) hf)
  have hCa : C ≠ a := by
    rcases ha with z | z
    · rw [z]; exact h1
    · exact fun y => h3 x a z y.symm
  exact ⟨m, hn.sameBut hsb hCa, fun h' hb => ⟨_, H', I''.turned (t' := s''.toks) (it := C) (fun b o hbC e => hb.extBut b o hbC e) hC (Ne.symm (Ne.symm h1)) (.inr h2) h3 h4, q⟩⟩
end

/-! ### the forms one uses -/
section
variable {mp : List (Option Nat)} {g : TG} {tt : TT} {te : TE} {σ : St} {H : Hp} {Q : VK}
theorem comp_range {lo : Int} {n : Nat} (Pv : Addr → Nat → List V → St → Hp → Prop) (h0 : ∀ l, H l = none → Pv l 0 [] (liftSt mp σ) (upd H l (.lst [])))
    (hl : ∀ l i acc σ' H', H l = none → Pv l i acc σ' H' → acc.length ≤ i)
    (hs : ∀ l i acc σ' H', H l = none → i < n → Pv l i acc σ' H' → g (.int (lo + i)) σ' H' fun σ2 H3 => tt σ2 H3 fun b H4 => if b = true then te σ2 H4 fun v H5 => H5 l = some (.lst acc) ∧ Pv l (i + 1) (acc ++ [v]) σ2 (upd H5 l (.lst (acc ++ [v]))) else Pv l (i + 1) acc σ2 H4)
    (hd : ∀ l acc σ' H', H l = none → Pv l n acc σ' H' → Q (.ref l) H') (hz : n ≤ sizeLine) : tCompK mp g tt te (Itr lo n) σ H Q := by
  intro l hn
  refine ⟨fun i m acc σ H => m = n - i ∧ i ≤ n ∧ Pv l i acc σ H, ⟨n, by simp, Nat.zero_le _, h0 l hn⟩, ?_⟩
  rintro i m acc σ' H' ⟨rfl, hi, p⟩
  have ha := hl l i acc σ' H' hn p
  by_cases hlt : i < n
  · refine .inr ⟨hlt, by omega, Pv l (i + 1), fun acc' σ2 H2 p' => ⟨n - (i + 1), by omega, rfl, hlt, p'⟩, fun x H2 y => ?_⟩
    obtain ⟨e, y⟩ := y
    subst e y
    exact hs l i acc σ' _ hn hlt p
  · have e : i = n := by omega
    subst e
    exact .inl ⟨Nat.le_refl _, hd l acc σ' H' hn p⟩
end
end L2
/-! ### built-in functions and comparisons over lists -/
namespace L2
open PySem PySem.Spec PyProof.Rows
section
variable {X : Cx}
theorem call_isinst : CallR X (.builtin "isinstance") (fun xs H Q => ∃ x n t b, xs = [x, V.ty n] ∧ TyOf X.K H x t ∧ PySem.W.kitOne X.K t (.type n) = some b ∧ Q (.bl b) H) := by
  intro pins s σ H xs us Q I r h
  obtain ⟨x, n, t, b, rfl, ty, e, q⟩ := h
  obtain ⟨u, w', rfl, rx, ry⟩ := vals2 r
  have ry : w' = Value.type n := ry
  subst ry
  exact isinst_ok I rx ty e fun tk => ⟨.bl b, H, I.tok tk, rfl, q⟩
theorem call_sum (hc : X.calm = true) : CallR X (.builtin "sum") (fun xs H Q => ∃ (p : Addr) (ns : List Int), xs = [.ref p] ∧ SqL X.K H p (ns.map V.int) ∧ Q (.int ns.sum) H) := by
  intro pins s σ H xs us Q I r h
  obtain ⟨p, ns, rfl, hS, q⟩ := h
  obtain ⟨u, rfl, ru⟩ := vals1 r
  cases ru
  obtain ⟨its, rv, pl, hz⟩ := I.list hS
  have hi : IntsAre its ns := intsAre_of rv
  have hall : AllInts its.toArray := hi.allInts
  obtain ⟨zs, ez⟩ := hall.items
  have hl : s.heap.IsList p (intItems zs) := by rw [← ez]; exact pl.isList
  refine sum_intListG (I.ok.hd hc) hl fun h' tk t' k => ⟨.int ns.sum, H, I.kept k, ⟨t', ?_⟩, q⟩
  have e1 : ns = numsOf (intItems zs).toList := by rw [← ez]; exact hi.numsOf.symm
  rw [e1, nums_intItems, preSum_eq, List.take_of_length_le (by simp)]
theorem call_all (hc : X.calm = true) : CallR X (.builtin "all") (fun xs H Q => ∃ (p : Addr) (bs : List Bool), xs = [.ref p] ∧ SqL X.K H p (bs.map V.bl) ∧ Q (.bl (bs.all id)) H) := by
  intro pins s σ H xs us Q I r h
  obtain ⟨p, bs, rfl, hS, q⟩ := h
  obtain ⟨u, rfl, ru⟩ := vals1 r
  cases ru
  obtain ⟨its, rv, pl, hz⟩ := I.list hS
  have hlt : p < s.heap.objs.size := by obtain ⟨_, e, _⟩ := pl.isList; exact Heap.lt_size e
  have hlen : its.length = bs.length := by rw [← rv.length, List.length_map]
  refine call_all_walk (wpAny_pyIter_list pl.isList ?_)
  refine ⟨s.heap.objs.size, _, _, _, _, _, fun i => (bs[i]?).getD true, rfl, Walks.list (A := X.A.in1) (I.ok.hd hc) _ p (Nat.ne_of_lt hlt) its.toArray, ⟨⟨_, Heap.get?_push_size _ rfl, rfl, rfl⟩, pl.isList.push _⟩, ?_, fun h' tk hk => ?_⟩
  · intro i v s' Q' E' hv hq
    have hv' : its[i]? = some v := by simpa using hv
    have hi : i < bs.length := by rw [← hlen]; exact (List.getElem?_eq_some_iff.mp hv').1
    have e1 : (bs.map V.bl)[i]? = some (V.bl bs[i]) := by simp [hi]
    obtain ⟨w', h1, h2⟩ := rv.get e1
    rw [hv'] at h1
    cases h1
    have h2 : v = Value.bool bs[i] := h2
    subst h2
    have e2 : (bs[i]?).getD true = bs[i] := by simp [hi]
    have hq : Q' ((bs[i]?).getD true) s' := hq
    rw [e2] at hq
    exact wpAny_truthy_bool hq
  · have e3 : ((List.range its.toArray.size).all fun i => (bs[i]?).getD true) = bs.all id := by
      rw [List.size_toArray, hlen]
      apply Bool.eq_iff_iff.mpr
      rw [List.all_eq_true, List.all_eq_true]
      constructor
      · intro hh b hb
        obtain ⟨i, hi, e⟩ := List.getElem_of_mem hb
        have := hh i (List.mem_range.mpr hi)
        simp [hi] at this
        rw [← e]
        simpa using this
      · intro hh i hi
        have hi' := List.mem_range.mp hi
        have := hh bs[i] (List.getElem_mem hi')
        simpa [hi'] using this
    rw [e3]
    exact ⟨.bl (bs.all id), H, I.kept fun b o e => hk b o (by simp; exact Nat.ne_of_lt (Heap.lt_size e)) (Heap.get?_push_of_some _ e), rfl, q⟩
noncomputable def rEqI (K : PySem.W.Frag) (neg : Bool) : R2 := fun x y H Q => ∃ (a b : Addr) (ns ms : List Int), x = .ref a ∧ y = .ref b ∧ SqL K H a (ns.map V.int) ∧ SqL K H b (ms.map V.int) ∧ Q (.bl (decide (ns = ms) != neg)) H
theorem op_eq_ints (hu : X.A.units + 64 < cLine) : OpR X (compareOp .Eq) (rEqI X.K false) := by
  intro pins s σ H x y v u Q I rx ry h
  obtain ⟨a, b, ns, ms, rfl, rfl, h1, h2, q⟩ := h
  cases rx
  cases ry
  obtain ⟨its, rv, pl, hz⟩ := I.list h1
  obtain ⟨its2, rv2, pl2, hz2⟩ := I.list h2
  refine PySem.W.ke_eq_ints pl.isList pl2.isList (intsAre_of rv) (intsAre_of rv2) hu ⟨.bl (decide (ns = ms)), H, I, rfl, ?_⟩
  rw [Bool.bne_false] at q
  exact q
theorem op_ne_ints (hu : X.A.units + 64 < cLine) : OpR X (compareOp .NotEq) (rEqI X.K true) := by
  intro pins s σ H x y v u Q I rx ry h
  obtain ⟨a, b, ns, ms, rfl, rfl, h1, h2, q⟩ := h
  cases rx
  cases ry
  obtain ⟨its, rv, pl, hz⟩ := I.list h1
  obtain ⟨its2, rv2, pl2, hz2⟩ := I.list h2
  refine PySem.W.ke_ne_ints pl.isList pl2.isList (intsAre_of rv) (intsAre_of rv2) hu ⟨.bl (!decide (ns = ms)), H, I, rfl, ?_⟩
  rw [Bool.bne_true] at q
  exact q
noncomputable def CPowB (i j : Int) : Prop := 0 ≤ j ∧ (Builtin.Int.intBits i : Int) * j ≤ 2 ^ 27
end
end L2
/-! ### the operations by short names -/
namespace L2
open PySem PySem.Spec PyProof.Rows
noncomputable def oAdd : R2 := rI0 fun i j => .int (i + j)
/-- far beyond all numbers here -/
noncomputable def HUGE : Int := 10 ^ 1000
theorem huge_log {i : Int} (h1 : -HUGE < i) (h2 : i < HUGE) : i.natAbs.log2 < 4000 := by
  have e : HUGE ≤ 2 ^ 4000 := by decide +kernel
  rcases Nat.eq_zero_or_pos i.natAbs with h0 | hp
  · rw [h0]; decide +kernel
  · refine (Nat.log2_lt (Nat.ne_of_gt hp)).mpr ?_
    have : (i.natAbs : Int) < 2 ^ 4000 := by omega
    exact_mod_cast this
theorem huge_bits {i : Int} (h1 : -HUGE < i) (h2 : i < HUGE) : Builtin.Int.intBits i ≤ 2 ^ 20 := by
  have h := huge_log h1 h2
  have e : (4001 : Nat) ≤ 2 ^ 20 := by decide
  unfold Builtin.Int.intBits
  split
  · exact Nat.zero_le _
  · omega
noncomputable def CMulA (i j : Int) : Prop := CMul i j ∨ ((-HUGE < i ∧ i < HUGE) ∧ -HUGE < j ∧ j < HUGE)
theorem CMulA.ok {i j : Int} (h : CMulA i j) : IntMulOk i j := h.elim CMul.ok fun h => .of_bits (huge_bits h.1.1 h.1.2) (huge_bits h.2.1 h.2.2)
noncomputable def CDivA (_ j : Int) : Prop := 0 < j ∧ j < HUGE
theorem huge_big : (1073741824 : Int) < HUGE := by decide +kernel
noncomputable def oMul : R2 := rI CMulA fun i j => .int (i * j)
noncomputable def oDiv : R2 := rI CDivA fun i j => .int (i / j)
noncomputable def oMod : R2 := rI (fun _ j => 0 < j) fun i j => .int (i % j)
noncomputable def CPowA (i j : Int) : Prop := CPow i j ∨ CPowB i j
noncomputable def oPow : R2 := rI CPowA fun i j => .int (i ^ j.toNat)
noncomputable def oLt : R2 := rI0 fun i j => .bl (decide (i < j))
noncomputable def oGt : R2 := rI0 fun i j => .bl (decide (j < i))
noncomputable def oGe : R2 := rI0 fun i j => .bl (decide (j ≤ i))
noncomputable def oIsN : R2 := fun x y H Q => y = .non ∧ Q (.bl (decide (x = .non))) H
noncomputable def oNotN : R2 := fun x y H Q => y = .non ∧ Q (.bl (!decide (x = .non))) H
noncomputable def rLenL (K : PySem.W.Frag) : List V → Hp → VK → Prop := fun xs H Q => ∃ p ys, xs = [.ref p] ∧ (SqL K H p ys ∨ SqT K H p ys) ∧ Q (.int ys.length) H
noncomputable def rIsi (K : PySem.W.Frag) : List V → Hp → VK → Prop := fun xs H Q => ∃ x n t b, xs = [x, V.ty n] ∧ TyOf K H x t ∧ PySem.W.kitOne K t (.type n) = some b ∧ Q (.bl b) H
noncomputable def rSum (K : PySem.W.Frag) : List V → Hp → VK → Prop := fun xs H Q => ∃ (p : Addr) (ns : List Int), xs = [.ref p] ∧ SqL K H p (ns.map V.int) ∧ Q (.int ns.sum) H
noncomputable def rAll (K : PySem.W.Frag) : List V → Hp → VK → Prop := fun xs H Q => ∃ (p : Addr) (bs : List Bool), xs = [.ref p] ∧ SqL K H p (bs.map V.bl) ∧ Q (.bl (bs.all id)) H
noncomputable def rMin : List V → Hp → VK → Prop := fun xs H Q => ∃ i j, xs = [.int i, .int j] ∧ Q (.int (if j < i then j else i)) H
noncomputable def rListOf (K : PySem.W.Frag) : List V → Hp → VK → Prop := fun xs H Q => ∃ p ys, xs = [.ref p] ∧ (SqL K H p ys ∨ SqT K H p ys) ∧ ∀ l, H l = none → Q (.ref l) (upd H l (.lst ys))
section
variable {X : Cx}
theorem op_addI : OpR X (binaryOp .Add) oAdd := op_add
theorem op_mulI : OpR X (binaryOp .Mult) oMul := opI fun _ _ _ _ _ _ _ hc q => mul_int q hc.ok
theorem op_divI : OpR X (binaryOp .FloorDiv) oDiv := opI fun i j _ _ _ _ _ hc q => by
  have h1 : (0 : Int) < j := hc.1
  have h2 : j < HUGE := hc.2
  have h3 : -HUGE < j := by have := huge_big; omega
  exact floordiv_int (by omega) (by rw [Int.fdiv_eq_ediv_of_nonneg i (by omega)]; exact q) (.inl (PyProof.noPylong_of_log2 (Nat.lt_trans (huge_log h3 h2) (by decide))))
theorem op_modI : OpR X (binaryOp .Mod) oMod := op_mod
theorem op_powI : OpR X (binaryOp .Pow) oPow := opI fun _ _ _ _ _ _ _ hc q => hc.elim (fun h => pow_int_small h.1 h.2.1 h.2.2 q) fun h => pow_int h.1 h.2 q
theorem op_ltI : OpR X (compareOp .Lt) oLt := op_lt
theorem op_gtI : OpR X (compareOp .Gt) oGt := op_gt
theorem op_geI : OpR X (compareOp .GtE) oGe := op_ge
end
/-! ### readings -/
theorem Same.upd {H H' : Hp} (e : Same H H') {l : Addr} {o : HO} (h : H l = none) : Same H (upd H' l o) := fun b u q => by
  rw [upd_ne (ne_of_none q h)]
  exact e b u q
theorem Same.updN {H : Hp} {l : Addr} {o : HO} (h : H l = none) : Same H (L2.upd H l o) := fun b u q => by
  rw [upd_ne (ne_of_none q h)]
  exact q
theorem Same.seqT {K : PySem.W.Frag} {H H' : Hp} {a : Addr} {xs : List V} (e : Same H H') (h : SqT K H a xs) : SqT K H' a xs := by
  rcases h with (h | ⟨o, h⟩) | h
  · exact .inl (.inl (e _ _ h))
  · exact .inl (.inr ⟨o, e _ _ h⟩)
  · exact .inr h
end L2
/-! ### comprehensions whose elements leave all that is tracked as it is -/
namespace L2
open PySem PySem.Spec PyProof.Rows
section
variable {mp : List (Option Nat)} {te : TE} {tt : TT} {σ : St} {H : Hp} {Q : VK}
theorem take_snoc {α : Type} {xs : List α} {i : Nat} {x : α} (h : xs[i]? = some x) : xs.take (i + 1) = xs.take i ++ [x] := by
  rw [List.take_add_one, h]
  rfl
/-- [te for k in range(..)] -/
theorem comp_mapN {lo : Int} {n : Nat} (R : Nat → V → Prop) (caps : St) (hlift : liftSt mp σ = none :: caps) (hz : n ≤ sizeLine)
    (hel : ∀ i, i < n → ∀ (H' : Hp) (G : VK), Same H H' → (∀ v H'', R i v → Same H' H'' → G v H'') → te (some (.int (lo + i)) :: caps) H' G)
    (hd : ∀ l ys H', H l = none → Same H H' → H' l = some (.lst ys) → Paired R (List.range n) ys → Q (.ref l) H') : tCompK mp (gName 0) tYes te (Itr lo n) σ H Q := by
  refine comp_range (fun l i acc σ' H' => Same H H' ∧ H' l = some (.lst acc) ∧ Paired R (List.range i) acc ∧ acc.length ≤ i ∧ ∃ v, σ' = v :: caps) (fun l hl => ⟨Same.updN hl, upd_same, by simpa using Paired.nil, Nat.le_refl _, none, hlift⟩) ?_ ?_ ?_ hz
  · rintro l i acc σ' H' _ ⟨s, _, _, h, _⟩
    exact h
  · rintro l i acc σ' H' hl hi ⟨s, h1, h2, h3, v, rfl⟩
    simp only [gName, tYes, List.set_cons_zero]
    rw [if_pos trivial]
    refine hel i hi H' _ s fun v H'' r s' => ⟨s' _ _ h1, (s.trans s').upd hl, upd_same, ?_, ?_, some _, rfl⟩
    · rw [List.range_succ]
      exact h2.snoc r
    · rw [List.length_append, List.length_singleton]
      omega
  · rintro l acc σ' H' hl ⟨s, h1, h2, _⟩
    exact hd l acc H' hl s h1 h2
end
end L2
/-! ### the readings, a step at a time -/
namespace L2
open PySem PySem.Spec PyProof.Rows
section
variable {K : PySem.W.Frag} {D : Ends} {σ : St} {H : Hp} {Q : VK} {QB : Bool → Hp → Prop} {QA : List V → Hp → Prop} {t u : TS} {te ta tb tc : TE} {c d : TT} {tl : TA} {i j : Int} {k n : Nat} {v x y : V} {r r' : R2} {E : XK}
theorem r_seq (h : t { D with nx := u D } σ H) : tSeq t u D σ H := h
/-- what is wanted between two statements -/
theorem r_cut (P : St → Hp → Prop) (h1 : ∀ F : St → Hp → Prop, (∀ σ' H', P σ' H' → F σ' H') → t { D with nx := F } σ H) (h2 : ∀ σ' H', P σ' H' → u D σ' H') : tSeq t u D σ H := h1 _ h2
theorem r_asg (h : te σ H fun x H1 => D.nx (σ.set n (some x)) H1) : tAsg te (gName n) D σ H := h
theorem r_ifs (h : c σ H fun b H1 => if b = true then t D σ H1 else u D σ H1) : tIfS c t u D σ H := h
theorem r_ret (h : te σ H D.rt) : tRet te D σ H := h
theorem r_next (h : D.nx σ H) : tNext D σ H := h
theorem r_drop (h : te σ H fun _ H1 => D.nx σ H1) : tDrop te D σ H := h
theorem r_c (h : Q v H) : tC v σ H Q := h
theorem r_op (h : ta σ H fun x H1 => tb σ H1 fun y H2 => r x y H2 Q) : tOp r ta tb σ H Q := h
theorem r_un {q : V → Hp → VK → Prop} (h : ta σ H fun x H1 => q x H1 Q) : tUn q ta σ H Q := h
theorem r_neg (h : Q (.int (-i)) H) : rU (fun i => .int (-i)) (.int i) H Q := ⟨i, rfl, h⟩
theorem r_add (h : Q (.int (i + j)) H) : oAdd (.int i) (.int j) H Q := ⟨i, j, rfl, rfl, h⟩
theorem r_mulL (h1 : -(2 ^ 64) < i) (h2 : i < 2 ^ 64) (h : Q (.int (i * j)) H) : oMul (.int i) (.int j) H Q := ⟨i, j, rfl, rfl, .inl (.inl ⟨h1, h2⟩), h⟩
theorem r_mulR (h1 : -(2 ^ 64) < j) (h2 : j < 2 ^ 64) (h : Q (.int (i * j)) H) : oMul (.int i) (.int j) H Q := ⟨i, j, rfl, rfl, .inl (.inr ⟨h1, h2⟩), h⟩
theorem r_div (h1 : 0 < j) (h2 : j < 1073741824) (h : Q (.int (i / j)) H) : oDiv (.int i) (.int j) H Q := ⟨i, j, rfl, rfl, ⟨h1, Int.lt_trans h2 huge_big⟩, h⟩
theorem r_mod (h1 : 0 < j) (h : Q (.int (i % j)) H) : oMod (.int i) (.int j) H Q := ⟨i, j, rfl, rfl, h1, h⟩
theorem r_pow (h1 : 0 ≤ j) (h2 : j ≤ 1000000) (h3 : i.natAbs < 2 ^ 64) (h : Q (.int (i ^ j.toNat)) H) : oPow (.int i) (.int j) H Q := ⟨i, j, rfl, rfl, .inl ⟨h1, h2, h3⟩, h⟩
theorem r_lt (h : Q (.bl (decide (i < j))) H) : oLt (.int i) (.int j) H Q := ⟨i, j, rfl, rfl, h⟩
theorem r_gt (h : Q (.bl (decide (j < i))) H) : oGt (.int i) (.int j) H Q := ⟨i, j, rfl, rfl, h⟩
theorem r_ge (h : Q (.bl (decide (j ≤ i))) H) : oGe (.int i) (.int j) H Q := ⟨i, j, rfl, rfl, h⟩
theorem decInt : decide (V.int i = V.int j) = decide (i = j) := by
  by_cases h : i = j
  · subst h; simp
  · rw [decide_eq_false h, decide_eq_false fun z => h (V.int.inj z)]
theorem r_eq (h : Q (.bl (decide (i = j))) H) : rEq (.int i) (.int j) H Q := ⟨rfl, by rw [decInt]; exact h⟩
theorem r_ne (h : Q (.bl (!decide (i = j))) H) : rNe (.int i) (.int j) H Q := ⟨rfl, by rw [decInt]; exact h⟩
theorem r_isN (h : Q (.bl (decide (x = .non))) H) : oIsN x .non H Q := ⟨rfl, h⟩
theorem r_notN (h : Q (.bl (!decide (x = .non))) H) : oNotN x .non H Q := ⟨rfl, h⟩
theorem r_test (h : te σ H fun x H' => ∃ k, x = .bl k ∧ QB k H') : tTest te σ H QB := h
theorem r_tB (h : te σ H fun x H1 => ∃ c, x = .bl c ∧ QB c H1) : tB te σ H QB := h
theorem r_bl {b : Bool} {P : Bool → Prop} (h : P b) : ∃ k, V.bl b = .bl k ∧ P k := ⟨b, rfl, h⟩
theorem r_and (h : c σ H fun b H1 => if b = true then d σ H1 QB else QB false H1) : tAnd c d σ H QB := h
theorem r_or (h : c σ H fun b H1 => if b = true then QB true H1 else d σ H1 QB) : tOr c d σ H QB := h
theorem r_not (h : c σ H fun b H1 => QB (!b) H1) : tNot c σ H QB := h
theorem r_notV (h : ta σ H fun x H1 => ∃ c, x = .bl c ∧ Q (.bl (!c)) H1) : tNotV ta σ H Q := h
theorem r_andV (h : ta σ H fun x H1 => ∃ c, x = .bl c ∧ if c = true then tb σ H1 Q else Q (.bl false) H1) : tAndV ta tb σ H Q := h
theorem r_if (h : c σ H fun b H1 => if b = true then ta σ H1 Q else tb σ H1 Q) : tIf c ta tb σ H Q := h
theorem r_nil (h : QA [] H) : tNil σ H QA := h
theorem r_cons (h : te σ H fun x H1 => tl σ H1 fun xs H2 => QA (x :: xs) H2) : tCons te tl σ H QA := h
theorem r_call {sp : Sp} (h : tl σ H fun vs H1 => sp vs H1 Q E) : tCall sp [] E tl σ H Q := by
  show tl σ H fun vs H1 => sp (vs ++ []) H1 Q E
  simpa only [List.append_nil] using h
theorem r_cb {q : List V → Hp → VK → Prop} (h : tl σ H fun vs H1 => q vs H1 Q) : tCB q tl σ H Q := h
theorem r_min (h : Q (.int (min i j)) H) : rMin [.int i, .int j] H Q := ⟨i, j, rfl, by
  have e : (if j < i then j else i) = min i j := by omega
  rw [e]; exact h⟩
theorem r_len {p : Addr} {ys : List V} (hs : SqL K H p ys) (h : Q (.int ys.length) H) : rLenL K [.ref p] H Q := ⟨p, ys, rfl, .inl hs, h⟩
theorem r_sum {p : Addr} {ns : List Int} (hs : SqL K H p (ns.map V.int)) (h : Q (.int ns.sum) H) : rSum K [.ref p] H Q := ⟨p, ns, rfl, hs, h⟩
theorem r_isiI {b : Bool} {nm : String} (e : PySem.W.kitOne K (.type "int") (.type nm) = some b) (h : Q (.bl b) H) : rIsi K [.int i, .ty nm] H Q := ⟨_, _, _, b, rfl, .int i, e, h⟩
theorem r_isiL {b : Bool} {p : Addr} {ys : List V} {nm : String} (hs : H p = some (.lst ys)) (e : PySem.W.kitOne K (.type "list") (.type nm) = some b) (h : Q (.bl b) H) : rIsi K [.ref p, .ty nm] H Q := ⟨_, _, _, b, rfl, .lst hs, e, h⟩
theorem r_ix {p : Addr} {xs : List V} (hs : SqL K H p xs) (ha : atI xs i = some v) (h : Q v H) : rIxL K (.ref p) (.int i) H Q := ⟨p, xs, i, v, rfl, rfl, hs, ha, h⟩
theorem r_eqIs {a b : Addr} {ns ms : List Int} (h1 : SqL K H a (ns.map V.int)) (h2 : SqL K H b (ms.map V.int)) (h : Q (.bl (decide (ns = ms))) H) : rEqI K false (.ref a) (.ref b) H Q := ⟨a, b, ns, ms, rfl, rfl, h1, h2, by rw [Bool.bne_false]; exact h⟩
theorem r_neIs {a b : Addr} {ns ms : List Int} (h1 : SqL K H a (ns.map V.int)) (h2 : SqL K H b (ms.map V.int)) (h : Q (.bl (!decide (ns = ms))) H) : rEqI K true (.ref a) (.ref b) H Q := ⟨a, b, ns, ms, rfl, rfl, h1, h2, by rw [Bool.bne_true]; exact h⟩
/-- a loop from here on -/
noncomputable def forGo (g : TG) (tb : TS) (D : Ends) (J : It) (σ : St) (H : Hp) : Prop := ∃ W : Nat → Nat → St → Hp → Prop, (∃ m, W 0 m σ H) ∧ ∀ i m σ H, W i m σ H →
  (J.stop i H ∧ D.nx σ H) ∨ (J.go i H ∧ ∃ N : St → Hp → Prop, (∀ σ' H', N σ' H' → ∃ m', m' < m ∧ W (i + 1) m' σ' H') ∧ ∀ x H', J.yld i H x H' → g x σ H' fun σ2 H2 => tb { D with nx := N, ct := N, bk := D.nx } σ2 H2)
theorem r_for {wi : TI} {g : TG} (h : wi σ H fun J H1 => forGo g t D J σ H1) : tFor wi g t D σ H := h
theorem r_rng1 {R : It → Hp → Prop} (h : tl σ H fun vs H1 => ∃ j : Int, vs = [.int j] ∧ -(2 ^ 62) ≤ j ∧ j < 2 ^ 62 ∧ R (Itr 0 j.toNat) H1) : iRng1 tl σ H R := h
theorem r_rng1' {P : Int → Prop} (h1 : -(2 ^ 62) ≤ i) (h2 : i < 2 ^ 62) (h : P i) : ∃ j : Int, ([.int i] : List V) = [.int j] ∧ -(2 ^ 62) ≤ j ∧ j < 2 ^ 62 ∧ P j := ⟨i, rfl, h1, h2, h⟩
theorem r_rng2 {R : It → Hp → Prop} (h : tl σ H fun vs H1 => ∃ i j : Int, vs = [.int i, .int j] ∧ (-(2 ^ 62) ≤ i ∧ i < 2 ^ 62 ∧ -(2 ^ 62) ≤ j ∧ j < 2 ^ 62) ∧ R (Itr i (j - i).toNat) H1) : iRng2 tl σ H R := h
theorem r_rng2' {P : Int → Int → Prop} (h1 : -(2 ^ 62) ≤ i) (h2 : i < 2 ^ 62) (h3 : -(2 ^ 62) ≤ j) (h4 : j < 2 ^ 62) (h : P i j) : ∃ i' j' : Int, ([.int i, .int j] : List V) = [.int i', .int j'] ∧ (-(2 ^ 62) ≤ i' ∧ i' < 2 ^ 62 ∧ -(2 ^ 62) ≤ j' ∧ j' < 2 ^ 62) ∧ P i' j' := ⟨i, j, rfl, ⟨h1, h2, h3, h4⟩, h⟩
theorem r_iList {R : It → Hp → Prop} (h : te σ H fun x H1 => ∃ a, x = .ref a ∧ (∃ xs, SqL K H1 a xs) ∧ R (Itl K a) H1) : iList K te σ H R := h
theorem r_iList' {P : Addr → Prop} {a : Addr} {xs : List V} (hs : SqL K H a xs) (h : P a) : ∃ b, V.ref a = .ref b ∧ (∃ xs, SqL K H b xs) ∧ P b := ⟨a, rfl, ⟨xs, hs⟩, h⟩
theorem r_sl {q : V → Option Int → Option Int → Hp → VK → Prop} {lo hi : TO} (h : te σ H fun x H1 => lo σ H1 fun l H2 => hi σ H2 fun u H3 => q x l u H3 Q) : tSl q te lo hi σ H Q := h
theorem r_part {R : Option Int → Hp → Prop} (h : te σ H fun x H1 => ∃ i, x = .int i ∧ R (some i) H1) : tPart te σ H R := h
theorem r_part' {P : Int → Prop} (h : P i) : ∃ j, V.int i = .int j ∧ P j := ⟨i, rfl, h⟩
theorem r_noPart {R : Option Int → Hp → Prop} (h : R none H) : tNoPart σ H R := h
theorem r_comp {mp : List (Option Nat)} {wi : TI} {g : TG} (h : wi σ H fun J H1 => tCompK mp g c te J σ H1 Q) : tComp mp wi g c te σ H Q := h
theorem r_bm {T : String} {q : V → List V → Hp → VK → Prop} (h : te σ H fun x H1 => tyV K T x H1 ∧ tl σ H1 fun xs H2 => q x xs H2 Q) : tBM K T q te tl σ H Q := h
theorem r_bm0 {T : String} {q : V → List V → Hp → VK → Prop} (h : te σ H fun x H1 => tyV K T x H1 ∧ q x [] H1 Q) : tBM0 K T q te σ H Q := h
end
end L2
namespace L2
theorem kit_ii {K : PySem.W.Frag} : PySem.W.kitOne K (.type "int") (.type "int") = some true := by rfl
theorem kit_ib {K : PySem.W.Frag} : PySem.W.kitOne K (.type "int") (.type "bool") = some false := by rfl
theorem kit_ll {K : PySem.W.Frag} : PySem.W.kitOne K (.type "list") (.type "list") = some true := by rfl
end L2
/-! ### range(a, b, c) -/
namespace L2
open PySem PySem.Spec PyProof.Rows
/-- lo, lo + step, .. (n of them) -/
noncomputable def ItrS (lo step : Int) (n : Nat) : It := ⟨fun i _ => i < n, fun i H x H' => H' = H ∧ x = .int (lo + i * step), fun i _ => n ≤ i⟩
section
variable {X : Cx} {tg : Expr}
end
theorem for_rangeS {lo step : Int} {n : Nat} {g : TG} {tb : TS} {D : Ends} {σ : St} {H : Hp} (Pv : Nat → St → Hp → Prop) (h0 : Pv 0 σ H)
    (hs : ∀ i σ H, i < n → Pv i σ H → g (.int (lo + i * step)) σ H fun σ2 H2 => tb { D with nx := Pv (i + 1), ct := Pv (i + 1), bk := D.nx } σ2 H2) (hd : ∀ σ H, Pv n σ H → D.nx σ H) : forGo g tb D (ItrS lo step n) σ H := by
  refine ⟨fun i m σ H => m = n - i ∧ i ≤ n ∧ Pv i σ H, ⟨n, by simp, Nat.zero_le _, h0⟩, ?_⟩
  rintro i m σ H ⟨rfl, hi, p⟩
  by_cases hlt : i < n
  · refine .inr ⟨hlt, Pv (i + 1), fun σ' H' p' => ⟨n - (i + 1), by omega, rfl, hlt, p'⟩, fun x H' y => ?_⟩
    obtain ⟨e, y⟩ := y
    subst e y
    exact hs i σ _ hlt p
  · have e : i = n := by omega
    subst e
    exact .inl ⟨Nat.le_refl _, hd σ H p⟩
end L2
/-! ### data as it lies: comparisons of nested lists -/
namespace L2
open PySem PySem.Spec PyProof.Rows
mutual
inductive DatIs (K : PySem.W.Frag) (H : Hp) : V → PyData → Prop
  | non : DatIs K H .non .none
  | bl (b : Bool) : DatIs K H (.bl b) (.bool b)
  | int (i : Int) : DatIs K H (.int i) (.int i)
  | str (x : Str) : DatIs K H (.str x) (.str x)
  | lst {a : Addr} {xs : List V} {ds : List PyData} : SqL K H a xs → DatAll K H xs ds → DatIs K H (.ref a) (.list ds)
  | tup {a : Addr} {xs : List V} {ds : List PyData} : SqT K H a xs → DatAll K H xs ds → DatIs K H (.ref a) (.tuple ds)
inductive DatAll (K : PySem.W.Frag) (H : Hp) : List V → List PyData → Prop
  | nil : DatAll K H [] []
  | cons {x : V} {xs : List V} {d : PyData} {ds : List PyData} : DatIs K H x d → DatAll K H xs ds → DatAll K H (x :: xs) (d :: ds)
end
section
variable {X : Cx} {pins : List (Addr × Obj)} {σ : St} {H : Hp} {s : Shared}
mutual
theorem reads_of (I : Inv X pins σ H s) : ∀ {x : V} {d : PyData} {u : Value}, DatIs X.K H x d → RelV x u → ∃ as, Reads s.heap u d as
  | _, _, _, .non, r => by cases r; exact ⟨_, .none⟩
  | _, _, _, .bl b, r => by cases r; exact ⟨_, .bool b⟩
  | _, _, _, .int i, r => by obtain ⟨t, rfl⟩ := r; exact ⟨_, .int i t⟩
  | _, _, _, .str x, r => by obtain ⟨t, rfl⟩ := r; exact ⟨_, .str x t⟩
  | _, _, _, .lst hS all, r => by
    cases r
    obtain ⟨its, rv, pl, _⟩ := I.list hS
    obtain ⟨o, ho, hc, n, hd⟩ := pl.isList
    obtain ⟨as, q⟩ := reads_all I all rv
    exact ⟨_, Reads.list ho hc hd (by simpa using q)⟩
  | _, _, _, .tup hS all, r => by
    cases r
    obtain ⟨its, rv, pl, _⟩ := I.tuple hS
    obtain ⟨o, ho, hc, n, hd⟩ := pl
    obtain ⟨as, q⟩ := reads_all I all rv
    exact ⟨_, Reads.tuple ho hc hd (by simpa using q)⟩
theorem reads_all (I : Inv X pins σ H s) : ∀ {xs : List V} {ds : List PyData} {us : List Value}, DatAll X.K H xs ds → Vals xs us → ∃ as, ReadsAll s.heap us ds as
  | _, _, _, .nil, r => by cases r; exact ⟨_, .nil⟩
  | _, _, _, .cons h t, r => by
    cases r with
    | cons r1 r2 =>
      obtain ⟨as, a⟩ := reads_of I h r1
      obtain ⟨bs, b⟩ := reads_all I t r2
      exact ⟨_, .cons a b⟩
end
end
noncomputable def rEqD (K : PySem.W.Frag) (neg : Bool) : R2 := fun x y H Q => ∃ d e, DatIs K H x d ∧ DatIs K H y e ∧ SeqAt.shaped d = true ∧ SeqAt.shaped e = true ∧ SeqAt.noMix d e = true ∧ Q (.bl (same d e != neg)) H
section
variable {X : Cx}
theorem op_eq_data (hu : X.A.units + 64 < cLine) : OpR X (compareOp .Eq) (rEqD X.K false) := by
  intro pins s σ H x y v u Q I rx ry h
  obtain ⟨d, e, h1, h2, h3, h4, h5, q⟩ := h
  obtain ⟨as, a⟩ := reads_of I h1 rx
  obtain ⟨bs, b⟩ := reads_of I h2 ry
  refine eq_dataH_same a b h3 h4 hu h5 ⟨.bl (same d e), H, I, rfl, ?_⟩
  rw [Bool.bne_false] at q
  exact q
theorem op_ne_data (hu : X.A.units + 64 < cLine) : OpR X (compareOp .NotEq) (rEqD X.K true) := by
  intro pins s σ H x y v u Q I rx ry h
  obtain ⟨d, e, h1, h2, h3, h4, h5, q⟩ := h
  obtain ⟨as, a⟩ := reads_of I h1 rx
  obtain ⟨bs, b⟩ := reads_of I h2 ry
  refine ne_dataH_same a b h3 h4 hu h5 ⟨.bl (!same d e), H, I, rfl, ?_⟩
  rw [Bool.bne_true] at q
  exact q
end
section
variable {K : PySem.W.Frag} {H : Hp} {Q : VK} {x y : V}
end
/-- ints; rows of ints -/
noncomputable def dInts (ns : List Int) : PyData := .list (ns.map .int)
noncomputable def dRows (rows : List (List Int)) : PyData := .list (rows.map dInts)
theorem dat_ints {K : PySem.W.Frag} {H : Hp} : ∀ ns : List Int, DatAll K H (ns.map V.int) (ns.map PyData.int)
  | [] => .nil
  | n :: r => .cons (.int n) (dat_ints r)
theorem dat_list {K : PySem.W.Frag} {H : Hp} {a : Addr} {ns : List Int} (h : SqL K H a (ns.map V.int)) : DatIs K H (.ref a) (dInts ns) := .lst h (dat_ints ns)
/-! ### insert -/
section
variable {X : Cx}
end
end L2

/-! ### enumerate -/
namespace L2
open PySem PySem.Spec PyProof.Rows
/-- (0, x0), (1, x1), ..: a new tuple each time -/
noncomputable def Ite (K : PySem.W.Frag) (a : Addr) : It :=
  ⟨fun i H => ∃ xs x, SqL K H a xs ∧ xs[i]? = some x, fun i H x H' => ∃ T y, x = .ref T ∧ H T = none ∧ H' = upd H T (.tup [.int i, y]) ∧ ∀ xs, SqL K H a xs → xs[i]? = some y, fun i H => ∃ xs, SqL K H a xs ∧ xs.length ≤ i⟩
theorem turn_enum {P : Program} {w : World} {K : PySem.W.Frag} {elts : List Expr} {x1} {pos : Pos} (a e it : Addr) (hne : e ≠ it) :
    Turn P w K (.Tuple elts x1 pos) (Ite K a) [e, it] e (fun i h => (∃ old, IsEnum h e it ((i : Nat) : Int) old) ∧ h.IsListIter it a i) where
  mem := by simp
  obj := fun i h st b hb => by
    obtain ⟨⟨old, he⟩, o, ho, hc, hd⟩ := st
    rcases List.mem_cons.mp hb with z | hb
    · subst z
      exact ⟨_, he, fun v z => by
        have z' : Data.fields _ = Data.cell v := z
        cases z'⟩
    · have z : b = it := by simpa using hb
      subst z
      exact ⟨o, ho, fun v z => by rw [hd] at z; cases z⟩
  keep := fun i h h' st k => by
    obtain ⟨⟨old, he⟩, o, ho, r⟩ := st
    exact ⟨⟨old, k e (by simp) _ he⟩, o, k it (by simp) _ ho, r⟩
  item := by
    intro X hP hw hK hc i pins s σ H E I hf st hg
    subst hP hw hK
    obtain ⟨⟨old, he⟩, hit⟩ := st
    obtain ⟨xs, x, hS, hx⟩ := hg
    obtain ⟨its, rv, pl, hz⟩ := I.list hS
    obtain ⟨u, hu, ru⟩ := rv.get hx
    obtain ⟨f0, f1, f2, f3, f4, f5⟩ := hf e (by simp)
    obtain ⟨g0, g1, g2, g3, g4, g5⟩ := hf it (by simp)
    have fT : H s.heap.objs.size = none := I.fresh
    refine wpAny_pyNext_enum_item he hit pl.isList (x := u) (by simpa using hu) hne fun h' heo hit' ht hsz hk => ⟨_, rfl, ?_⟩
    refine wpAny_letOwnedTupleGo_enum heo fun h2 he2 hs2 => ?_
    have hs2 : Heap.SameBut e h' h2 := hs2
    have heT : e ≠ s.heap.objs.size := Nat.ne_of_lt (Heap.lt_size he)
    have oldK : ∀ b o, b ≠ e → b ≠ it → s.heap.get? b = some o → h2.get? b = some o := fun b o h1 h2' q => hs2.extBut b o h1 (hk b o h1 h2' q)
    have hT2 : h2.get? s.heap.objs.size = some { cls := .type "tuple", data := .seq #[.int i s.toks, u] } := hs2.extBut _ _ (Ne.symm heT) ht
    have neT : ∀ b o, s.heap.get? b = some o → b ≠ s.heap.objs.size := fun b o q => Nat.ne_of_lt (Heap.lt_size q)
    have nH : ∀ b w', H b = some w' → b ≠ e ∧ b ≠ it := fun b w' q => ⟨fun z => (by rw [z, f0] at q; cases q), fun z => (by rw [z, g0] at q; cases q)⟩
    have I2 : Inv X pins σ (upd H s.heap.objs.size (.tup [.int i, x])) { s with heap := h2, toks := s.toks + 1 } := by
      refine I.step (g' := s.gens) (d' := s.drawn) (t' := s.toks + 1) (ch := [e, it]) (fun b hb => ?_) (fun b o _ _ hb q _ => ?_) (fun b o _ _ hb q _ => ?_) (fun b o _ q n => ?_) (fun b o hb q => ?_)
        (fun b ys q => ?_) (fun b o w' q => ?_) (fun b ps q => ?_) (fun m hm => ?_) (fun b w' q => ?_) I.bare
      · rcases List.mem_cons.mp hb with z | hb
        · subst z; exact ⟨f3, f1, f4, f5⟩
        · have z : b = it := by simpa using hb
          subst z; exact ⟨g3, g1, g4, g5⟩
      · exact oldK b o (fun z => hb (by simp [z])) (fun z => hb (by simp [z])) q
      · exact ⟨o.slots, oldK b o (fun z => hb (by simp [z])) (fun z => hb (by simp [z])) q⟩
      · rw [upd_ne (neT b o q)]; exact n
      · exact ⟨o, oldK b o (fun z => hb (by simp [z])) (fun z => hb (by simp [z])) q⟩
      · rw [upd_ne (ne_of_none q fT)]; exact q
      · rw [upd_ne (ne_of_none q fT)]; exact q
      · exact ⟨#[], by rw [upd_ne (ne_of_none q fT), q]; simp⟩
      · obtain ⟨o, es, ep, ho, r⟩ := hm
        exact ⟨o, es, ep, oldK _ o (Ne.symm f1) (Ne.symm g1) ho, r⟩
      · by_cases hb : b = s.heap.objs.size
        · subst hb
          rw [upd_same] at q
          cases q
          exact ⟨by show 2 ≤ sizeLine; decide, [.int i s.toks, u], .cons ⟨_, rfl⟩ (.cons ru .nil), _, hT2, rfl, _, rfl⟩
        · rw [upd_ne hb] at q
          refine (I.hok b w' q).stay (fun c v hc q' => oldK c v ?_ ?_ q') (fun c q' => ?_) fun c ys q' => ?_
          · rcases hc with z | z
            · rw [z]; exact (nH b w' q).1
            · exact (nH c _ z).1
          · rcases hc with z | z
            · rw [z]; exact (nH b w' q).2
            · exact (nH c _ z).2
          · rw [upd_ne (ne_of_none q' fT)]; exact q'
          · rw [upd_ne (ne_of_none q' fT)]; exact q'
    refine ⟨.ref s.heap.objs.size, _, I2, rfl, ⟨s.heap.objs.size, x, rfl, fT, rfl, fun ys hys => ?_⟩, ⟨⟨u, ?_⟩, ?_⟩, fun b hb => ?_⟩
    · rw [I.list_inj hys hS]; exact hx
    · have e1 : ((i + 1 : Nat) : Int) = (i : Int) + 1 := by omega
      rw [e1]; exact he2
    · exact hit'.extBut hs2.extBut (Ne.symm hne)
    · have : b ≠ s.heap.objs.size := by
        rcases List.mem_cons.mp hb with z | hb
        · rw [z]; exact heT
        · have z : b = it := by simpa using hb
          rw [z]
          obtain ⟨o, ho, _⟩ := hit
          exact neT it o ho
      rw [upd_ne this]
      exact (hf b hb).1
  done := by
    intro X hP hw hK hc i pins s σ H E I hf st hg
    subst hP hw hK
    obtain ⟨⟨old, he⟩, hit⟩ := st
    obtain ⟨xs, hS, hx⟩ := hg
    obtain ⟨its, rv, pl, hz⟩ := I.list hS
    have hl := rv.length
    obtain ⟨g0, g1, g2, g3, g4, g5⟩ := hf it (by simp)
    refine wpAny_pyNext_enum_end (I.ok.hd hc) he hit pl.isList (by simp; omega) fun h' eb => ⟨rfl, I.turned (t' := s.toks) (fun b o hb e' => eb b o hb e') g0 g1 g3 g4 g5⟩
  self := fun A i s Q E st h => by
    obtain ⟨⟨old, he⟩, hit⟩ := st
    exact wpAny_pyIter_enum he h
section
variable {X : Cx}
noncomputable def iEnum (K : PySem.W.Frag) (tl : TE) : TI := fun σ H R => tl σ H fun x H1 => ∃ a, x = .ref a ∧ (∃ xs, SqL K H1 a xs) ∧ R (Ite K a) H1
theorem pi_enum {l : Expr} {tl : TE} {elts : List Expr} {x1} {p pos pt : Pos} (hg : Gl X "enumerate") (hm : X.mg "enumerate" = none) (hl : PE X l tl) (hs : starEach [l] X.env = [(false, eval l X.env)] := by rfl) :
    PI X (.Tuple elts x1 pt) (.Call (.Name "enumerate" p) [l] [] pos) (iEnum X.K tl) := by
  intro pins s σ H R I h
  refine Call_ (ld_blt I hg hm boot_enumerate (PyProof.Rows.callWith_type1 (thn (pa_cons hl pa_nil hs pos pins s σ H (fun vs H1 => ∃ x, vs = [x] ∧ ∃ a, x = .ref a ∧ (∃ xs, SqL X.K H1 a xs) ∧ R (Ite X.K a) H1) I ?_) fun us s1 ⟨vs, H1, I1, r1, q1⟩ => ?_) hs rfl))
  · have mono : tl σ H (fun x H1 => ∃ y, [x] = [y] ∧ ∃ a, y = .ref a ∧ (∃ xs, SqL X.K H1 a xs) ∧ R (Ite X.K a) H1) := by
      have e : (fun (x : V) (H1 : Hp) => ∃ y, [x] = [y] ∧ ∃ a, y = V.ref a ∧ (∃ xs, SqL X.K H1 a xs) ∧ R (Ite X.K a) H1) = fun x H1 => ∃ a, x = V.ref a ∧ (∃ xs, SqL X.K H1 a xs) ∧ R (Ite X.K a) H1 := by
        funext x H1
        simp
      rw [e]
      exact h
    exact mono
  · obtain ⟨x, rfl, a, rfl, ⟨xs, hS⟩, q⟩ := q1
    obtain ⟨u, rfl, ru⟩ := vals1 r1
    cases ru
    obtain ⟨its, rv, pl, hz⟩ := I1.list hS
    refine call_enumerate_list pl.isList fun h' he hit hsz hk => ?_
    have I2 : Inv X pins σ H1 { s1 with heap := h' } := I1.kept (t' := s1.toks) hk
    refine wpAny_pyIter_enum he ?_
    refine ⟨s1.heap.objs.size + 1, [s1.heap.objs.size + 1, s1.heap.objs.size], _, _, H1, rfl, I2, turn_enum a _ _ (Nat.succ_ne_self _), ⟨⟨.none, he⟩, hit⟩, fun b hb => ?_, q⟩
    have hb' : s1.heap.objs.size ≤ b := by
      rcases List.mem_cons.mp hb with z | hb
      · rw [z]; exact Nat.le_succ _
      · have z : b = s1.heap.objs.size := by simpa using hb
        rw [z]; exact Nat.le_refl _
    exact I1.fpOk hb' (I1.hok.fresh hb')
end
end L2
/-! ### zip; walks by their turns -/
namespace L2
open PySem PySem.Spec PyProof.Rows
section
variable {X : Cx}
end

/-- n turns; at turn i the target makes of the names f i; what is tracked stays, and more may come -/
structure Ys (J : It) (g : TG) (P : Hp → Prop) (n : Nat) (f : Nat → St → St) : Prop where
  go : ∀ i H, i < n → P H → J.go i H
  stop : ∀ H, P H → J.stop n H
  yld : ∀ i H x H' σ (Q : St → Hp → Prop), i < n → P H → J.yld i H x H' → (∀ H'', Same H H'' → Q (f i σ) H'') → g x σ H' Q
theorem ys_list {K : PySem.W.Frag} {a : Addr} {xs : List V} (p : Nat) : Ys (Itl K a) (gName p) (fun H => SqL K H a xs) xs.length (fun i σ => σ.set p (some (xs.getD i .non))) where
  go := fun i H hi h => ⟨xs, xs[i], h, by simp [hi]⟩
  stop := fun H h => ⟨xs, h, Nat.le_refl _⟩
  yld := fun i H x H' σ Q hi h y q => by
    obtain ⟨e, y⟩ := y
    subst e
    have e : xs.getD i .non = x := by simp [List.getD, y xs h]
    have := q _ (Same.refl _)
    rw [e] at this
    exact this
theorem ys_range {lo : Int} {n : Nat} (p : Nat) : Ys (Itr lo n) (gName p) (fun _ => True) n (fun i σ => σ.set p (some (.int (lo + i)))) where
  go := fun i H hi _ => hi
  stop := fun H _ => Nat.le_refl _
  yld := fun i H x H' σ Q hi _ y q => by
    obtain ⟨e, y⟩ := y
    subst e y
    exact q _ (Same.refl _)
theorem ys_enum {K : PySem.W.Frag} {a : Addr} {xs : List V} (p r : Nat) : Ys (Ite K a) (gTup K 2 (gCons (gName p) (gCons (gName r) gNil))) (fun H => SqL K H a xs) xs.length (fun i σ => (σ.set p (some (.int i))).set r (some (xs.getD i .non))) where
  go := fun i H hi h => ⟨xs, xs[i], h, by simp [hi]⟩
  stop := fun H h => ⟨xs, h, Nat.le_refl _⟩
  yld := fun i H x H' σ Q hi h y q => by
    obtain ⟨T, v, rfl, hT, rfl, hv⟩ := y
    have e : xs.getD i .non = v := by simp [List.getD, hv xs h]
    refine ⟨T, _, rfl, SqT.of upd_same, rfl, _, _, rfl, _, _, rfl, rfl, ?_⟩
    have := q _ (Same.updN hT (o := .tup [.int i, v]))
    rw [e] at this
    exact this
theorem for_ys {J : It} {g : TG} {P : Hp → Prop} {n : Nat} {f : Nat → St → St} {tb : TS} {D : Ends} {σ : St} {H : Hp} (Y : Ys J g P n f) (Pv : Nat → St → Hp → Prop) (h0 : Pv 0 σ H) (hP : ∀ i σ H, Pv i σ H → P H)
    (hs : ∀ i σ H H', i < n → Pv i σ H → Same H H' → tb { D with nx := Pv (i + 1), ct := Pv (i + 1), bk := D.nx } (f i σ) H') (hd : ∀ σ H, Pv n σ H → D.nx σ H) : forGo g tb D J σ H := by
  refine ⟨fun i m σ H => m = n - i ∧ i ≤ n ∧ Pv i σ H, ⟨n, by simp, Nat.zero_le _, h0⟩, ?_⟩
  rintro i m σ H ⟨rfl, hi, p⟩
  by_cases hlt : i < n
  · exact .inr ⟨Y.go i H hlt (hP _ _ _ p), Pv (i + 1), fun σ' H' p' => ⟨n - (i + 1), by omega, rfl, hlt, p'⟩, fun x H' y => Y.yld i H x H' σ _ hlt (hP _ _ _ p) y fun H'' s => hs i σ H H'' hlt p s⟩
  · have e : i = n := by omega
    subst e
    exact .inl ⟨Y.stop H (hP _ _ _ p), hd σ H p⟩
section
variable {mp : List (Option Nat)} {g : TG} {tt : TT} {te : TE} {J : It} {P : Hp → Prop} {n : Nat} {f : Nat → St → St} {σ : St} {H : Hp} {Q : VK}
/-- all but what lies at l -/
noncomputable def SameX (l : Addr) (H H' : Hp) : Prop := ∀ b o, b ≠ l → H b = some o → H' b = some o
theorem Same.x {H H' : Hp} (s : Same H H') (l : Addr) : SameX l H H' := fun b o _ h => s b o h
theorem sameX_upd {H : Hp} {l : Addr} {o : HO} : SameX l H (upd H l o) := fun b u hb h => by rw [upd_ne hb]; exact h
/-- [te for .. in .. if tt]: fv i: the turn comes in; R: what its value is worth -/
theorem comp_genY (Y : Ys J g P n f) (st : Nat → St) (hf : ∀ i σ', (σ' = liftSt mp σ ∨ ∃ j, σ' = st j) → f i σ' = st i) (hP : ∀ H', Same H H' → P H') (hz : n ≤ sizeLine) (b : Nat → Bool) (R : Addr → Nat → V → Hp → Prop)
    (hR : ∀ l i v H1 H2, SameX l H1 H2 → R l i v H1 → R l i v H2)
    (ht : ∀ i, i < n → ∀ (H' : Hp) (G : Bool → Hp → Prop), Same H H' → (∀ H'', Same H' H'' → G (b i) H'') → tt (st i) H' G)
    (he : ∀ l i, i < n → b i = true → ∀ (H' : Hp) (G : VK), H l = none → (∃ o, H' l = some o) → Same H H' → (∀ v H'', R l i v H'' → Same H' H'' → G v H'') → te (st i) H' G)
    (hd : ∀ l ys H', H l = none → Same H H' → H' l = some (.lst ys) → Paired (fun i v => R l i v H') ((List.range n).filter b) ys → Q (.ref l) H') : tCompK mp g tt te J σ H Q := by
  intro l hl
  refine ⟨fun i m acc σ' H' => m = n - i ∧ i ≤ n ∧ acc.length ≤ i ∧ Same H H' ∧ H' l = some (.lst acc) ∧ Paired (fun i v => R l i v H') ((List.range i).filter b) acc ∧ (σ' = liftSt mp σ ∨ ∃ j, σ' = st j),
    ⟨n, by simp, Nat.zero_le _, Nat.le_refl _, Same.updN hl, upd_same, .nil, .inl rfl⟩, ?_⟩
  rintro i m acc σ' H' ⟨rfl, hi, ha, s, h1, h2, hσ⟩
  by_cases hlt : i < n
  · refine .inr ⟨Y.go i H' hlt (hP _ s), by omega, fun acc' σ2 H2 => i + 1 ≤ n ∧ acc'.length ≤ i + 1 ∧ Same H H2 ∧ H2 l = some (.lst acc') ∧ Paired (fun i v => R l i v H2) ((List.range (i + 1)).filter b) acc' ∧ (σ2 = liftSt mp σ ∨ ∃ j, σ2 = st j), fun acc' σ2 H2 p' => ⟨n - (i + 1), by omega, rfl, p'⟩, fun x H2 y => ?_⟩
    refine Y.yld i H' x H2 σ' _ hlt (hP _ s) y fun H3 s3 => ?_
    rw [hf i σ' hσ]
    refine ht i hlt H3 _ (s.trans s3) fun H4 s4 => ?_
    have s34 := s3.trans s4
    cases hb : b i with
    | false =>
      refine iteF ⟨hlt, by omega, s.trans s34, s34 _ _ h1, ?_, .inr ⟨i, rfl⟩⟩
      rw [List.range_succ, List.filter_append, List.filter_cons, hb]
      simp only [Bool.false_eq_true, if_false, List.filter_nil, List.append_nil]
      exact Paired.mapP h2 fun j v r => hR l j v _ _ (s34.x l) r
    | true =>
      refine iteT ?_
      refine he l i hlt hb H4 _ hl ⟨_, s34 _ _ h1⟩ (s.trans s34) fun v H5 r s5 => ?_
      have s35 := s34.trans s5
      refine ⟨s35 _ _ h1, hlt, ?_, (s.trans s35).upd hl, upd_same, ?_, .inr ⟨i, rfl⟩⟩
      · rw [List.length_append, List.length_singleton]; omega
      · rw [List.range_succ, List.filter_append, List.filter_cons, hb]
        simp only [if_true, List.filter_nil]
        exact (Paired.mapP h2 fun j v r => hR l j v _ _ sameX_upd (hR l j v _ _ (s35.x l) r)).snoc (hR l i v _ _ sameX_upd r)
  · have e : i = n := by omega
    subst e
    exact .inl ⟨Y.stop H' (hP _ s), hd l acc H' hl s h1 h2⟩
theorem paired_map {α : Type} {F : α → V} : ∀ {xs : List α} {ys : List V}, Paired (fun x v => v = F x) xs ys → ys = xs.map F
  | _, _, .nil => rfl
  | _, _, .cons e t => by rw [e, paired_map t]; rfl
/-- each value is F i -/
theorem comp_mapY (Y : Ys J g P n f) (st : Nat → St) (hf : ∀ i σ', (σ' = liftSt mp σ ∨ ∃ j, σ' = st j) → f i σ' = st i) (hP : ∀ H', Same H H' → P H') (hz : n ≤ sizeLine) (F : Nat → V)
    (he : ∀ i, i < n → ∀ (H' : Hp) (G : VK), Same H H' → (∀ H'', Same H' H'' → G (F i) H'') → te (st i) H' G)
    (hd : ∀ l H', H l = none → Same H H' → H' l = some (.lst ((List.range n).map F)) → Q (.ref l) H') : tCompK mp g tYes te J σ H Q := by
  refine comp_genY Y st hf hP hz (fun _ => true) (fun _ i v _ => v = F i) (fun _ _ _ _ _ _ h => h) (fun i hi H' G s k => k H' (Same.refl _)) (fun l i hi _ H' G _ _ s k => he i hi H' G s fun H'' s' => k _ H'' rfl s') fun l ys H' h0 s h1 pr => ?_
  have e := paired_map pr
  rw [List.filter_eq_self.mpr (fun _ _ => rfl)] at e
  subst e
  exact hd l H' h0 s h1
/-- .. where b i -/
theorem comp_filtY (Y : Ys J g P n f) (st : Nat → St) (hf : ∀ i σ', (σ' = liftSt mp σ ∨ ∃ j, σ' = st j) → f i σ' = st i) (hP : ∀ H', Same H H' → P H') (hz : n ≤ sizeLine) (b : Nat → Bool) (F : Nat → V)
    (ht : ∀ i, i < n → ∀ (H' : Hp) (G : Bool → Hp → Prop), Same H H' → (∀ H'', Same H' H'' → G (b i) H'') → tt (st i) H' G)
    (he : ∀ i, i < n → b i = true → ∀ (H' : Hp) (G : VK), Same H H' → (∀ H'', Same H' H'' → G (F i) H'') → te (st i) H' G)
    (hd : ∀ l H', H l = none → Same H H' → H' l = some (.lst (((List.range n).filter b).map F)) → Q (.ref l) H') : tCompK mp g tt te J σ H Q := by
  refine comp_genY Y st hf hP hz b (fun _ i v _ => v = F i) (fun _ _ _ _ _ _ h => h) ht (fun l i hi hb H' G _ _ s k => he i hi hb H' G s fun H'' s' => k _ H'' rfl s') fun l ys H' h0 s h1 pr => ?_
  have e := paired_map pr
  subst e
  exact hd l H' h0 s h1
theorem paired_refs {T : Addr → Nat → Prop} : ∀ {is : List Nat} {ys : List V}, Paired (fun i v => ∃ b, v = .ref b ∧ T b i) is ys → ∃ bs : List Addr, ys = bs.map V.ref ∧ Paired (fun i b => T b i) is bs
  | _, _, .nil => ⟨[], rfl, .nil⟩
  | _, _, .cons ⟨b, e, h⟩ t => by
    obtain ⟨bs, e', p⟩ := paired_refs t
    exact ⟨b :: bs, by rw [e, e']; rfl, .cons h p⟩
/-- each value is a new list: row i -/
theorem comp_rowsY (Y : Ys J g P n f) (st : Nat → St) (hf : ∀ i σ', (σ' = liftSt mp σ ∨ ∃ j, σ' = st j) → f i σ' = st i) (hP : ∀ H', Same H H' → P H') (hz : n ≤ sizeLine) (row : Nat → List V)
    (he : ∀ i, i < n → ∀ (H' : Hp) (G : VK), Same H H' → (∀ b H'', H' b = none → Same H' H'' → H'' b = some (.lst (row i)) → G (.ref b) H'') → te (st i) H' G)
    (hd : ∀ l bs H', H l = none → Same H H' → H' l = some (.lst (bs.map V.ref)) → Paired (fun i b => H b = none ∧ b ≠ l ∧ H' b = some (.lst (row i))) (List.range n) bs → Q (.ref l) H') : tCompK mp g tYes te J σ H Q := by
  refine comp_genY Y st hf hP hz (fun _ => true) (fun l i v H' => ∃ b, v = .ref b ∧ H b = none ∧ b ≠ l ∧ H' b = some (.lst (row i))) (fun l i v H1 H2 s ⟨b, e, h0, hl, h1⟩ => ⟨b, e, h0, hl, s b _ hl h1⟩) (fun i hi H' G s k => k H' (Same.refl _))
    (fun l i hi _ H' G hl ⟨o, ho⟩ s k => he i hi H' G s fun b H'' h0 s' h1 => k _ H'' ⟨b, rfl, s.free h0, (fun e => by rw [e, ho] at h0; cases h0), h1⟩ s') fun l ys H' h0 s h1 pr => ?_
  rw [List.filter_eq_self.mpr (fun _ _ => rfl)] at pr
  obtain ⟨bs, rfl, pr'⟩ := paired_refs (T := fun b i => H b = none ∧ b ≠ l ∧ H' b = some (.lst (row i))) pr
  exact hd l bs H' h0 s h1 pr'
end
/-! ### list(reversed(xs)) -/
/-! ### ints in a list of ints -/
theorem in_ints {i : Int} {ns : List Int} : inV (.int i) (ns.map V.int) = decide (i ∈ ns) := by
  unfold inV
  rw [List.any_map]
  induction ns with
  | nil => simp
  | cons n r ih =>
    rw [List.any_cons, ih]
    show ((n == i) || decide (i ∈ r)) = _
    by_cases h : n = i
    · subst h; simp
    · have : (n == i) = false := by simpa using h
      rw [this, Bool.false_or]
      by_cases h' : i ∈ r
      · simp [h']
      · have : ¬ i ∈ n :: r := fun z => by
          rcases List.mem_cons.mp z with e | e
          · exact h e.symm
          · exact h' e
        rw [decide_eq_false h', decide_eq_false this]
theorem flat_ints (ns : List Int) : (ns.map V.int).all flatV = true := by
  rw [List.all_map]
  exact List.all_eq_true.mpr fun _ _ => rfl
section
variable {K : PySem.W.Frag} {H : Hp} {Q : VK}
theorem r_inI {p : Addr} {ns : List Int} {i : Int} (hs : SqL K H p (ns.map V.int)) (h : Q (.bl (decide (i ∈ ns))) H) : rIn K false (.int i) (.ref p) H Q :=
  ⟨p, _, rfl, .inl hs, rfl, flat_ints ns, by rw [if_neg Bool.false_ne_true, in_ints]; exact h⟩
theorem r_ninI {p : Addr} {ns : List Int} {i : Int} (hs : SqL K H p (ns.map V.int)) (h : Q (.bl (!decide (i ∈ ns))) H) : rIn K true (.int i) (.ref p) H Q :=
  ⟨p, _, rfl, .inl hs, rfl, flat_ints ns, by rw [if_pos rfl, in_ints]; exact h⟩
theorem r_all {p : Addr} {bs : List Bool} (hs : SqL K H p (bs.map V.bl)) (h : Q (.bl (bs.all id)) H) : rAll K [.ref p] H Q := ⟨p, bs, rfl, hs, h⟩
theorem r_enum {te : TE} {σ : St} {R : It → Hp → Prop} (h : te σ H fun x H1 => ∃ a, x = .ref a ∧ (∃ xs, SqL K H1 a xs) ∧ R (Ite K a) H1) : iEnum K te σ H R := h
end
/-! ### rows of ints -/
/-- a list of lists of ints -/
noncomputable def RowsAt (K : PySem.W.Frag) (H : Hp) (a : Addr) (rows : List (List Int)) : Prop := ∃ bs : List Addr, SqL K H a (bs.map V.ref) ∧ Paired (fun r b => SqL K H b (r.map V.int)) rows bs
theorem Same.rows {K : PySem.W.Frag} {H H' : Hp} {a : Addr} {rows : List (List Int)} (e : Same H H') (h : RowsAt K H a rows) : RowsAt K H' a rows := by
  obtain ⟨bs, h1, h2⟩ := h
  exact ⟨bs, e.seq h1, Paired.mapP h2 fun _ _ q => e.seq q⟩
theorem dat_all_rows {K : PySem.W.Frag} {H : Hp} : ∀ {rows : List (List Int)} {bs : List Addr}, Paired (fun r b => SqL K H b (r.map V.int)) rows bs → DatAll K H (bs.map V.ref) (rows.map dInts)
  | _, _, .nil => .nil
  | _, _, .cons h t => .cons (dat_list h) (dat_all_rows t)
theorem RowsAt.dat {K : PySem.W.Frag} {H : Hp} {a : Addr} {rows : List (List Int)} (h : RowsAt K H a rows) : DatIs K H (.ref a) (dRows rows) := by
  obtain ⟨bs, h1, h2⟩ := h
  exact .lst h1 (dat_all_rows h2)
theorem paired_at' {α β : Type} {F : α → β → Prop} : ∀ {xs : List α} {ys : List β} {i : Nat} {y : β}, Paired F xs ys → ys[i]? = some y → ∃ x, xs[i]? = some x ∧ F x y
  | _, _, _, _, .nil, e => by simp at e
  | _, _, 0, _, .cons h _, e => by simp at e; subst e; exact ⟨_, rfl, h⟩
  | _, _, i + 1, _, .cons _ t, e => by simpa using paired_at' t (by simpa using e)
end L2
/-! ### list(reversed(xs)) -/
namespace L2
open PySem PySem.Spec PyProof.Rows
section
variable {prog : Program} {w : World} {A : Around} {E : Value → Shared → Prop} {s : Shared}
end
theorem vals_of_get : ∀ {xs : List V} {us : List Value}, xs.length = us.length → (∀ (i : Nat) (x : V) (u : Value), xs[i]? = some x → us[i]? = some u → RelV x u) → Vals xs us
  | [], [], _, _ => .nil
  | x :: r, u :: q, hl, h => .cons (h 0 x u rfl rfl) (vals_of_get (by simpa using hl) fun i y w e e' => h (i + 1) y w (by simpa using e) (by simpa using e'))
end L2
/-! ### what is new by its facts -/
namespace L2
open PySem PySem.Spec PyProof.Rows
noncomputable def rInt1 : List V → Hp → VK → Prop := fun xs H Q => (∃ i, xs = [.int i] ∧ Q (.int i) H) ∨ ∃ k, xs = [.bl k] ∧ Q (.int (if k then 1 else 0)) H
theorem call_intI {X : Cx} : CallR X (.type "int") rInt1 := call_int1
theorem r_intB {k : Bool} {H : Hp} {Q : VK} (h : Q (.int (if k then 1 else 0)) H) : rInt1 [.bl k] H Q := .inr ⟨k, rfl, h⟩
section
variable {K : PySem.W.Frag} {D : Ends} {σ : St} {H : Hp} {Q : VK} {te ta tb : TE} {tl : TA} {xs : List V} {i j : Int}
noncomputable def newL (xs : List V) (H : Hp) (Q : VK) : Prop := xs.length ≤ sizeLine ∧ ∀ p, H p = none → Q (.ref p) (upd H p (.lst xs))
noncomputable def newT (xs : List V) (H : Hp) (Q : VK) : Prop := xs.length ≤ sizeLine ∧ ∀ p, H p = none → Q (.ref p) (upd H p (.tup xs))
theorem r_lstN (h : tl σ H fun xs H1 => newL xs H1 Q) : tLst tl σ H Q := h
theorem r_tupN (h : tl σ H fun xs H1 => newT xs H1 Q) : tTup tl σ H Q := h
theorem r_newL (hz : xs.length ≤ sizeLine) (h : ∀ p H2, H p = none → Same H H2 → H2 p = some (.lst xs) → Q (.ref p) H2) : newL xs H Q := ⟨hz, fun p hp => h p _ hp (Same.updN hp) upd_same⟩
theorem r_newT (hz : xs.length ≤ sizeLine) (h : ∀ p H2, H p = none → Same H H2 → H2 p = some (.tup xs) → Q (.ref p) H2) : newT xs H Q := ⟨hz, fun p hp => h p _ hp (Same.updN hp) upd_same⟩
theorem r_slLN {a : Addr} {lo hi : Option Int} (hs : SqL K H a xs) (h : ∀ p H2, H p = none → Same H H2 → H2 p = some (.lst (cutV xs lo hi)) → Q (.ref p) H2) : rSlL K (.ref a) lo hi H Q := ⟨a, xs, rfl, hs, fun p hp => h p _ hp (Same.updN hp) upd_same⟩
theorem r_listOfN {p : Addr} (hs : SqL K H p xs) (h : ∀ l H2, H l = none → Same H H2 → H2 l = some (.lst xs) → Q (.ref l) H2) : rListOf K [.ref p] H Q := ⟨p, xs, rfl, .inl hs, fun l hl => h l _ hl (Same.updN hl) upd_same⟩
theorem r_catN {l b : Addr} {ys : List V} (h1 : H l = some (.lst xs)) (h2 : H b = some (.lst ys)) (hz : xs.length + ys.length ≤ sizeLine) (h : ∀ p H2, H p = none → Same H H2 → H2 p = some (.lst (xs ++ ys)) → Q (.ref p) H2) : rCat (.ref l) (.ref b) H Q :=
  ⟨l, b, xs, ys, rfl, rfl, h1, h2, hz, fun p hp => h p _ hp (Same.updN hp) upd_same⟩
theorem r_ixN {p : Addr} {v : V} (hs : SqL K H p xs) (h0 : 0 ≤ i) (ha : xs[i.toNat]? = some v) (h : Q v H) : rIxL K (.ref p) (.int i) H Q := ⟨p, xs, i, v, rfl, rfl, hs, by
  have e : ((i.toNat : Nat) : Int) = i := Int.toNat_of_nonneg h0
  rw [← e]
  exact atI_nat ha, h⟩
theorem r_asgT {n : Nat} {g : TGs} (h : te σ H fun x H1 => gTup K n g x σ H1 D.nx) : tAsg te (gTup K n g) D σ H := h
theorem r_appendN {l : Addr} {y : V} (hp : H l = some (.lst xs)) (hz : xs.length < sizeLine) (h : Q .non (upd H l (.lst (xs ++ [y])))) : rAppend (.ref l) [y] H Q := ⟨l, xs, y, rfl, rfl, hp, hz, h⟩
theorem tyL {p : Addr} (hp : H p = some (.lst xs)) : tyV K "list" (.ref p) H := .inl ⟨rfl, _, SqL.of hp⟩
end
section
variable {A B : Prop} {c : Prop} [Decidable c]
theorem iteP (hc : c) (h : A) : if decide c = true then A else B := by rw [decide_eq_true hc]; exact iteT h
theorem iteN (hc : ¬ c) (h : B) : if decide c = true then A else B := by rw [decide_eq_false hc]; exact iteF h
theorem iteNP (hc : ¬ c) (h : A) : if (!decide c) = true then A else B := by rw [decide_eq_false hc]; exact iteT h
theorem iteNT (h : B) : if (!true) = true then A else B := iteF h
theorem iteNF (h : A) : if (!false) = true then A else B := iteT h
theorem iteD (h1 : c → A) (h2 : ¬ c → B) : if decide c = true then A else B := ite2 (fun h => h1 (of_decide_eq_true h)) (fun h => h2 fun z => h (decide_eq_true z))
end
theorem cut_take (ns : List Int) (m : Nat) : cutV (ns.map V.int) none (some (m : Int)) = (ns.take m).map V.int := by
  unfold cutV
  rw [HT.sIx_none, HT.sIx_nat, List.length_map, Nat.sub_zero, List.drop_zero, List.map_take]
  rcases Nat.le_total m ns.length with h | h
  · rw [Nat.min_eq_left h]
  · rw [Nat.min_eq_right h, List.take_of_length_le (by simp), List.take_of_length_le (by simpa using h)]
theorem cutA_drop {α : Type} (f : α → V) (xs : List α) (m : Nat) : cutV (xs.map f) (some (m : Int)) none = (xs.drop m).map f := by
  unfold cutV
  rw [HT.sIx_none, HT.sIx_nat, List.length_map, List.map_drop]
  rcases Nat.le_total m xs.length with h | h
  · rw [Nat.min_eq_left h, List.take_of_length_le (by simp)]
  · rw [Nat.min_eq_right h, List.drop_of_length_le (by simp), List.drop_of_length_le (by simpa using h)]
    simp
theorem cutA_mid {α : Type} (f : α → V) (xs : List α) (m k : Nat) : cutV (xs.map f) (some (m : Int)) (some (k : Int)) = ((xs.drop m).take (k - m)).map f := by
  unfold cutV
  rw [HT.sIx_nat, HT.sIx_nat, List.length_map, List.map_take, List.map_drop]
  rcases Nat.le_total m xs.length with h | h
  · rw [Nat.min_eq_left h]
    rcases Nat.le_total k xs.length with h' | h'
    · rw [Nat.min_eq_left h']
    · rw [Nat.min_eq_right h', List.take_of_length_le (by simp), List.take_of_length_le (by simp; omega)]
  · rw [Nat.min_eq_right h, List.drop_of_length_le (by simp), List.drop_of_length_le (by simpa using h)]
    simp
theorem line64 : (1000 : Nat) ≤ sizeLine := Nat.le_of_lt (small1000 (Nat.le_refl _))
end L2
/-! ### data without truths and dicts: any two of them may be compared -/
namespace L2
open PySem PySem.Spec PyProof.Rows
mutual
noncomputable def nice : PyData → Bool
  | .none => true
  | .bool _ => false
  | .int _ => true
  | .str x => PyData.strOk x
  | .list xs => niceAll xs
  | .tuple xs => niceAll xs
  | .dict _ => false
noncomputable def niceAll : List PyData → Bool
  | [] => true
  | x :: xs => nice x && niceAll xs
end
mutual
theorem nice_lay : ∀ d : PyData, nice d = true → d.canLay0 = true
  | .none, _ => by simp [PyData.canLay0]
  | .bool _, h => by simp [nice] at h
  | .int _, _ => by simp [PyData.canLay0]
  | .str x, h => by rw [PyData.canLay0]; rw [nice] at h; exact h
  | .list xs, h => by rw [PyData.canLay0]; exact nice_layAll xs (by rw [nice] at h; exact h)
  | .tuple xs, h => by rw [PyData.canLay0]; exact nice_layAll xs (by rw [nice] at h; exact h)
  | .dict _, h => by simp [nice] at h
theorem nice_layAll : ∀ ds : List PyData, niceAll ds = true → PyData.canLayAll0 ds = true
  | [], _ => by simp [PyData.canLayAll0]
  | x :: xs, h => by
    rw [niceAll, Bool.and_eq_true] at h
    rw [PyData.canLayAll0, nice_lay x h.1, nice_layAll xs h.2]
    rfl
end
mutual
theorem nice_mix : ∀ d e : PyData, nice d = true → nice e = true → SeqAt.noMix d e = true
  | .list xs, .list ys, h, h' => by rw [SeqAt.noMix]; exact nice_mixAll xs ys (by rw [nice] at h; exact h) (by rw [nice] at h'; exact h')
  | .tuple xs, .tuple ys, h, h' => by rw [SeqAt.noMix]; exact nice_mixAll xs ys (by rw [nice] at h; exact h) (by rw [nice] at h'; exact h')
  | .bool _, _, h, _ => by simp [nice] at h
  | .dict _, _, h, _ => by simp [nice] at h
  | .none, .none, _, _ | .none, .int _, _, _ | .none, .str _, _, _ | .none, .list _, _, _ | .none, .tuple _, _, _ => by simp [SeqAt.noMix]
  | .int _, .none, _, _ | .int _, .int _, _, _ | .int _, .str _, _, _ | .int _, .list _, _, _ | .int _, .tuple _, _, _ => by simp [SeqAt.noMix]
  | .str _, .none, _, _ | .str _, .int _, _, _ | .str _, .str _, _, _ | .str _, .list _, _, _ | .str _, .tuple _, _, _ => by simp [SeqAt.noMix]
  | .none, .bool _, _, h' | .none, .dict _, _, h' | .int _, .bool _, _, h' | .int _, .dict _, _, h' | .str _, .bool _, _, h' | .str _, .dict _, _, h' => by simp [nice] at h'
  | .list _, .none, _, _ | .list _, .int _, _, _ | .list _, .str _, _, _ | .list _, .tuple _, _, _ => by simp [SeqAt.noMix]
  | .list _, .bool _, _, h' | .list _, .dict _, _, h' => by simp [nice] at h'
  | .tuple _, .none, _, _ | .tuple _, .int _, _, _ | .tuple _, .str _, _, _ | .tuple _, .list _, _, _ => by simp [SeqAt.noMix]
  | .tuple _, .bool _, _, h' | .tuple _, .dict _, _, h' => by simp [nice] at h'
theorem nice_mixAll : ∀ ds es : List PyData, niceAll ds = true → niceAll es = true → SeqAt.noMixAll ds es = true
  | [], [], _, _ => by simp [SeqAt.noMixAll]
  | [], _ :: _, _, _ => by simp [SeqAt.noMixAll]
  | _ :: _, [], _, _ => by simp [SeqAt.noMixAll]
  | x :: xs, y :: ys, h, h' => by
    rw [niceAll, Bool.and_eq_true] at h h'
    rw [SeqAt.noMixAll, nice_mix x y h.1 h'.1, nice_mixAll xs ys h.2 h'.2]
    rfl
end
/-- nice, and at most n deep -/
noncomputable def niceD (n : Nat) (d : PyData) : Prop := nice d = true ∧ d.depth ≤ n
theorem niceD.shaped {n : Nat} {d : PyData} (h : niceD n d) (hn : n ≤ 64) : SeqAt.shaped d = true := by
  unfold SeqAt.shaped
  rw [nice_lay d h.1, decide_eq_true (show d.depth ≤ 64 by have := h.2; omega)]
  rfl
theorem nd_all {n : Nat} : ∀ {ds : List PyData}, (∀ d ∈ ds, niceD n d) → niceAll ds = true ∧ PyData.depthAll ds ≤ n
  | [], _ => by simp [niceAll, PyData.depthAll]
  | x :: xs, h => by
    obtain ⟨h1, h2⟩ := h x List.mem_cons_self
    obtain ⟨h3, h4⟩ := nd_all fun y hy => h y (List.mem_cons_of_mem _ hy)
    rw [niceAll, h1, h3, PyData.depthAll]
    exact ⟨rfl, by omega⟩
theorem nd_list {n : Nat} {ds : List PyData} (h : ∀ d ∈ ds, niceD n d) : niceD (n + 1) (.list ds) := by
  obtain ⟨h1, h2⟩ := nd_all h
  exact ⟨by rw [nice]; exact h1, by rw [PyData.depth]; omega⟩
theorem nd_tuple {n : Nat} {ds : List PyData} (h : ∀ d ∈ ds, niceD n d) : niceD (n + 1) (.tuple ds) := by
  obtain ⟨h1, h2⟩ := nd_all h
  exact ⟨by rw [nice]; exact h1, by rw [PyData.depth]; omega⟩
theorem nd_int {n : Nat} (i : Int) : niceD n (.int i) := ⟨by simp [nice], by simp [PyData.depth]⟩
theorem nd_ints {n : Nat} (ns : List Int) : niceD (n + 1) (dInts ns) := nd_list fun d hd => by
  obtain ⟨i, _, e⟩ := List.mem_map.mp hd
  rw [← e]
  exact nd_int i
theorem nd_rows {n : Nat} (rows : List (List Int)) : niceD (n + 2) (dRows rows) := nd_list fun d hd => by
  obtain ⟨r, _, e⟩ := List.mem_map.mp hd
  rw [← e]
  exact nd_ints r
theorem same_ff {d e : PyData} (h : d ≠ e) : same d e = false := by
  cases z : same d e with
  | false => rfl
  | true => exact absurd (same_iff.mp z) h
section
variable {K : PySem.W.Frag} {H : Hp} {Q : VK} {x y : V} {d e : PyData} {n : Nat}
theorem r_eqDD (h1 : DatIs K H x d) (h2 : DatIs K H y e) (hd : niceD n d) (he : niceD n e) (hn : n ≤ 64) (h : Q (.bl (same d e)) H) : rEqD K false x y H Q :=
  ⟨d, e, h1, h2, hd.shaped hn, he.shaped hn, nice_mix d e hd.1 he.1, by rw [Bool.bne_false]; exact h⟩
theorem r_neDD (h1 : DatIs K H x d) (h2 : DatIs K H y e) (hd : niceD n d) (he : niceD n e) (hn : n ≤ 64) (h : Q (.bl (!same d e)) H) : rEqD K true x y H Q :=
  ⟨d, e, h1, h2, hd.shaped hn, he.shaped hn, nice_mix d e hd.1 he.1, by rw [Bool.bne_true]; exact h⟩
/-- both are the same -/
theorem r_eqS (h1 : DatIs K H x d) (h2 : DatIs K H y d) (hd : niceD n d) (hn : n ≤ 64) (h : Q (.bl true) H) : rEqD K false x y H Q := r_eqDD h1 h2 hd hd hn (by rw [same_self]; exact h)
theorem r_neS (h1 : DatIs K H x d) (h2 : DatIs K H y d) (hd : niceD n d) (hn : n ≤ 64) (h : Q (.bl false) H) : rEqD K true x y H Q := r_neDD h1 h2 hd hd hn (by rw [same_self]; exact h)
end
/-! ### xs[::-1] -/
section
variable {X : Cx}
end
end L2
/-! ### list.index of an int that is there -/
namespace L2
open PySem PySem.Spec PyProof.Rows
section
variable {X : Cx}
end
end L2
/-! ### dead ends; tuples walked; the list of a range; zip of three -/
namespace L2
open PySem PySem.Spec PyProof.Rows
section
variable {X : Cx}
theorem r_iTup {K : PySem.W.Frag} {te : TE} {σ : St} {H : Hp} {R : It → Hp → Prop} (h : te σ H fun x H1 => ∃ a, x = .ref a ∧ (∃ xs, SqT K H1 a xs) ∧ R (Itt K a) H1) : iTup K te σ H R := h
/-- a list as a test -/
noncomputable def tBL (K : PySem.W.Frag) (t : TE) : TT := fun σ H Q => t σ H fun x H1 => ∃ a xs, x = .ref a ∧ SqL K H1 a xs ∧ Q (!xs.isEmpty) H1
theorem pt_lst {e : Expr} {t : TE} (h : PE X e t) (he : ∀ whole, isTrue e X.env whole = (do let v ← whole; standAt e.pos; holding [v] (truthy v)) := by intro _; rfl) : PT X e (tBL X.K t) := by
  intro pins s σ H Q I hw
  refine isTrue_plain (thn (h pins s σ H _ I hw) fun v s1 ⟨x, H1, I1, r1, q1⟩ => ?_) (he _)
  obtain ⟨a, xs, rfl, hS, q⟩ := q1
  cases r1
  obtain ⟨its, rv, pl, hz⟩ := I1.list hS
  have hl := rv.length
  have hs : its.length ≤ sizeLine := by rw [← hl]; exact hz
  refine wpAny_truthy_list pl.isList (by rw [List.size_toArray]; have : (sizeLine : Int) < 2 ^ 63 := by decide
                                         omega) ?_
  refine ⟨H1, I1.tok _, ?_⟩
  have e1 : its.toArray.isEmpty = xs.isEmpty := by cases xs <;> cases its <;> simp_all
  rw [e1]
  exact q
theorem r_tBL {K : PySem.W.Frag} {t : TE} {σ : St} {H : Hp} {Q : Bool → Hp → Prop} (h : t σ H fun x H1 => ∃ a xs, x = .ref a ∧ SqL K H1 a xs ∧ Q (!xs.isEmpty) H1) : tBL K t σ H Q := h
noncomputable def rngL : List V → Hp → VK → Prop := fun vs H Q => ∃ n : Nat, vs = [.int n] ∧ n ≤ 1000 ∧ ∀ l, H l = none → Q (.ref l) (upd H l (.lst ((List.range n).map fun i : Nat => V.int (i : Int))))
noncomputable def tListRng (ta : TA) : TE := fun σ H Q => ta σ H fun vs H1 => rngL vs H1 Q
theorem r_listRng {ta : TA} {σ : St} {H : Hp} {Q : VK} (h : ta σ H fun vs H1 => rngL vs H1 Q) : tListRng ta σ H Q := h
theorem r_rngL {H : Hp} {Q : VK} {n : Nat} (hn : n ≤ 1000) (h : ∀ l H2, H l = none → Same H H2 → H2 l = some (.lst ((List.range n).map fun i : Nat => V.int (i : Int))) → Q (.ref l) H2) : rngL [.int n] H Q := ⟨n, rfl, hn, fun l hl => h l _ hl (Same.updN hl) upd_same⟩
theorem pe_listRange {a : Expr} {ta : TA} {p p2 pos pos2 : Pos} (hc : X.calm = true) (hg : Gl X "list") (hm : X.mg "list" = none) (hg2 : Gl X "range") (hm2 : X.mg "range" = none) (ha : PA X [a] ta)
    (hs : starEach [.Call (.Name "range" p2) [a] [] pos2] X.env = [(false, eval (.Call (.Name "range" p2) [a] [] pos2) X.env)] := by rfl) (hs2 : starEach [a] X.env = [(false, eval a X.env)] := by rfl) :
    PE X (.Call (.Name "list" p) [.Call (.Name "range" p2) [a] [] pos2] [] pos) (tListRng ta) := by
  intro pins s σ H Q I h
  refine Call_ (ld_blt I hg hm boot_list (PyProof.Rows.callWith_type1 ?_ hs rfl))
  rw [hs]
  show wpAny _ _ (spliced ((false, eval (.Call (.Name "range" p2) [a] [] pos2) X.env) :: [])) _ _ s
  refine Calls.spliced_cons (Call_ (ld_blt I hg2 hm2 boot_range (PyProof.Rows.callWith_type1 (thn (ha pos2 pins s σ H _ I h) fun us s1 ⟨vs, H1, I1, r1, q1⟩ => ?_) hs2 rfl)))
  obtain ⟨n, e, hn, q⟩ := q1
  subst e
  cases r1 with
  | cons r rr =>
    cases rr
    obtain ⟨t, rfl⟩ := r
    refine call_range_1 (Calls.spliced_nil ?_)
    refine call_list_range (n := n) (I1.ok.hd hc) (IsRange.new ..) (small_one (by omega) (by omega) (by omega) (by omega)) (by rw [rangeSize_one]; split <;> omega) (by omega) fun h' tk acc' c' hk hD hacc => ?_
    have keep : ∀ b o, s1.heap.get? b = some o → h'.get? b = some o := fun b o e => hk b o (Heap.get?_push_of_some _ e)
    have hle : ∀ ob : Obj, s1.heap.objs.size ≤ (s1.heap.push ob).objs.size := fun ob => by rw [Heap.size_push]; exact Nat.le_succ _
    refine ⟨.ref _, _, I1.laid (t' := tk) keep (hle _) (show ObjOk X.prog X.w _ h' _ (.lst ((List.range n).map fun i : Nat => V.int (i : Int))) from ⟨by rw [List.length_map, List.length_range]; exact Nat.le_trans hn line64, acc'.toList, c', vals_of_get ?_ ?_, ?_⟩), rfl, q _ (I1.hok.fresh (hle _))⟩
    · have e1 : acc'.size = n := hacc.1
      rw [List.length_map, List.length_range, Array.length_toList, e1]
    · intro i y w e1 e2
      obtain ⟨t', e3⟩ := hacc.2 i w (by rw [← Array.getElem?_toList]; exact e2)
      have hi : i < n := by have z := (List.getElem?_eq_some_iff.mp e1).1; rwa [List.length_map, List.length_range] at z
      have e4 : y = V.int (i : Int) := by simp [hi] at e1; exact e1.symm
      rw [e3, e4]
      exact ⟨t', by simp⟩
    · rw [Array.toArray_toList]; exact hD
end
end L2
/-! ### zip of three lists -/
namespace L2
open PySem PySem.Spec PyProof.Rows
section
variable {prog : Program} {w : World} {A : Around} {E : Value → Shared → Prop} {s : Shared}
end
section
variable {prog : Program} {w : World} {A : Around} {E : Value → Shared → Prop} {s : Shared}
end
section
variable {X : Cx}
end
end L2
/-! ### min of a list of tuples of whole numbers: one of them -/
namespace L2
open PySem PySem.Spec PyProof.Rows
/-- a comparison that may look at what the walk keeps -/
noncomputable def CmpH (prog : Program) (w : World) (A : Around) (P : Nat → Value → Prop) (St : Nat → Heap → Prop) (bt : Nat → Nat → Bool) : Prop :=
  ∀ i j k vi vj (s : Shared) (Q : Value → Shared → Prop) (E : Value → Shared → Prop), P i vi → P j vj → St k s.heap → Q (.bool (bt i j)) s → wpAny (model prog w) A (richCompare .Lt vi vj) Q E s
section
variable {prog : Program} {w : World} {A : Around} {R : Result → Shared → Prop} {I : Addr} {fp wr : List Addr} {n : Nat} {P : Nat → Value → Prop} {St : Nat → Heap → Prop}
theorem minH_loop (W : Walks prog w A.in1 I fp wr n P St) (bt : Nat → Nat → Bool) (hcmp : CmpH prog w A.in1 P St bt) (S : Addr) (hSf : S ∉ fp) :
    ∀ (k j : Nat) (s : Shared) (vb : Value) (c : Nat), n - (j + 1) = k → j + 1 ≤ n → St (j + 1) s.heap → P (argBest bt j) vb → s.heap.get? S = some { cls := .type "list", dict := none, data := .seq #[vb, vb] c, slots := #[] } →
    (∀ v h' tk, P (argBest bt (n - 1)) v → (∀ b o, b ∉ wr → b ≠ S → s.heap.get? b = some o → h'.get? b = some o) → R (.ok (.ret v)) { s with heap := h', toks := tk }) → codeAny (model prog w) A (.builtin "min.loop" ⟨[.ref I, .none, .ref S], []⟩) R s := by
  have hSw : S ∉ wr := fun h => hSf (W.sub _ h)
  have hname : (toString "min" ++ toString ".loop" : String) = "min.loop" := by decide
  intro k ; induction k with
  | zero =>
    intro j s vb c hk hj hst hPb hS hR ; have hin : j + 1 = n := by omega
    refine codeAny_builtin PySem.F.entry_min_loop ?_ ; rw [Around.under_plainId PySem.F.plain_min_loop _]
    show wpAny _ A.in1 (seqItems? (.ref S) >>= fun _ => _) _ _ s
    refine wpAny_bind (wpAny_seqItems hS rfl ?_) ; show wpAny _ A.in1 (tryCatch (pyNext (.ref I)) _ >>= fun _ => _) _ _ s
    refine wpAny_bind (wpAny_tryCatch (W.done s _ _ (hin ▸ hst) fun h' tk hk' => ?_)) ; have hS' := hk' S _ hSw hS
    show wpAny _ A.in1 (updateSeq S (fun _ => #[]) >>= fun _ => _) _ _ _
    refine wpAny_bind ?_ ; refine wpAny_updateSeq hS' rfl (wpAny_bind (wpAny_letGo (wpAny_pure ?_)))
    exact hR vb _ tk (by rw [← hin]; exact hPb) fun b o hbw hbS e => (Heap.get?_update_other _ _ (Ne.symm hbS)).trans (hk' b o hbw e)
  | succ k ih =>
    intro j s vb c hk hj hst hPb hS hR ; have hlt : j + 1 < n := by omega
    refine codeAny_builtin PySem.F.entry_min_loop ?_ ; rw [Around.under_plainId PySem.F.plain_min_loop _]
    show wpAny _ A.in1 (seqItems? (.ref S) >>= fun _ => _) _ _ s
    refine wpAny_bind (wpAny_seqItems hS rfl ?_) ; show wpAny _ A.in1 (tryCatch (pyNext (.ref I)) _ >>= fun _ => _) _ _ s
    refine wpAny_bind (wpAny_tryCatch (W.item (j + 1) s _ _ hlt hst fun v h' tk hP hst' hk' => ?_)) ; have hS' := hk' S _ hSw hS
    show wpAny _ A.in1 (tryCatch (holding [v, v] (richCompare .Lt v vb >>= fun _ => _)) _ >>= fun _ => _) _ _ _
    refine wpAny_bind (wpAny_tryCatch (wpAny_holding (wpAny_bind (hcmp (j + 1) (argBest bt j) (j + 1 + 1) v vb { s with heap := h', toks := tk } _ _ hP hPb hst' ?_))))
    refine wpAny_bind (wpAny_holding (wpAny_truthy_bool ?_)) ; refine wpAny_bind (wpAny_letGo (wpAny_pure ?_))
    cases hb : bt (j + 1) (argBest bt j) with
    | true =>
      simp only [if_true] ; refine wpAny_bind ?_ ; refine wpAny_updateSeq hS' rfl (wpAny_bind (wpAny_letGo ?_)) ; rw [hname]
      refine wpAny_pure ⟨plainId_quiet PySem.F.plain_min_loop _, ih (j + 1) _ v _ (by omega) hlt (W.frame _ _ _ hst' fun b hbf o e => ?_) (by simp only [argBest, hb, if_true]; exact hP) (Heap.get?_update_self _ hS' rfl) fun v' h'' tk'' hP' hk'' => ?_⟩
      · exact (Heap.get?_update_other _ _ (fun h : S = b => hSf (by rw [h]; exact hbf))).trans e
      · exact hR v' h'' tk'' hP' fun b o hbw hbS e => hk'' b o hbw hbS ((Heap.get?_update_other _ _ (Ne.symm hbS)).trans (hk' b o hbw e))
    | false =>
      simp only [Bool.false_eq_true, if_false] ; refine wpAny_bind (wpAny_letGo ?_) ; rw [hname]
      refine wpAny_pure ⟨plainId_quiet PySem.F.plain_min_loop _, ih (j + 1) _ vb c (by omega) hlt hst' (by simp only [argBest, hb, Bool.false_eq_true, if_false]; exact hPb) hS' fun v' h'' tk'' hP' hk'' => ?_⟩
      exact hR v' h'' tk'' hP' fun b o hbw hbS e => hk'' b o hbw hbS (hk' b o hbw e)
theorem minH_first (W : Walks prog w A.in1 I fp wr n P St) (bt : Nat → Nat → Bool) (hcmp : CmpH prog w A.in1 P St bt) (S : Addr) (hSf : S ∉ fp) (hn : 0 < n) {s : Shared} {c : Nat} (hst : St 0 s.heap) (hS : s.heap.get? S = some { cls := .type "list", dict := none, data := .seq #[] c, slots := #[] })
    (hR : ∀ v h' tk, P (argBest bt (n - 1)) v → (∀ b o, b ∉ wr → b ≠ S → s.heap.get? b = some o → h'.get? b = some o) → R (.ok (.ret v)) { s with heap := h', toks := tk }) : codeAny (model prog w) A (.builtin "min.loop" ⟨[.ref I, .none, .ref S], []⟩) R s := by
  have hSw : S ∉ wr := fun h => hSf (W.sub _ h)
  have hname : (toString "min" ++ toString ".loop" : String) = "min.loop" := by decide
  refine codeAny_builtin PySem.F.entry_min_loop ?_ ; rw [Around.under_plainId PySem.F.plain_min_loop _]
  show wpAny _ A.in1 (seqItems? (.ref S) >>= fun _ => _) _ _ s
  refine wpAny_bind (wpAny_seqItems hS rfl ?_) ; show wpAny _ A.in1 (tryCatch (pyNext (.ref I)) _ >>= fun _ => _) _ _ s
  refine wpAny_bind (wpAny_tryCatch (W.item 0 s _ _ hn hst fun v h' tk hP hst' hk' => ?_)) ; have hS' := hk' S _ hSw hS
  show wpAny _ A.in1 (updateSeq S (fun _ => #[v, v]) >>= fun _ => _) _ _ _
  refine wpAny_bind ?_ ; refine wpAny_updateSeq hS' rfl ?_ ; rw [hname]
  refine wpAny_pure ⟨plainId_quiet PySem.F.plain_min_loop _, minH_loop W bt hcmp S hSf _ 0 _ v _ rfl hn (W.frame _ _ _ hst' fun b hbf o e => ?_) hP (Heap.get?_update_self _ hS' rfl) fun v' h'' tk'' hP' hk'' => ?_⟩
  · exact (Heap.get?_update_other _ _ (fun h : S = b => hSf (by rw [h]; exact hbf))).trans e
  · exact hR v' h'' tk'' hP' fun b o hbw hbS e => hk'' b o hbw hbS ((Heap.get?_update_other _ _ (Ne.symm hbS)).trans (hk' b o hbw e))
end
section
variable {prog : Program} {w : World} {A : Around} {E : Value → Shared → Prop} {s : Shared}
theorem call_minH {x : Value} {Q : Value → Shared → Prop} (h : wpAny (model prog w) A.in1 (pyIter x) (fun it s₂ => ∃ I fp wr n P St bt, it = .ref I ∧ Walks prog w A.in1 I fp wr n P St ∧ St 0 s₂.heap ∧ (∀ b ∈ fp, b < s₂.heap.objs.size) ∧ 0 < n ∧ CmpH prog w A.in1 P St bt ∧
      ∀ v h' tk, P (argBest bt (n - 1)) v → (∀ b o, b ∉ wr → s₂.heap.get? b = some o → h'.get? b = some o) → Q v { s₂ with heap := h', toks := tk }) E s) : wpAny (model prog w) A (call (.builtin "min") [x]) Q E s := by
  have hname : (toString "min" ++ toString ".loop" : String) = "min.loop" := by decide
  refine call_function_tree PySem.F.kind_min PySem.F.plain_min PySem.F.entry_min (PySem.F.args_min1 _) ?_
  show wpAny _ A.in1 (Builtin.Builtins.bindParams "min" ["key", "default"] 0 ⟨[], []⟩ >>= fun _ => _) _ _ s
  refine wpAny_bind (wpAny_of_eq (show Builtin.Builtins.bindParams "min" ["key", "default"] 0 ⟨[], []⟩ = pure [none, none] from rfl) ?_) ; refine wpAny_bind (wpAny_pure ?_)
  refine wpAny_bind (wpAny_mono h (fun it s₂ h₂ => ?_) fun _ _ e => e) ; obtain ⟨I, fp, wr, n, P, St, bt, rfl, W, hst, hfp, hn, hcmp, hQ⟩ := h₂
  refine wpAny_bind (wpAny_newObj_type ?_) ; have hSf : s₂.heap.objs.size ∉ fp := fun hm => Nat.lt_irrefl _ (hfp _ hm)
  rw [hname]
  refine wpAny_pure ⟨plainId_quiet PySem.F.plain_min_loop _, minH_first W bt hcmp s₂.heap.objs.size hSf hn (W.frame _ _ _ hst fun b _ o e => Heap.get?_push_of_some _ e) (Heap.get?_push_size _ rfl) fun v h' tk hP hk => ?_⟩
  exact hQ v h' tk hP fun b o hbw e => hk b o hbw (Nat.ne_of_lt (Heap.lt_size e)) (Heap.get?_push_of_some _ e)
/-- a list walked, with records beside it that stay -/
theorem Walks.listT (hh : A.handled = none) (I ax : Addr) (hne : ax ≠ I) (items : Array Value) (T : List (Addr × Obj)) (hT : ∀ p ∈ T, p.1 ≠ I) :
    Walks prog w A I ([I, ax] ++ T.map (·.1)) [I] items.size (fun i v => items[i]? = some v) (fun i h => (h.IsListIter I ax i ∧ h.IsList ax items) ∧ ∀ p ∈ T, h.get? p.1 = some p.2) where
  sub := fun b hb => by simp at hb; simp [hb]
  frame := fun i h h' st hk => ⟨(Walks.list (prog := prog) (w := w) hh I ax hne items).frame i h h' st.1 fun b hb o e => hk b (List.mem_append_left _ hb) o e, fun p hp => hk p.1 (List.mem_append_right _ (List.mem_map.mpr ⟨p, hp, rfl⟩)) _ (st.2 p hp)⟩
  item := fun i s Q E hi st hQ => (Walks.list hh I ax hne items).item i s Q E hi st.1 fun v h' tk hP hst hk => hQ v h' tk hP ⟨hst, fun p hp => hk p.1 p.2 (by simp [hT p hp]) (st.2 p hp)⟩ hk
  done := fun s Q E st hQ => (Walks.list hh I ax hne items).done s Q E st.1 hQ
  self := fun i s Q E st hQ => (Walks.list hh I ax hne items).self i s Q E st.1 hQ
end
section
variable {X : Cx}
end
end L2
/-! ### defs by name, their promises -/
namespace L2
open PySem PySem.Spec PyProof.Rows
/-- a def of the text may be called by its name, with this promise -/
structure Cal (P : Program) (w : World) (K : PySem.W.Frag) (mg : Str → Option Value) (base : Heap) (k : Nat) (x : Str) (ps : List Str) (sp : Sp) : Prop where
  ex : ∃ a fd, mg x = some (.ref a) ∧ PySem.W.keepIn K (.ref a) = true ∧ Binds K fd ps [] ∧ FnOk P w K mg base CX0 k a fd ps sp
/-- a def of the text stands under its name -/
structure FunIn (K : PySem.W.Frag) (mg : Str → Option Value) (x : Str) (st : Stmt) (ps : List Str) : Prop where
  ex : ∃ a fd, mg x = some (.ref a) ∧ Fun K x x st a fd ∧ ∀ us : List Value, us.length = ps.length → bindArgs fd ⟨us, []⟩ = pure (ps.zip us)
section
variable {P : Program} {w : World} {K : PySem.W.Frag} {mg : Str → Option Value} {base : Heap}
theorem FunIn.cal {x : Str} {st : Stmt} {ps N : List Str} {rd : TS} {k : Nat} {sp : Sp} (F : FunIn K mg x st ps) (S : FnScope N ps (defScope st)) (len : ∀ vs H Q E, sp vs H Q E → vs.length = ps.length)
    (hb : ∀ (f : Addr) (cdv : Value) (A : Around) (outer : List Env) (s : Shared) (H : Hp) (E : XK), Room k (A.deeper (envOfC x (defScope st) s.heap.objs.size f cdv)) → PSs (cxOf CX0 P w K mg base N x (defScope st) f cdv A outer s H E).nox (defBody st) rd)
    (hr : ∀ vs H Q E, sp vs H Q E → rd { nx := fun _ H' => Q .non H', rt := Q } (start N vs) H) : Cal P w K mg base (k + 1) x ps sp := by
  obtain ⟨a, fd, hm, hF, hbd⟩ := F.ex
  exact ⟨a, fd, hm, hF.kp, .all hbd, hF.ok S len fun cdv A outer s H vs Q E room h => ⟨rd, hb a cdv A outer s H E room, hr vs H Q E h⟩⟩
/-- the law's own def, at the address that the head gives -/
theorem FunIn.law {x : Str} {st : Stmt} {N : List Str} {y : Str} {rd : TS} {k : Nat} {sp : Sp} {fa : Addr} (F : FunIn K mg x st [y]) (hfa : mg x = some (.ref fa)) (S : FnScope N [y] (defScope st)) (len : ∀ vs H Q E, sp vs H Q E → vs.length = 1)
    (hb : ∀ (base : Heap) (f : Addr) (cdv : Value) (A : Around) (outer : List Env) (s : Shared) (H : Hp) (E : XK), Room k (A.deeper (envOfC x (defScope st) s.heap.objs.size f cdv)) → PSs (cxOf CX0 P w K mg base N x (defScope st) f cdv A outer s H E).nox (defBody st) rd)
    (hr : ∀ vs H Q E, sp vs H Q E → rd { nx := fun _ H' => Q .non H', rt := Q } (start N vs) H) :
    ∃ fd : FuncData, (∀ (s : Shared) (u : Value), BindsTo s fd ⟨[u], []⟩ [(y, u)]) ∧ ∀ base : Heap, FnOk P w K mg base CX0 (k + 1) fa fd [y] sp := by
  obtain ⟨a, fd, hm, hF, hbd⟩ := F.ex
  have e := hfa.symm.trans hm
  cases e
  exact ⟨fd, fun s u => .of_eq (hbd [u] rfl), fun base => hF.ok S len fun cdv A outer s H vs Q E room h => ⟨rd, hb base fa cdv A outer s H E room, hr vs H Q E h⟩⟩
theorem fun_in {h : Heap} {x : Str} {st : Stmt} {ps : List Str} {f : Addr} {oc : Value} {od an : Option Addr} {osl : Array (Option Value)} {kV doc pm cdv ct : Value} (X : K.In h) (G : h.Ns mainGlobals mg)
    (a4 : PySem.W.nsIn K mainGlobals x = some (some (.ref f))) (l4 : K.lookup f = some ⟨oc, od, .func (PySem.W.fnOf x x (defArgs st) (defBody st) (defScope st) .none kV doc pm an cdv ct), osl⟩)
    (c4 : PySem.W.codeIn K cdv x = true) (k4 : PySem.W.keepIn K (.ref f) = true)
    (hb : ∀ (kV doc pm : Value) (an : Option Addr) (cdv ct : Value) (us : List Value), us.length = ps.length → bindArgs (PySem.W.fnOf x x (defArgs st) (defBody st) (defScope st) .none kV doc pm an cdv ct) ⟨us, []⟩ = pure (ps.zip us)) : FunIn K mg x st ps :=
  ⟨f, _, PySem.W.mg_of X G a4, fun_mk l4 c4 k4, hb kV doc pm an cdv ct⟩
end
section
variable {X : Cx} {k : Nat} {ps : List Str} {sp : Sp} {x : Str} {p pos : Pos} {e : Expr} {es : List Expr} {t : TA}
/-- f(e, ..) -/
theorem pe_cal (C : Cal X.prog X.w X.K X.mg X.base k x ps sp) (hr : Room k X.A) (ha : PA X (e :: es) t) (hg : Gl X x := by rfl) (hdb : (x == ("__debug__" : Str)) = false := by decide)
    (he : starEach (e :: es) X.env = (false, eval e X.env) :: starEach es X.env := by rfl) (hpl : (backTo pos (starEach es X.env)).any (·.1) = false := by rfl) : PE X (.Call (.Name x p) (e :: es) [] pos) (tCall sp [] E0 t) := by
  obtain ⟨a, fd, hm, hk, hb, F⟩ := C.ex
  exact pe_call F hr hg hm hk hb .nil pass0 ha hdb he hpl
/-- len of a list -/
theorem mg_name {K : PySem.W.Frag} {mg : Str → Option Value} {h : Heap} {x : Str} (X : K.In h) (G : h.Ns mainGlobals mg) (z : PySem.W.nsIn K mainGlobals x = some none) : mg x = none := PySem.W.mg_none_of X G z
end
/-- a promise: so many arguments, and R -/
noncomputable def spOf (n : Nat) (R : List V → Hp → VK → Prop) : Sp := fun vs H Q _ => vs.length = n ∧ R vs H Q
theorem spOf_len {n : Nat} {R : List V → Hp → VK → Prop} {m : Nat} (e : n = m) : ∀ vs H Q E, spOf n R vs H Q E → vs.length = m := fun _ _ _ _ h => h.1.trans e
/-- law's promise: a list of at most 63 ints is handed in, True comes out -/
noncomputable def sp_law (K : PySem.W.Frag) : Sp := spOf 1 fun vs H Q => ∃ (a : Addr) (ns : List Int), vs = [.ref a] ∧ SqL K H a (ns.map V.int) ∧ ns.length ≤ 63 ∧ ∀ H', Q (.bl true) H'
theorem walk_law {l : PySem.W.OpenLaw} {k : Nat} {q : Program} {loose : List Str} {XP : (Str → Option Value) → Heap → Prop} {YP : World → Heap → Prop} {d : DefRec} {K : Params → PySem.W.Frag} (hn : l.most = some 63) (hdf : d.params.defaults = []) (hr : Room k callerA)
    (hY : ∀ (w : World) (h : Heap), YP w h → (K w.params).In h)
    (F : ∀ (w : World) (mg : Str → Option Value) (fa : Addr) (h : Heap), (K w.params).In h → h.Ns mainGlobals mg → mg d.name = some (.ref fa) →
      ∃ fd : FuncData, (∀ (s : Shared) (u : Value), BindsTo s fd ⟨[u], []⟩ [("script", u)]) ∧ ∀ base : Heap, FnOk l.prog w (K w.params) mg base CX0 k fa fd ["script"] (sp_law (K w.params))) :
    PySem.W.WalkO q loose XP YP l.row.toRowW d [] (fun f vs => PySem.call f vs) :=
  walk_of (n := 63) (k := k) (x := "script") (CX := fun _ => CX0) (sp := fun w => sp_law (K w.params)) hn (by decide) hdf hr hY
    (fun w mg fa h KX G e => let ⟨fd, h1, h2⟩ := F w mg fa h KX G e; ⟨fd, h1, fun base _ _ => h2 base⟩) (fun _ _ a ns hl _ hS => ⟨rfl, a, ns, rfl, hS, hl, fun _ => rfl⟩) fun _ _ _ _ _ z => z
end L2

/-! ### the sorting tree, for keys that all differ -/
namespace L2
open PySem PySem.W PyProof.Rows
section
variable {N : Nat} {lt : Nat → Nat → Bool} {cmp : Nat → Nat → (Bool → Shared → Prop) → Shared → Prop} {s : Shared}
end
end L2
/-! ### sorted, of a list of tuples of whole numbers that all differ -/
namespace L2
open PySem PySem.W PySem.Spec PyProof.Rows
theorem lex_irr : ∀ (a : List Int), HT.lexLt a a = false
  | [] => rfl
  | x :: a => by rw [HT.lexLt_cons, if_pos rfl]; exact lex_irr a
theorem lex_tr : ∀ (a b c : List Int), HT.lexLt a b = true → HT.lexLt b c = true → HT.lexLt a c = true
  | [], [], _, h, _ => by cases h
  | [], _ :: _, [], _, h => by cases h
  | [], _ :: _, _ :: _, _, _ => rfl
  | _ :: _, [], _, h, _ => by cases h
  | _ :: _, _ :: _, [], _, h => by cases h
  | x :: a, y :: b, z :: c, h1, h2 => by
    rw [HT.lexLt_cons] at *
    by_cases e1 : x = y
    · rw [if_pos e1] at h1
      by_cases e2 : y = z
      · rw [if_pos e2] at h2
        rw [if_pos (e1.trans e2)]
        exact lex_tr a b c h1 h2
      · rw [if_neg e2] at h2
        rw [if_neg (fun e => e2 (e1.symm.trans e))]
        have := of_decide_eq_true h2
        exact decide_eq_true (by omega)
    · rw [if_neg e1] at h1
      have l1 := of_decide_eq_true h1
      by_cases e2 : y = z
      · rw [if_neg (by omega)]
        exact decide_eq_true (by omega)
      · rw [if_neg e2] at h2
        have l2 := of_decide_eq_true h2
        rw [if_neg (by omega)]
        exact decide_eq_true (by omega)
theorem lex_tt : ∀ (a b : List Int), a ≠ b → HT.lexLt a b = false → HT.lexLt b a = true
  | [], [], h, _ => (h rfl).elim
  | [], _ :: _, _, h => by cases h
  | _ :: _, [], _, _ => rfl
  | x :: a, y :: b, h1, h2 => by
    rw [HT.lexLt_cons] at *
    by_cases e1 : x = y
    · rw [if_pos e1] at h2
      rw [if_pos e1.symm]
      exact lex_tt a b (fun e => h1 (by rw [e1, e])) h2
    · rw [if_neg e1] at h2
      rw [if_neg (Ne.symm e1)]
      have := of_decide_eq_false h2
      exact decide_eq_true (by omega)
section
variable {prog : Program} {w : World} {A : Around} {E : Value → Shared → Prop} {s : Shared}
end
end L2
namespace L2
open PySem PySem.W PySem.Spec PyProof.Rows
section
variable {prog : Program} {w : World} {A : Around} {E : Value → Shared → Prop} {s : Shared}
end
end L2
namespace L2
open PySem PySem.W PySem.Spec PyProof.Rows
section
variable {X : Cx}
end
end L2
namespace L2
open PySem PySem.Spec PyProof.Rows
section
variable {mp : List (Option Nat)} {g : TG} {tt : TT} {te : TE} {J : It} {P : Hp → Prop} {n : Nat} {f : Nat → St → St} {σ : St} {H : Hp} {Q : VK}
end
end L2
namespace L2
open PySem PySem.Spec PyProof.Rows
theorem best_lex (ns : Nat → List Int) : ∀ n j, j ≤ n → HT.lexLt (ns j) (ns (argBest (fun i j => HT.lexLt (ns i) (ns j)) n)) = false
  | 0, j, h => by
    have : j = 0 := by omega
    subst this
    exact lex_irr _
  | n + 1, j, h => by
    have ih := best_lex ns n
    simp only [argBest]
    generalize argBest (fun i j => HT.lexLt (ns i) (ns j)) n = b at *
    by_cases hb : HT.lexLt (ns (n + 1)) (ns b) = true
    · rw [if_pos hb]
      by_cases e : j = n + 1
      · rw [e]; exact lex_irr _
      · have h1 := ih j (by omega)
        cases h2 : HT.lexLt (ns j) (ns (n + 1)) with
        | false => rfl
        | true =>
          have := lex_tr _ _ _ h2 hb
          rw [h1] at this
          cases this
    · rw [if_neg hb]
      by_cases e : j = n + 1
      · rw [e]; simpa using hb
      · exact ih j (by omega)
section
variable {X : Cx}
end
end L2

/-! ### tuples of whole numbers and lists, one against the other -/
namespace L2
open PySem PySem.Spec PyProof.Rows
section
open PySem.SeqAt
open PySem.AutoSeq1 (wpAny_loadPart')
open PySem.MeetsSeq PySem.MeetsSeq2 PySem.MeetsSeq3
/-- x < y is r -/
noncomputable def LtAt (A : Around) (s : Shared) (x y : Value) (r : Bool) : Prop := ∀ (prog : Program) (w : World) (E : Value → Shared → Prop) (Q : Value → Shared → Prop), Q (.bool r) s → wpAny (model prog w) A (richCompare .Lt x y) Q E s
noncomputable def LexG (A : Around) (s : Shared) : List (Value × Value) → Bool → Prop
  | [], r => r = false
  | (x, y) :: rest, r => ∃ e, EqAt A s x y e ∧ (e = true → LexG A s rest r) ∧ (e = false → LtAt A s x y r)
theorem tuple_lt_gen (l b : Addr) (items items2 : Array Value) (n n2 : Nat) (dd dd2 : Option Addr) (sl sl2 : Array (Option Value)) (hz : items.size = items2.size) (r : Bool) :
    Meets (Builtin.«tuple.__lt__» ⟨[.ref l, .ref b], []⟩)
      (fun A R s => s.heap.get? l = some { cls := .type "tuple", dict := dd, data := .seq items n, slots := sl } ∧ s.heap.get? b = some { cls := .type "tuple", dict := dd2, data := .seq items2 n2, slots := sl2 } ∧
        LexG A.in1 s (items.toList.zip items2.toList) r ∧ R (.ok (.ret (.bool r))) s) :=
  .of_wp fun prog w A R s h => by
    obtain ⟨hp, g, d, tk, os⟩ := s ; obtain ⟨hl, hb, hg, h⟩ := h
    have f2 := AutoSeq1.sub_tuple_tuple
    wp_walk using wpAny_loadPart' hl, wpAny_loadPart' hb, wpAny_forIn_list _ (fun rest b s' => b.1 = none ∧ s' = ⟨hp, g, d, tk, os⟩ ∧ LexG A.in1 ⟨hp, g, d, tk, os⟩ rest r ∧ R (.ok (.ret (.bool r))) ⟨hp, g, d, tk, os⟩) _
    case turn =>
      rintro ⟨y, x⟩ rest b s' ⟨hb', rfl, ⟨e, he, h1, h2⟩, hR⟩
      refine wpAny_bind (he prog w _ _ ?_)
      cases e with
      | true =>
        wp_walk
        exact ⟨rfl, rfl, h1 rfl, hR⟩
      | false =>
        have hri := h2 rfl prog w
        wp_walk using hri
        exact ⟨_, rfl, by simpa using hR⟩
    case fin =>
      rintro ⟨b1, b2⟩ s' ⟨hb', rfl, hx, hR⟩
      simp only at hb'
      subst hb'
      have hx : r = false := hx
      subst hx
      wp_walk
      refine ⟨_, rfl, ?_⟩
      have : Builtin.Tuple.tupleCompareSizes .Lt items.size items2.size = .bool false := by simp [Builtin.Tuple.tupleCompareSizes, hz]
      rw [this]
      exact hR
    case h =>
      exact ⟨rfl, rfl, hg, h⟩
theorem lt_loopI (l b : Addr) (items items2 : Array Value) (n n2 : Nat) (dd dd2 : Option Addr) (sl sl2 : Array (Option Value)) (ns ms : List Int) (hi : IntsAre items.toList ns) (hj : IntsAre items2.toList ms) (k : Nat) :
    ∀ i : Nat, items.size - i = k → i ≤ ns.length → i ≤ ms.length → Meets (Builtin.«list.__eq__.loop» ⟨[.ref l, .ref b, rawInt i, rawInt 0], []⟩)
      (fun _ R s => s.heap.get? l = some { cls := .type "list", dict := dd, data := .seq items n, slots := sl } ∧ s.heap.get? b = some { cls := .type "list", dict := dd2, data := .seq items2 n2, slots := sl2 } ∧
        R (.ok (.ret (.bool (HT.lexLt (ns.drop i) (ms.drop i))))) s) := by
  have z1 : items.size = ns.length := by rw [← hi.length]; simp
  have z2 : items2.size = ms.length := by rw [← hj.length]; simp
  have at1 : ∀ (vs : List Value) (qs : List Int), IntsAre vs qs → ∀ j, j < qs.length → ∃ t, vs[j]? = some (.int (qs.getD j 0) t) := by
    intro vs qs hh
    induction hh with
    | nil => intro j hj; simp at hj
    | cons a t _ ih =>
      intro j hj
      cases j with
      | zero => exact ⟨t, rfl⟩
      | succ j =>
        obtain ⟨u, hu⟩ := ih j (by simpa using hj)
        exact ⟨u, by simpa using hu⟩
  have dropS : ∀ (qs : List Int) (j : Nat), j < qs.length → qs.drop j = qs.getD j 0 :: qs.drop (j + 1) := fun qs j hj => by
    rw [List.drop_eq_getElem_cons hj]
    simp [List.getD, hj]
  have stop : ∀ i, i ≤ ns.length → i ≤ ms.length → (items[i]? = none ∨ items2[i]? = none) → HT.lexLt (ns.drop i) (ms.drop i) = decide (items.size < items2.size) := fun i g1 g2 h => by
    by_cases c1 : i < ns.length
    · by_cases c2 : i < ms.length
      · rcases h with h | h
        · have := Array.getElem?_eq_none_iff.mp h; omega
        · have := Array.getElem?_eq_none_iff.mp h; omega
      · rw [dropS ns i c1, List.drop_eq_nil_of_le (by omega : ms.length ≤ i), HT.lexLt_cons_nil]
        exact (decide_eq_false (by omega)).symm
    · rw [List.drop_eq_nil_of_le (by omega : ns.length ≤ i)]
      by_cases c2 : i < ms.length
      · rw [dropS ms i c2, HT.lexLt_nil_cons]
        exact (decide_eq_true (by omega)).symm
      · rw [List.drop_eq_nil_of_le (by omega : ms.length ≤ i), HT.lexLt_nil_nil]
        exact (decide_eq_false (by omega)).symm
  have sizes : ∀ i, i ≤ ns.length → i ≤ ms.length → (items[i]? = none ∨ items2[i]? = none) → ∀ R : Value → Prop, R (.bool (HT.lexLt (ns.drop i) (ms.drop i))) → R (.bool (decide (items.size < items2.size))) := fun i g1 g2 h R hR => by rw [← stop i g1 g2 h]; exact hR
  induction k with
  | zero =>
    intro i hk g1 g2 prog w A R s h
    obtain ⟨hp, g, d, tk, os⟩ := s ; obtain ⟨hl, hb, h⟩ := h
    wp_walk using wpAny_loadPart' hl, wpAny_loadPart' hb
    have hi1 : items[i]? = none := by simp; omega
    have hi1' : items[((i : Nat) : Int).toNat]? = none := by simpa using hi1
    rw [hi1']
    wp_walk using wpAny_loadPart' hl, wpAny_loadPart' hb
    exact sizes i g1 g2 (.inl hi1) (fun v => R (.ok (.ret v)) ⟨hp, g, d, tk, os⟩) h
  | succ k ih =>
    intro i hk g1 g2 prog w A R s h
    obtain ⟨hp, g, d, tk, os⟩ := s ; obtain ⟨hl, hb, h⟩ := h
    have c1 : i < ns.length := by omega
    obtain ⟨t, ht⟩ := at1 _ _ hi i c1
    have ht' : items[((i : Nat) : Int).toNat]? = some (.int (ns.getD i 0) t) := by simpa using ht
    by_cases c2 : i < ms.length
    · obtain ⟨u, hu⟩ := at1 _ _ hj i c2
      have hu' : items2[((i : Nat) : Int).toNat]? = some (.int (ms.getD i 0) u) := by simpa using hu
      rw [dropS ns i c1, dropS ms i c2, HT.lexLt_cons] at h
      have hc : ((i : Int) + 1) = ((i + 1 : Nat) : Int) := by push_cast; rfl
      wp_walk using wpAny_loadPart' hl, wpAny_loadPart' hb
      rw [ht', hu']
      refine wpAny_bind (wpAny_eqBool_int ?_)
      by_cases e : ns.getD i 0 = ms.getD i 0
      · rw [if_pos e] at h
        have e' : (ns.getD i 0 == ms.getD i 0) = true := by simpa using e
        rw [e']
        wp_walk
        rw [hc]
        exact ⟨plainId_quiet plain_eq_loop _, codeAny_builtin entry_eq_loop (by
          rw [Around.under_plainId plain_eq_loop _]
          exact ih (i + 1) (by omega) (by omega) (by omega) prog w A R _ ⟨hl, hb, h⟩)⟩
      · rw [if_neg e] at h
        have e' : (ns.getD i 0 == ms.getD i 0) = false := by simpa using e
        rw [e']
        have hri := HT.rcLt_int A.in1 ⟨hp, g, d, tk, os⟩ (ns.getD i 0) t (ms.getD i 0) u prog w
        wp_walk using wpAny_loadPart' hl, wpAny_loadPart' hb
        rw [ht', hu']
        wp_walk using hri
        simpa using h
    · wp_walk using wpAny_loadPart' hl, wpAny_loadPart' hb
      have hu : items2[i]? = none := by simp; omega
      have hu' : items2[((i : Nat) : Int).toNat]? = none := by simpa using hu
      rw [ht', hu']
      wp_walk using wpAny_loadPart' hl, wpAny_loadPart' hb
      exact sizes i g1 g2 (.inr hu) (fun v => R (.ok (.ret v)) ⟨hp, g, d, tk, os⟩) h
theorem list_lt_ints (l b : Addr) (items items2 : Array Value) (n n2 : Nat) (dd dd2 : Option Addr) (sl sl2 : Array (Option Value)) (ns ms : List Int) (hi : IntsAre items.toList ns) (hj : IntsAre items2.toList ms) :
    Meets (Builtin.«list.__lt__» ⟨[.ref l, .ref b], []⟩)
      (fun _ R s => s.heap.get? l = some { cls := .type "list", dict := dd, data := .seq items n, slots := sl } ∧ s.heap.get? b = some { cls := .type "list", dict := dd2, data := .seq items2 n2, slots := sl2 } ∧
        R (.ok (.ret (.bool (HT.lexLt ns ms)))) s) := by
  intro prog w A R s h
  obtain ⟨hp, g, d, tk, os⟩ := s ; obtain ⟨hl, hb, h⟩ := h
  have f3 := AutoSeq1.sub_list_list
  wp_walk using wpAny_loadPart' hl, wpAny_loadPart' hb
  exact ⟨plainId_quiet plain_eq_loop _, codeAny_builtin entry_eq_loop (by
    rw [Around.under_plainId plain_eq_loop _]
    exact lt_loopI l b items items2 n n2 dd dd2 sl sl2 ns ms hi hj _ 0 rfl (Nat.zero_le _) (Nat.zero_le _) prog w A R _ ⟨hl, hb, by simpa using h⟩)⟩
end
end L2
namespace L2
open PySem PySem.Spec PyProof.Rows
theorem lex_app_eq : ∀ (a x y : List Int), HT.lexLt (a ++ x) (a ++ y) = HT.lexLt x y
  | [], _, _ => rfl
  | z :: a, x, y => by
    show HT.lexLt (z :: (a ++ x)) (z :: (a ++ y)) = _
    rw [HT.lexLt_cons, if_pos rfl]
    exact lex_app_eq a x y
theorem lex_app_ne : ∀ (a b x y : List Int), a.length = b.length → a ≠ b → HT.lexLt (a ++ x) (b ++ y) = HT.lexLt a b
  | [], [], _, _, _, h => (h rfl).elim
  | [], _ :: _, _, _, h, _ => by simp at h
  | _ :: _, [], _, _, h, _ => by simp at h
  | u :: a, v :: b, x, y, hl, h => by
    show HT.lexLt (u :: (a ++ x)) (v :: (b ++ y)) = _
    rw [HT.lexLt_cons, HT.lexLt_cons]
    by_cases e : u = v
    · rw [if_pos e, if_pos e]
      exact lex_app_ne a b x y (by simpa using hl) fun z => h (by rw [e, z])
    · rw [if_neg e, if_neg e]
/-- how a tuple (length, list, list) stands in the row of such tuples -/
noncomputable def keyM (a g : List Int) : List Int := (a.length : Int) :: (a ++ g)
section
variable {prog : Program} {w : World} {A : Around} {E : Value → Shared → Prop} {s : Shared}
open PySem.SeqAt in
theorem eqAt_lists {l b : Addr} {xs ys : List Value} {ns ms : List Int} (h1 : s.heap.IsList l xs.toArray) (h2 : s.heap.IsList b ys.toArray) (hi : IntsAre xs ns) (hj : IntsAre ys ms) (hu : A.units + 2 < cLine) : EqAt A s (.ref l) (.ref b) (decide (ns = ms)) := by
  have := eqAt_reads (.list (ns.map PyData.int)) (.list (ms.map PyData.int)) A s (.ref l) (.ref b) _ _ (reads_newData h1 (PySem.W.ke_carried hi)) (reads_newData h2 (PySem.W.ke_carried hj)) (by simp [PyData.canLay0, PySem.W.ke_canLayAll0]) (by simp [PyData.canLay0, PySem.W.ke_canLayAll0]) (by simp [PyData.depth, PySem.W.ke_depthAll]; omega)
  rw [← same_eq_eqv _ _ (SeqAt.noMix_of_shape (.list .int) rfl _ _ (list_map_has fun _ => rfl) (list_map_has fun _ => rfl)), PySem.W.ke_same] at this
  exact this
theorem ltAt_lists {l b : Addr} {xs ys : List Value} {ns ms : List Int} (h1 : s.heap.IsList l xs.toArray) (h2 : s.heap.IsList b ys.toArray) (hi : IntsAre xs ns) (hj : IntsAre ys ms) (hu : A.units < cLine) : LtAt A s (.ref l) (.ref b) (HT.lexLt ns ms) := by
  intro prog w E Q hQ
  obtain ⟨⟨cls, dd, data, sl⟩, ho, hc, n, hd⟩ := id h1
  obtain ⟨⟨cls2, dd2, data2, sl2⟩, ho2, hc2, n2, hd2⟩ := id h2
  simp only at hc hd hc2 hd2
  subst hc hd hc2 hd2
  exact richCompare_meets_room (op := .Lt) ⟨_, ho, rfl⟩ ⟨_, ho2, rfl⟩ PySem.F.slot_list_lt PySem.F.entry_list_lt (PySem.F.args_list_lt_2 _ _) (list_lt_ints l b xs.toArray ys.toArray n n2 dd dd2 sl sl2 ns ms hi hj)
    ⟨ho, ho2, show Value.bool (HT.lexLt ns ms) ≠ Value.notImplemented ∧ Q (.bool (HT.lexLt ns ms)) s from ⟨(fun x => nomatch x), hQ⟩⟩ hu
/-- a tuple (length, list, list) as it lies -/
noncomputable def Tup3 (h : Heap) (t : Addr) (a g : List Int) : Prop := ∃ (i : Tok) (la lg : Addr) (xs ys : List Value), IsTup h t #[.int a.length i, .ref la, .ref lg] ∧ h.IsList la xs.toArray ∧ IntsAre xs a ∧ h.IsList lg ys.toArray ∧ IntsAre ys g
theorem lt_tup3 {t1 t2 : Addr} {a g a' g' : List Int} {Q : Value → Shared → Prop} (h1 : Tup3 s.heap t1 a g) (h2 : Tup3 s.heap t2 a' g') (hu : A.units + 8 < cLine) (h : Q (.bool (HT.lexLt (keyM a g) (keyM a' g'))) s) :
    wpAny (model prog w) A (richCompare .Lt (.ref t1) (.ref t2)) Q E s := by
  obtain ⟨i, la, lg, xs, ys, ht, l1, i1, l2, i2⟩ := h1
  obtain ⟨i', la', lg', xs', ys', ht', l1', i1', l2', i2'⟩ := h2
  obtain ⟨⟨cls, dd, data, sl⟩, ho, hc, n, hd⟩ := id ht
  obtain ⟨⟨cls2, dd2, data2, sl2⟩, ho2, hc2, n2, hd2⟩ := id ht'
  simp only at hc hd hc2 hd2
  subst hc hd hc2 hd2
  have hu1 : A.in1.units + 4 < cLine := by
    show A.units + 1 + 4 < cLine
    omega
  refine richCompare_meets_room (op := .Lt) ⟨_, ho, rfl⟩ ⟨_, ho2, rfl⟩ PySem.F.slot_tuple_lt PySem.F.entry_tuple_lt (PySem.F.args_tuple_lt_2 _ _) (tuple_lt_gen t1 t2 #[.int a.length i, .ref la, .ref lg] #[.int a'.length i', .ref la', .ref lg'] n n2 dd dd2 sl sl2 rfl (HT.lexLt (keyM a g) (keyM a' g')))
    ⟨ho, ho2, ?_, show Value.bool (HT.lexLt (keyM a g) (keyM a' g')) ≠ Value.notImplemented ∧ Q (.bool (HT.lexLt (keyM a g) (keyM a' g'))) s from ⟨(fun x => nomatch x), h⟩⟩ (by omega)
  obtain ⟨e, he, hiff⟩ := HT.eqAt_int A.in1 s (a.length : Int) i (a'.length : Int) i'
  refine ⟨e, he, fun e1 => ?_, fun e0 => ?_⟩
  · have hlen : (a.length : Int) = a'.length := hiff.mp e1
    refine ⟨_, eqAt_lists l1 l1' i1 i1' (by omega), fun e2 => ?_, fun e2 => ?_⟩
    · have ea : a = a' := of_decide_eq_true e2
      refine ⟨_, eqAt_lists l2 l2' i2 i2' (by omega), fun e3 => ?_, fun e3 => ?_⟩
      · have eg : g = g' := of_decide_eq_true e3
        show HT.lexLt _ _ = false
        rw [ea, eg]
        exact lex_irr _
      · have := ltAt_lists (A := A.in1) l2 l2' i2 i2' (by omega)
        unfold keyM
        rw [HT.lexLt_cons, if_pos hlen, ea, lex_app_eq]
        exact this
    · have ea : a ≠ a' := of_decide_eq_false e2
      have := ltAt_lists (A := A.in1) l1 l1' i1 i1' (by omega)
      unfold keyM
      rw [HT.lexLt_cons, if_pos hlen, lex_app_ne _ _ _ _ (by omega) ea]
      exact this
  · have hlen : (a.length : Int) ≠ a'.length := fun z => by rw [hiff.mpr z] at e0; cases e0
    unfold keyM
    rw [HT.lexLt_cons, if_neg hlen]
    intro prog w E Q hQ
    exact HT.rcLt_int A.in1 s _ i _ i' prog w E Q hQ
end
end L2
namespace L2
open PySem PySem.Spec PyProof.Rows
section
variable {X : Cx}
/-- min of a list of tuples (length of a list, that list, another list): the least -/
noncomputable def rMinM (K : PySem.W.Frag) : List V → Hp → VK → Prop := fun xs H Q => ∃ (p : Addr) (ts : List Addr) (a g : Nat → List Int), xs = [.ref p] ∧ SqL K H p (ts.map V.ref) ∧ ts ≠ [] ∧
  (∀ i t, ts[i]? = some t → ∃ la lg, H t = some (.tup [.int (a i).length, .ref la, .ref lg]) ∧ H la = some (.lst ((a i).map V.int)) ∧ H lg = some (.lst ((g i).map V.int))) ∧
  ∀ i t, ts[i]? = some t → (∀ j, j < ts.length → HT.lexLt (keyM (a j) (g j)) (keyM (a i) (g i)) = false) → Q (.ref t) H
theorem Tup3.kept {h h' : Heap} {t : Addr} {a g : List Int} (x : Tup3 h t a g) (T : List (Addr × Obj)) (h1 : ∀ q ∈ T, h.get? q.1 = some q.2) (h2 : ∀ q ∈ T, h'.get? q.1 = some q.2) (hT : ∀ (la lg : Addr) i, IsTup h t #[.int a.length i, .ref la, .ref lg] → ∀ b, b = t ∨ b = la ∨ b = lg → ∃ q ∈ T, q.1 = b) : Tup3 h' t a g := by
  obtain ⟨i, la, lg, xs, ys, ht, l1, i1, l2, i2⟩ := x
  have mv : ∀ b o, (b = t ∨ b = la ∨ b = lg) → h.get? b = some o → h'.get? b = some o := fun b o hb ho => by
    obtain ⟨q, hq, e⟩ := hT la lg i ht b hb
    have e1 := h1 q hq
    have e2 := h2 q hq
    rw [e, ho] at e1
    rw [e] at e2
    cases e1
    exact e2
  obtain ⟨o, ho, r⟩ := ht
  obtain ⟨o1, ho1, r1⟩ := l1
  obtain ⟨o2, ho2, r2⟩ := l2
  exact ⟨i, la, lg, xs, ys, ⟨o, mv _ _ (.inl rfl) ho, r⟩, ⟨o1, mv _ _ (.inr (.inl rfl)) ho1, r1⟩, i1, ⟨o2, mv _ _ (.inr (.inr rfl)) ho2, r2⟩, i2⟩
theorem call_minM (hc : X.calm = true) (hu : X.A.units + 64 < cLine) : CallR X (.builtin "min") (rMinM X.K) := by
  intro pins s σ H xs us Q I r h
  obtain ⟨p, ts, a, g, rfl, hS, hne, hT, q⟩ := h ; obtain ⟨u, rfl, ru⟩ := vals1 r
  cases ru
  obtain ⟨its, rv, pl, hz⟩ := I.list hS
  have hl := rv.length
  rw [List.length_map] at hl
  have it_i : ∀ i (t : Addr), ts[i]? = some t → its[i]? = some (Value.ref t) := fun i t ht => by
    obtain ⟨w', hw, rw'⟩ := rv.get (show (ts.map V.ref)[i]? = some (.ref t) by rw [List.getElem?_map, ht]; rfl)
    cases rw'
    exact hw
  have tup_i : ∀ i (t : Addr), ts[i]? = some t → ∃ (j : Tok) (la lg : Addr) (xs ys : List Value), IsTup s.heap t #[.int (a i).length j, .ref la, .ref lg] ∧ s.heap.IsList la xs.toArray ∧ IntsAre xs (a i) ∧ s.heap.IsList lg ys.toArray ∧ IntsAre ys (g i) := fun i t ht => by
    obtain ⟨la, lg, h1, h2, h3⟩ := hT i t ht
    obtain ⟨_, vs, rvs, tu⟩ := I.hok t _ h1
    obtain ⟨x1, x2, x3, rfl, ⟨j, rfl⟩, e2, e3⟩ : ∃ x1 x2 x3, vs = [x1, x2, x3] ∧ RelV (.int (a i).length) x1 ∧ RelV (.ref la) x2 ∧ RelV (.ref lg) x3 := by
      cases rvs with
      | cons r1 t1 =>
        cases t1 with
        | cons r2 t2 =>
          cases t2 with
          | cons r3 t3 =>
            cases t3
            exact ⟨_, _, _, rfl, r1, r2, r3⟩
    cases e2
    cases e3
    obtain ⟨its1, rv1, pl1, _⟩ := I.list (SqL.of (K := X.K) h2)
    obtain ⟨its2, rv2, pl2, _⟩ := I.list (SqL.of (K := X.K) h3)
    exact ⟨j, la, lg, its1, its2, tu, pl1.isList, intsAre_of rv1, pl2.isList, intsAre_of rv2⟩
  have recs : ∃ T : List (Addr × Obj), (∀ q ∈ T, s.heap.get? q.1 = some q.2) ∧ ∀ i t, ts[i]? = some t → ∀ (la lg : Addr) j, IsTup s.heap t #[.int (a i).length j, .ref la, .ref lg] → ∀ b, b = t ∨ b = la ∨ b = lg → ∃ q ∈ T, q.1 = b := by
    refine ⟨(List.range s.heap.objs.size).filterMap fun b => (s.heap.get? b).map fun o => (b, o), fun q hq => ?_, fun i t ht la lg j hj b hb => ?_⟩
    · obtain ⟨t, _, e⟩ := List.mem_filterMap.mp hq
      cases z : s.heap.get? t with
      | none => rw [z] at e; cases e
      | some o => rw [z] at e; cases e; exact z
    · have : ∃ o, s.heap.get? b = some o := by
        obtain ⟨j', la', lg', xs', ys', ht', l1, i1, l2, i2⟩ := tup_i i t ht
        obtain ⟨o, ho, hc, n, hd⟩ := id hj
        obtain ⟨o', ho', hc', n', hd'⟩ := ht'
        rw [ho] at ho'
        cases ho'
        rw [hd] at hd'
        simp at hd'
        obtain ⟨⟨_, rfl, rfl⟩, _⟩ := hd'
        rcases hb with rfl | rfl | rfl
        · exact ⟨o, ho⟩
        · obtain ⟨o1, ho1, _⟩ := l1; exact ⟨o1, ho1⟩
        · obtain ⟨o2, ho2, _⟩ := l2; exact ⟨o2, ho2⟩
      obtain ⟨o, ho⟩ := this
      exact ⟨(b, o), List.mem_filterMap.mpr ⟨b, List.mem_range.mpr (Heap.lt_size ho), by rw [ho]; rfl⟩, rfl⟩
  obtain ⟨T, hT1, hT2⟩ := recs
  have ltp : p < s.heap.objs.size := by obtain ⟨o, e, _⟩ := pl.isList; exact Heap.lt_size e
  have hpos : 0 < its.length := by rw [← hl]; exact List.length_pos_iff.mpr hne
  refine call_minH ?_
  refine wpAny_pyIter_list pl.isList ?_
  refine ⟨s.heap.objs.size, _, _, its.toArray.size, _, _, fun i j => HT.lexLt (keyM (a i) (g i)) (keyM (a j) (g j)), rfl, Walks.listT (A := X.A.in1) (show X.A.in1.handled = none from I.ok.hd hc) s.heap.objs.size p (Nat.ne_of_lt ltp) its.toArray T (fun q hq => Nat.ne_of_lt (Heap.lt_size (hT1 q hq))), ⟨⟨⟨_, Heap.get?_push_size _ rfl, rfl, rfl⟩, pl.isList.push _⟩, fun q hq => Heap.get?_push_of_some _ (hT1 q hq)⟩, ?_, by rw [List.size_toArray]; exact hpos, ?_, ?_⟩
  · intro b hb
    rw [Heap.size_push]
    rcases List.mem_append.mp hb with hb | hb
    · have hb' : b = s.heap.objs.size ∨ b = p := by simpa using hb
      rcases hb' with e | e
      · rw [e]; exact Nat.lt_succ_self _
      · rw [e]; exact Nat.lt_succ_of_lt ltp
    · obtain ⟨q, hq, e⟩ := List.mem_map.mp hb
      rw [← e]; exact Nat.lt_succ_of_lt (Heap.lt_size (hT1 q hq))
  · intro i j k vi vj s' Q' E' hi hj hst hQ
    have look : ∀ i v, its.toArray[i]? = some v → ∃ t, v = Value.ref t ∧ Tup3 s'.heap t (a i) (g i) := fun i v hv => by
      have hv' : its[i]? = some v := by simpa using hv
      have hlt : i < ts.length := by rw [hl]; exact (List.getElem?_eq_some_iff.mp hv').1
      have e1 := it_i i ts[i] (by simp [hlt])
      rw [hv'] at e1
      cases e1
      have hti : ts[i]? = some ts[i] := by simp [hlt]
      exact ⟨ts[i], rfl, Tup3.kept (h := s.heap) (tup_i i _ hti) T hT1 (fun q hq => hst.2 q hq) (fun la lg j hj b hb => hT2 i _ hti la lg j hj b hb)⟩
    obtain ⟨t1, rfl, a1⟩ := look i vi hi
    obtain ⟨t2, rfl, b1⟩ := look j vj hj
    exact lt_tup3 a1 b1 (by show X.A.units + 1 + 8 < cLine; omega) hQ
  · intro v h' tk hP hk
    have hv' : its[argBest (fun i j => HT.lexLt (keyM (a i) (g i)) (keyM (a j) (g j))) (its.toArray.size - 1)]? = some v := by simpa using hP
    have hb := best_lex (fun i => keyM (a i) (g i)) (its.toArray.size - 1)
    generalize argBest (fun i j => HT.lexLt (keyM (a i) (g i)) (keyM (a j) (g j))) (its.toArray.size - 1) = i at hv' hb
    have hlt : i < ts.length := by rw [hl]; exact (List.getElem?_eq_some_iff.mp hv').1
    have e1 := it_i i ts[i] (by simp [hlt])
    rw [hv'] at e1
    cases e1
    refine ⟨.ref ts[i], H, ?_, rfl, q i _ (by simp [hlt]) fun j hj => hb j (by rw [List.size_toArray]; omega)⟩
    exact I.kept (t' := tk) fun b o e => hk b o (by simp; exact Nat.ne_of_lt (Heap.lt_size e)) (Heap.get?_push_of_some _ e)
end
end L2

set_option maxHeartbeats 4000000
namespace My
open PySem L2

local macro_rules | `(tactic| walk_at "u1") => `(tactic| first
  | with_reducible refine r_asg ?_
  | with_reducible refine r_ifs ?_
  | with_reducible refine r_ret ?_
  | with_reducible refine r_next ?_
  | with_reducible refine r_drop ?_
  | ((with_reducible show tAug _ _ _ _ _ _); refine ⟨_, rfl, ?_⟩)
  | ((with_reducible show tVar _ _ _ _); refine ⟨_, rfl, ?_⟩)
  | with_reducible refine r_c ?_
  | with_reducible refine r_op ?_
  | with_reducible refine r_un ?_
  | with_reducible refine r_neg ?_
  | with_reducible refine r_add ?_
  | with_reducible refine r_sub ?_
  | ((with_reducible show oMul _ _ _ _); first | refine r_mulL (by first | omega | decide) (by first | omega | decide) ?_ | refine r_mulR (by first | omega | decide) (by first | omega | decide) ?_)
  | ((with_reducible show oDiv _ _ _ _); refine r_div (by first | omega | decide) (by first | omega | decide) ?_)
  | ((with_reducible show oMod _ _ _ _); refine r_mod (by first | omega | decide) ?_)
  | ((with_reducible show oPow _ _ _ _); refine r_pow (by decide) (by decide) (by decide) ?_)
  | with_reducible refine r_lt ?_
  | with_reducible refine r_le ?_
  | with_reducible refine r_gt ?_
  | with_reducible refine r_ge ?_
  | with_reducible refine r_eq ?_
  | with_reducible refine r_ne ?_
  | with_reducible refine r_isN ?_
  | with_reducible refine r_notN ?_
  | with_reducible refine r_test ?_
  | with_reducible refine r_tB ?_
  | with_reducible refine r_bl ?_
  | with_reducible refine r_and ?_
  | with_reducible refine r_or ?_
  | with_reducible refine r_not ?_
  | with_reducible refine r_notV ?_
  | with_reducible refine r_andV ?_
  | with_reducible refine r_orV ?_
  | with_reducible refine r_if ?_
  | with_reducible refine r_nil ?_
  | with_reducible refine r_cons ?_
  | with_reducible refine r_call ?_
  | with_reducible refine r_cb ?_
  | with_reducible refine r_min ?_
  | with_reducible refine r_max ?_
  | with_reducible refine r_for ?_
  | with_reducible refine r_rng1 ?_
  | with_reducible refine r_rng3 ?_
  | with_reducible refine r_rng2 ?_
  | ((with_reducible show ∃ i j : Int, _ = _ ∧ _); refine r_rng2' (by first | omega | decide) (by first | omega | decide) (by first | omega | decide) (by first | omega | decide) ?_)
  | ((with_reducible show ∃ j : Int, [V.int _] = [V.int _] ∧ _); refine r_rng1' (by first | omega | decide) (by first | omega | decide) ?_)
  | with_reducible refine r_iList ?_
  | with_reducible refine r_sl ?_
  | with_reducible refine r_part ?_
  | with_reducible refine r_part' ?_
  | with_reducible refine r_noPart ?_
  | with_reducible refine r_comp ?_
  | with_reducible refine r_bm ?_
  | with_reducible refine r_bm0 ?_
  | with_reducible refine r_chain ?_)
local macro_rules | `(tactic| walk_at "o1") => `(tactic| first
  | walk_at "u1"
  | ((with_reducible show rLenL _ _ _ _); refine r_len (by assumption) ?_)
  | ((with_reducible show rSum _ _ _ _); refine r_sum (by assumption) ?_)
  | with_reducible refine r_lst ?_
  | with_reducible refine r_tup ?_
  | ((with_reducible show ∃ b : Addr, V.ref _ = V.ref _ ∧ _); refine r_iList' (by assumption) ?_)
  | ((with_reducible show rSlL _ _ _ _ _ _); refine r_slL (by assumption) ?_))
local macro_rules | `(tactic| walk_at "w") => `(tactic| repeat (first | with_reducible refine r_seq ?_ | walk_at "o1"))

local macro_rules | `(tactic| walk_at "sq") => `(tactic| first | assumption | exact SqL.of (by assumption) | exact Same.seq (by assumption) (by walk_at "sq"))
local macro_rules | `(tactic| walk_at "num") => `(tactic| first | omega | decide | assumption | simp)
local macro_rules | `(tactic| walk_at "fits") => `(tactic| first | exact Nat.le_of_ble_eq_true rfl | (refine Nat.le_trans ?_ line64; simp; done) | (refine Nat.le_trans ?_ line64; simp; omega) | (refine Nat.le_trans ?_ line64; omega))
local macro_rules | `(tactic| walk_at "call") => `(tactic| fail)
local macro_rules | `(tactic| walk_at "early") => `(tactic| fail)
local macro_rules | `(tactic| walk_at "v1") => `(tactic| first
  | walk_at "early"
  | walk_at "u1"
  | with_reducible refine r_asgS ?_
  | with_reducible refine r_asgT ?_
  | ((with_reducible show rLenL _ _ _ _); refine r_len (by walk_at "sq") ?_)
  | ((with_reducible show rSum _ _ _ _); refine r_sum (by walk_at "sq") ?_)
  | with_reducible refine r_lstN ?_
  | with_reducible refine r_tupN ?_
  | ((with_reducible show newL _ _ _); refine r_newL (by walk_at "fits") ?_; intro _ _ _ _ _)
  | ((with_reducible show newT _ _ _); refine r_newT (by walk_at "fits") ?_; intro _ _ _ _ _)
  | ((with_reducible show rListOf _ _ _ _); refine r_listOfN (by walk_at "sq") ?_; intro _ _ _ _ _)
  | ((with_reducible show rIn _ false (V.int _) _ _ _); refine r_inI (by walk_at "sq") ?_)
  | ((with_reducible show rIn _ true (V.int _) _ _ _); refine r_ninI (by walk_at "sq") ?_)
  | ((with_reducible show rEqI _ false _ _ _ _); first | refine r_eqIs (by walk_at "sq") (by walk_at "sq") ?_ | refine r_eqIs (ms := []) (by walk_at "sq") (by walk_at "sq") ?_)
  | ((with_reducible show rEqI _ true _ _ _ _); first | refine r_neIs (by walk_at "sq") (by walk_at "sq") ?_ | refine r_neIs (ms := []) (by walk_at "sq") (by walk_at "sq") ?_)
  | ((with_reducible show rAll _ _ _ _); refine r_all (by walk_at "sq") ?_)
  | ((with_reducible show ∃ b : Addr, V.ref _ = V.ref _ ∧ _); refine r_iList' (by walk_at "sq") ?_)
  | with_reducible refine r_par ?_
  | with_reducible refine r_par' ?_
  | with_reducible refine r_intB ?_
  | with_reducible refine r_enum ?_
  | with_reducible refine r_zip ?_
  | ((with_reducible show ∃ a b : Addr, [V.ref _, V.ref _] = [V.ref _, V.ref _] ∧ _); refine r_zip' (by walk_at "sq") (by walk_at "sq") ?_)
  | ((with_reducible show rSlL _ _ _ _ _ _); refine r_slLN (by walk_at "sq") ?_; intro _ _ _ _ _)
  | with_reducible refine iteT ?_
  | with_reducible refine iteF ?_
  | with_reducible refine iteNT ?_
  | with_reducible refine iteNF ?_
  | walk_at "call")
local macro_rules | `(tactic| walk_at "s1") => `(tactic| repeat walk_at "v1")
local macro_rules | `(tactic| walk_at "v") => `(tactic| repeat (first | with_reducible refine r_seq ?_ | walk_at "v1"))


theorem paired_ints {α : Type} {P : α → Int → Prop} : ∀ {xs : List α} {ys : List V}, Paired (fun x v => ∃ p : Int, v = .int p ∧ P x p) xs ys → ∃ ps : List Int, ys = ps.map V.int ∧ ps.length = xs.length ∧ ∀ p ∈ ps, ∃ x ∈ xs, P x p
  | _, _, .nil => ⟨[], rfl, rfl, fun _ h => nomatch h⟩
  | x :: r, _, .cons ⟨p, e, h⟩ t => by
    obtain ⟨ps, h1, h2, h3⟩ := paired_ints t
    refine ⟨p :: ps, by rw [e, h1]; rfl, by simp [h2], fun q hq => ?_⟩
    rcases List.mem_cons.mp hq with rfl | hq
    · exact ⟨x, List.mem_cons_self, h⟩
    · obtain ⟨y, hy, z⟩ := h3 q hq
      exact ⟨y, List.mem_cons_of_mem _ hy, z⟩
theorem getInt {ns : List Int} {j : Nat} {i : Int} (h : ns[j]? = some i) : (ns.map V.int)[j]? = some (V.int i) := by
  rw [List.getElem?_map, h]
  rfl
theorem modI (c : Int) (n : Nat) (h : 0 < n) : ∃ m : Nat, c % (n : Int) = (m : Int) ∧ m < n := ⟨(c % n).toNat, by have := Int.emod_nonneg c (show (n : Int) ≠ 0 by omega); omega, by have := Int.emod_lt_of_pos c (show (0 : Int) < n by omega); have := Int.emod_nonneg c (show (n : Int) ≠ 0 by omega); omega⟩

theorem sum_nonneg : ∀ {l : List Int}, (∀ y ∈ l, 0 ≤ y) → 0 ≤ l.sum
  | [], _ => Int.le_refl 0
  | x :: r, h => by
    have h1 := h x List.mem_cons_self
    have h2 := sum_nonneg fun y hy => h y (List.mem_cons_of_mem _ hy)
    rw [List.sum_cons]
    omega

theorem range_getD' {α β : Type} (f : α → β) (d : α) (xs : List α) : (List.range xs.length).map (fun i => f (xs.getD i d)) = xs.map f := by
  apply List.ext_getElem
  · simp
  · intro k h1 h2
    have hk : k < xs.length := by simpa using h1
    simp [List.getD, hk]

theorem paired_app {α β : Type} {F : α → β → Prop} : ∀ {a c : List α} {b d : List β}, Paired F a b → Paired F c d → Paired F (a ++ c) (b ++ d)
  | _, _, _, _, .nil, h => h
  | _, _, _, _, .cons r t, h => .cons r (paired_app t h)
theorem paired_take {α β : Type} {F : α → β → Prop} : ∀ {a : List α} {b : List β} (n : Nat), Paired F a b → Paired F (a.take n) (b.take n)
  | _, _, 0, _ => .nil
  | _, _, _ + 1, .nil => .nil
  | _, _, n + 1, .cons r t => .cons r (paired_take n t)
theorem paired_drop {α β : Type} {F : α → β → Prop} : ∀ {a : List α} {b : List β} (n : Nat), Paired F a b → Paired F (a.drop n) (b.drop n)
  | _, _, 0, h => h
  | _, _, _ + 1, .nil => .nil
  | _, _, n + 1, .cons _ t => paired_drop n t
/-- rows in a list that may be joined -/
noncomputable def RowsL (K : PySem.W.Frag) (H : Hp) (a : Addr) (rows : List (List Int)) : Prop := ∃ bs : List Addr, H a = some (.lst (bs.map V.ref)) ∧ Paired (fun r b => SqL K H b (r.map V.int)) rows bs
theorem RowsL.at {K : PySem.W.Frag} {H : Hp} {a : Addr} {rows : List (List Int)} (h : RowsL K H a rows) : RowsAt K H a rows := let ⟨bs, h1, h2⟩ := h; ⟨bs, SqL.of h1, h2⟩

noncomputable def tog : Nat → Nat
  | 0 => 1
  | n + 1 => Nat.lcm (tog n) (n + 1)






/-! the choosing by itself: voters below v, works below n -/
noncomputable def sumTo (v : Nat) (f : Nat → Int) : Int := ((List.range v).map f).sum
theorem sumTo_succ (v : Nat) (f : Nat → Int) : sumTo (v + 1) f = sumTo v f + f v := by
  unfold sumTo
  rw [List.range_succ, List.map_append, List.sum_append]
  simp
theorem sumTo_le : ∀ {v : Nat} {f g : Nat → Int}, (∀ i, i < v → f i ≤ g i) → sumTo v f ≤ sumTo v g
  | 0, _, _, _ => Int.le_refl 0
  | v + 1, f, g, h => by
    have h1 := sumTo_le (v := v) fun i hi => h i (by omega)
    have h2 := h v (by omega)
    rw [sumTo_succ, sumTo_succ]
    omega

theorem nodup_len : ∀ (n : Nat) (l : List Nat), l.Nodup → (∀ x ∈ l, x < n) → l.length ≤ n
  | 0, l, _, h => by
    cases l with
    | nil => exact Nat.le_refl _
    | cons x r => exact absurd (h x List.mem_cons_self) (Nat.not_lt_zero _)
  | n + 1, l, nd, h => by
    by_cases hn : n ∈ l
    · have h1 := nodup_len n (l.erase n) (nd.erase n) fun x hx => by
        have h2 := (nd.mem_erase_iff).mp hx
        have h3 := h x h2.2
        omega
      rw [List.length_erase_of_mem hn] at h1
      omega
    · have h1 := nodup_len n l nd fun x hx => by
        have h3 := h x hx
        have h4 : x ≠ n := fun e => hn (e ▸ hx)
        omega
      omega

/-- the voters who want all of ks -/
noncomputable def commonF (rows : List (List Int)) (ks : List Int) : List Int := ((List.range rows.length).filter fun i => ks.all fun k => decide (k ∈ rows.getD i [])).map fun i : Nat => (i : Int)

/-- voter i wants work k -/
noncomputable def WR (rows : List (List Int)) (i k : Nat) : Bool := decide ((k : Int) ∈ rows.getD i [])
/-- purses by voters -/
noncomputable def PF (ps : List Int) (i : Nat) : Int := ps.getD i 0



/-- the place of the least offer -/
noncomputable def NextOk (os : List (Option Int)) : Option Nat → Prop
  | none => ∀ o ∈ os, o = none
  | some k => ∃ L, os[k]? = some (some L) ∧ ∀ j M, os[j]? = some (some M) → L ≤ M ∧ (j < k → L < M)

theorem PF_map (n : Nat) (f : Nat → Int) (h : ∀ i, n ≤ i → f i = 0) : PF ((List.range n).map f) = f := by
  funext i
  unfold PF
  by_cases hi : i < n
  · simp [List.getD, hi]
  · rw [h i (by omega)]
    simp [List.getD, hi]


theorem paired_of_get {α β : Type} {F : α → β → Prop} : ∀ {xs : List α} {ts : List β}, xs.length = ts.length → (∀ (i : Nat) (x : α) (t : β), xs[i]? = some x → ts[i]? = some t → F x t) → Paired F xs ts
  | [], [], _, _ => .nil
  | [], _ :: _, h, _ => by simp at h
  | _ :: _, [], h, _ => by simp at h
  | x :: r, u :: q, hl, h => .cons (h 0 x u rfl rfl) (paired_of_get (by simpa using hl) fun i y w e e' => h (i + 1) y w (by simpa using e) (by simpa using e'))
theorem paired_range {α : Type} {F : α → Addr → Prop} {T : Addr → Prop} {xs : List α} {ts : List Addr} (h : Paired (fun i t => T t ∧ ∀ x, xs[i]? = some x → F x t) (List.range xs.length) ts) : Paired F xs ts := by
  have hl := Paired.length h
  rw [List.length_range] at hl
  refine paired_of_get hl fun i x t hx ht => ?_
  obtain ⟨j, hj, hF⟩ := paired_at' h ht
  have hi : i < xs.length := (List.getElem?_eq_some_iff.mp hx).1
  have e : j = i := by
    rw [List.getElem?_range hi] at hj
    exact (Option.some.inj hj).symm
  subst e
  exact hF.2 x hx


/-- rows in a list that is being made -/
noncomputable def RowsM (H : Hp) (l : Addr) (rows : List (List Int)) : Prop := ∃ bs : List Addr, H l = some (.lst (bs.map V.ref)) ∧ Paired (fun r b => b ≠ l ∧ H b = some (.lst (r.map V.int))) rows bs
theorem RowsM.rowsL {K : PySem.W.Frag} {H : Hp} {l : Addr} {rows : List (List Int)} (h : RowsM H l rows) : RowsL K H l rows := by
  obtain ⟨bs, h1, h2⟩ := h
  exact ⟨bs, h1, Paired.mapP h2 fun _ _ q => SqL.of q.2⟩
theorem RowsM.same {H H' : Hp} {l : Addr} {rows : List (List Int)} (s : Same H H') (h : RowsM H l rows) : RowsM H' l rows := by
  obtain ⟨bs, h1, h2⟩ := h
  exact ⟨bs, s _ _ h1, Paired.mapP h2 fun _ _ q => ⟨q.1, s _ _ q.2⟩⟩
theorem RowsM.snoc {H : Hp} {l b : Addr} {rows : List (List Int)} {r : List Int} (h : RowsM H l rows) (hb : H b = some (.lst (r.map V.int))) (hn : b ≠ l) :
    ∃ xs, H l = some (.lst xs) ∧ xs.length = rows.length ∧ RowsM (upd H l (.lst (xs ++ [.ref b]))) l (rows ++ [r]) := by
  obtain ⟨bs, h1, h2⟩ := h
  refine ⟨_, h1, by rw [List.length_map]; exact (Paired.length h2).symm, bs ++ [b], by rw [upd_same, List.map_append]; rfl, ?_⟩
  have key : ∀ {rs : List (List Int)} {bs : List Addr}, Paired (fun r b => b ≠ l ∧ H b = some (.lst (r.map V.int))) rs bs → ∀ H' : Hp, (∀ x, x ≠ l → H' x = H x) → Paired (fun r b => b ≠ l ∧ H' b = some (.lst (r.map V.int))) (rs ++ [r]) (bs ++ [b]) := by
    intro rs bs h H' e
    induction h with
    | nil => exact .cons ⟨hn, by rw [e _ hn]; exact hb⟩ .nil
    | cons q _ ih => exact .cons ⟨q.1, by rw [e _ q.1]; exact q.2⟩ ih
  exact key h2 _ fun x hx => upd_ne hx

/-- rows in new lists -/
noncomputable def RowsN (H0 H : Hp) (l : Addr) (rows : List (List Int)) : Prop := ∃ bs : List Addr, H l = some (.lst (bs.map V.ref)) ∧ Paired (fun r b => (H0 b = none ∧ b ≠ l) ∧ H b = some (.lst (r.map V.int))) rows bs
theorem RowsN.rowsM {H0 H : Hp} {l : Addr} {rows : List (List Int)} (h : RowsN H0 H l rows) : RowsM H l rows := by
  obtain ⟨bs, h1, h2⟩ := h
  exact ⟨bs, h1, Paired.mapP h2 fun _ _ q => ⟨q.1.2, q.2⟩⟩
theorem comp_copyR {K : PySem.W.Frag} {H : Hp} {a : Addr} {rows : List (List Int)} {σ : St} {Q : VK} (h : RowsAt K H a rows) (hz : rows.length ≤ 1000) (hd : ∀ l H', H l = none → Same H H' → RowsN H H' l rows → Q (.ref l) H') :
    tCompK [none] (gName 0) tYes (tCB (rListOf K) (tCons (tVar 0) tNil)) (Itl K a) σ H Q := by
  obtain ⟨bs, hB, hP⟩ := h
  have hbl : bs.length = rows.length := (Paired.length hP).symm
  have hlm : (bs.map V.ref).length = bs.length := List.length_map _
  refine comp_genY (ys_list (xs := bs.map V.ref) 0) (fun j => [some ((bs.map V.ref).getD j .non)]) (by rintro j σ' (rfl | ⟨k, rfl⟩) <;> rfl) (fun H' s => s.seq hB) (by rw [hlm, hbl]; exact Nat.le_trans hz line64) (fun _ => true)
    (fun l i v H' => ∃ b, v = .ref b ∧ (b ≠ l ∧ H b = none ∧ ∀ r, rows[i]? = some r → H' b = some (.lst (r.map V.int)))) (fun l i v H1 H2 s ⟨b, e, hl, h0, h⟩ => ⟨b, e, hl, h0, fun r hr => s _ _ hl (h r hr)⟩) (fun i hi H' G s k => k H' (Same.refl _)) ?_ ?_
  · intro l j hj _ H' G hl ⟨o, ho⟩ s k
    rw [hlm] at hj
    have e : (bs.map V.ref).getD j .non = .ref bs[j] := by simp [List.getD, hj]
    rw [e]
    obtain ⟨r, hr, hq⟩ := paired_at' hP (show bs[j]? = some bs[j] by simp [hj])
    have hq' := s.seq hq
    walk_at "v"
    rename_i b J g t h
    exact k _ _ ⟨b, rfl, (fun z => by rw [z, ho] at g; cases g), s.free g, fun r' hr' => by rw [hr] at hr'; cases hr'; exact h⟩ t
  · intro l ys H' f s h pr
    rw [List.filter_eq_self.mpr (fun _ _ => rfl)] at pr
    obtain ⟨tk, rfl, pk⟩ := paired_refs (T := fun b i => b ≠ l ∧ H b = none ∧ ∀ r, rows[i]? = some r → H' b = some (.lst (r.map V.int))) pr
    refine hd l H' f s ⟨tk, h, ?_⟩
    rw [hlm, hbl] at pk
    refine paired_range (T := fun b => b ≠ l ∧ H b = none) (Paired.mapP pk fun i b q => ⟨⟨q.1, q.2.1⟩, fun r hr => ⟨⟨q.2.1, q.1⟩, q.2.2 r hr⟩⟩)


/-! for the choosing's own functions -/

/-! papers: rows (voter, left) -/
theorem paired_mapL {α β γ : Type} {F : β → γ → Prop} {g : α → β} : ∀ {xs : List α} {ys : List γ}, Paired (fun x y => F (g x) y) xs ys → Paired F (xs.map g) ys
  | _, _, .nil => .nil
  | _, _, .cons h t => .cons h (paired_mapL t)

/-! lists of works, rising -/
noncomputable def castL (ws : List Nat) : List Int := ws.map fun k : Nat => (k : Int)
noncomputable def nxtW (ws : List Nat) : Nat := match ws.getLast? with
  | none => 0
  | some w => w + 1
noncomputable def longF (n : Nat) (wss : List (List Nat)) : List (List Nat) := wss.flatMap fun ws => (List.range (n - nxtW ws)).map fun i => ws ++ [nxtW ws + i]
structure Rise (n j : Nat) (ws : List Nat) : Prop where
  pw : ws.Pairwise (· < ·)
  lt : ∀ w ∈ ws, w < n
  len : ws.length = j
theorem nxt_gt {ws : List Nat} (h : ws.Pairwise (· < ·)) : ∀ w ∈ ws, w < nxtW ws := by
  intro w hw
  cases e : ws.getLast? with
  | none =>
    rw [List.getLast?_eq_none_iff] at e
    rw [e] at hw
    simp at hw
  | some z =>
    have e2 : nxtW ws = z + 1 := by unfold nxtW; rw [e]
    obtain ⟨ys, rfl⟩ := List.getLast?_eq_some_iff.mp e
    rw [e2]
    rcases List.mem_append.mp hw with m | m
    · have := (List.pairwise_append.mp h).2.2 w m z (by simp)
      omega
    · have : w = z := by simpa using m
      omega
theorem nxt_le {n j : Nat} {ws : List Nat} (h : Rise n j ws) : j ≤ nxtW ws := by
  have := nodup_len (nxtW ws) ws (List.Pairwise.imp (fun h => Nat.ne_of_lt h) h.pw) (nxt_gt h.pw)
  rw [h.len] at this
  exact this
theorem nxt_top {n j : Nat} {ws : List Nat} (h : Rise n j ws) : nxtW ws ≤ n := by
  cases e : ws.getLast? with
  | none => unfold nxtW; rw [e]; exact Nat.zero_le _
  | some z =>
    have e2 : nxtW ws = z + 1 := by unfold nxtW; rw [e]
    rw [e2]
    exact h.lt z (List.mem_of_getLast? e)
theorem rise_le {n j : Nat} {ws : List Nat} (h : Rise n j ws) : j ≤ n := by
  have := nodup_len n ws (List.Pairwise.imp (fun h => Nat.ne_of_lt h) h.pw) h.lt
  rw [h.len] at this
  exact this
theorem rise_snoc {n j i : Nat} {ws : List Nat} (h : Rise n j ws) (hi : i < n - nxtW ws) : Rise n (j + 1) (ws ++ [nxtW ws + i]) := by
  refine ⟨List.pairwise_append.mpr ⟨h.pw, List.pairwise_singleton _ _, fun a ha b hb => ?_⟩, fun w hw => ?_, by rw [List.length_append, h.len]; rfl⟩
  · have : b = nxtW ws + i := by simpa using hb
    have := nxt_gt h.pw a ha
    omega
  · rcases List.mem_append.mp hw with m | m
    · exact h.lt w m
    · have : w = nxtW ws + i := by simpa using m
      omega
theorem long_rise {n j : Nat} {wss : List (List Nat)} (h : ∀ ws ∈ wss, Rise n j ws) : ∀ ws ∈ longF n wss, Rise n (j + 1) ws := by
  intro ws hw
  obtain ⟨us, hu, hm⟩ := List.mem_flatMap.mp hw
  obtain ⟨i, hi, e⟩ := List.mem_map.mp hm
  rw [← e]
  exact rise_snoc (h us hu) (List.mem_range.mp hi)
theorem long_len {n j : Nat} : ∀ {wss : List (List Nat)}, (∀ ws ∈ wss, Rise n j ws) → (longF n wss).length ≤ wss.length * (n - j)
  | [], _ => by simp [longF]
  | ws :: r, h => by
    have h1 := long_len fun us hu => h us (List.mem_cons_of_mem _ hu)
    have h2 := nxt_le (h ws List.mem_cons_self)
    unfold longF at h1 ⊢
    rw [List.flatMap_cons, List.length_append, List.length_map, List.length_range, List.length_cons, Nat.add_mul, Nat.one_mul]
    have : n - nxtW ws ≤ n - j := by omega
    omega
noncomputable def fallN (n : Nat) : Nat → Nat
  | 0 => 1
  | j + 1 => fallN n j * (n - j)
theorem fall_le : ∀ n, n ≤ 8 → ∀ j, j ≤ 9 → fallN n j ≤ 40320 := by decide +kernel
/-- the group of a list of works -/
noncomputable def grpF (rows : List (List Int)) (done ws : List Nat) : List Nat := (List.range rows.length).filter fun i => (ws.all fun w => WR rows i w) && decide (((rows.getD i []).filter fun k => decide (k ∈ castL done)).length < ws.length)
noncomputable def cstF (cs : List Int) (ws : List Nat) : Int := (ws.map fun w => cs.getD w 0).sum

/-! the order of lists of works: by length, then least -/
theorem lex_app_same : ∀ (a : List Int) (x y : Int), HT.lexLt (a ++ [x]) (a ++ [y]) = decide (x < y)
  | [], x, y => by
    show HT.lexLt (x :: []) (y :: []) = _
    rw [HT.lexLt_cons]
    by_cases e : x = y
    · rw [if_pos e, HT.lexLt_nil_nil, decide_eq_false (by omega)]
    · rw [if_neg e]
  | z :: a, x, y => by
    show HT.lexLt (z :: (a ++ [x])) (z :: (a ++ [y])) = _
    rw [HT.lexLt_cons, if_pos rfl]
    exact lex_app_same a x y
theorem lex_app_lt : ∀ (a b : List Int) (x y : List Int), a.length = b.length → HT.lexLt a b = true → HT.lexLt (a ++ x) (b ++ y) = true
  | [], [], _, _, _, h => by cases h
  | [], _ :: _, _, _, h, _ => by simp at h
  | _ :: _, [], _, _, h, _ => by simp at h
  | u :: a, v :: b, x, y, hl, h => by
    show HT.lexLt (u :: (a ++ x)) (v :: (b ++ y)) = true
    rw [HT.lexLt_cons] at h ⊢
    by_cases e : u = v
    · rw [if_pos e] at h ⊢
      exact lex_app_lt a b x y (by simpa using hl) h
    · rw [if_neg e] at h ⊢
      exact h
noncomputable def lexW (a b : List Nat) : Prop := HT.lexLt (castL a) (castL b) = true
noncomputable def ordL (a b : List Nat) : Prop := a.length < b.length ∨ (a.length = b.length ∧ lexW a b)
theorem castL_snoc (a : List Nat) (x : Nat) : castL (a ++ [x]) = castL a ++ [(x : Int)] := by unfold castL; rw [List.map_append]; rfl
/-- one longer: still in order -/
theorem long_lex {n j : Nat} : ∀ {wss : List (List Nat)}, (∀ ws ∈ wss, Rise n j ws) → wss.Pairwise lexW → (longF n wss).Pairwise lexW
  | [], _, _ => .nil
  | ws :: r, h, hp => by
    obtain ⟨h1, h2⟩ := List.pairwise_cons.mp hp
    have ih := long_lex (fun us hu => h us (List.mem_cons_of_mem _ hu)) h2
    unfold longF at ih ⊢
    rw [List.flatMap_cons]
    refine List.pairwise_append.mpr ⟨?_, ih, fun a ha b hb => ?_⟩
    · refine List.Pairwise.map _ (fun x y hxy => ?_) List.pairwise_lt_range
      unfold lexW
      rw [castL_snoc, castL_snoc, lex_app_same]
      exact decide_eq_true (by omega)
    · obtain ⟨i, _, rfl⟩ := List.mem_map.mp ha
      obtain ⟨us, hu, hm⟩ := List.mem_flatMap.mp hb
      obtain ⟨i', _, rfl⟩ := List.mem_map.mp hm
      unfold lexW
      rw [castL_snoc, castL_snoc]
      refine lex_app_lt _ _ _ _ ?_ (h1 us hu)
      have e1 := (h ws List.mem_cons_self).len
      have e2 := (h us (List.mem_cons_of_mem _ hu)).len
      simp [castL, e1, e2]
theorem rise_cut {n j : Nat} {ws : List Nat} (h : Rise n (j + 1) ws) : ∃ us i, Rise n j us ∧ i < n - nxtW us ∧ ws = us ++ [nxtW us + i] := by
  rcases List.eq_nil_or_concat ws with e | ⟨us, w, e⟩
  · have := h.len
    rw [e] at this
    simp at this
  have e : ws = us ++ [w] := by rw [e, List.concat_eq_append]
  subst e
  obtain ⟨p1, _, p3⟩ := List.pairwise_append.mp h.pw
  have hlen := h.len
  rw [List.length_append] at hlen
  have hr : Rise n j us := ⟨p1, fun x hx => h.lt x (List.mem_append_left _ hx), by simpa using hlen⟩
  have hw := h.lt w (by simp)
  have hn : nxtW us ≤ w := by
    unfold nxtW
    cases e : us.getLast? with
    | none => exact Nat.zero_le _
    | some z => exact p3 z (List.mem_of_getLast? e) w (by simp)
  exact ⟨us, w - nxtW us, hr, by omega, by rw [show nxtW us + (w - nxtW us) = w by omega]⟩
theorem long_all {n j : Nat} {wss : List (List Nat)} (h : ∀ ws, Rise n j ws → ws ∈ wss) : ∀ ws, Rise n (j + 1) ws → ws ∈ longF n wss := fun ws hw => by
  obtain ⟨us, i, h1, h2, rfl⟩ := rise_cut hw
  exact List.mem_flatMap.mpr ⟨us, h us h1, List.mem_map.mpr ⟨i, List.mem_range.mpr h2, rfl⟩⟩
theorem rise_shorter {n : Nat} : ∀ {i j : Nat} {ws : List Nat}, Rise n j ws → i ≤ j → ∃ us, Rise n i us
  | i, j, ws, h, hij => by
    refine ⟨ws.take i, List.Pairwise.sublist (List.take_sublist _ _) h.pw, fun w hw => h.lt w (List.mem_of_mem_take hw), ?_⟩
    rw [List.length_take, h.len]
    omega
/-- all lists of works, in order -/
structure AllW (n : Nat) (wss : List (List Nat)) : Prop where
  rise : ∀ ws ∈ wss, ∃ j, 1 ≤ j ∧ Rise n j ws
  all : ∀ j ws, 1 ≤ j → Rise n j ws → ws ∈ wss
  ord : wss.Pairwise ordL
theorem ordL_irr (a : List Nat) : ¬ ordL a a := fun h => by
  rcases h with h | ⟨_, h⟩
  · omega
  · unfold lexW at h
    rw [lex_irr] at h
    cases h
theorem ordL_tr {a b c : List Nat} (h1 : ordL a b) (h2 : ordL b c) : ordL a c := by
  rcases h1 with h1 | ⟨e1, h1⟩
  · rcases h2 with h2 | ⟨e2, _⟩
    · exact .inl (by omega)
    · exact .inl (by omega)
  · rcases h2 with h2 | ⟨e2, h2⟩
    · exact .inl (by omega)
    · exact .inr ⟨by omega, lex_tr _ _ _ h1 h2⟩
/-- the lists of fewer than j works, in order -/
structure PreW (n j : Nat) (tss : List (List Nat)) : Prop where
  rise : ∀ ws ∈ tss, ∃ i, 1 ≤ i ∧ i < j ∧ Rise n i ws
  all : ∀ i ws, 1 ≤ i → i < j → Rise n i ws → ws ∈ tss
  ord : tss.Pairwise ordL
theorem PreW.step {n j : Nat} {tss wss : List (List Nat)} (P : PreW n j tss) (hj : 1 ≤ j) (h1 : ∀ ws ∈ wss, Rise n j ws) (h2 : wss.Pairwise lexW) (h3 : ∀ ws, Rise n j ws → ws ∈ wss) : PreW n (j + 1) (tss ++ wss) := by
  refine ⟨fun ws hw => ?_, fun i ws hi hij hr => ?_, List.pairwise_append.mpr ⟨P.ord, ?_, fun a ha b hb => ?_⟩⟩
  · rcases List.mem_append.mp hw with z | z
    · obtain ⟨i, a, b, c⟩ := P.rise ws z
      exact ⟨i, a, by omega, c⟩
    · exact ⟨j, hj, by omega, h1 ws z⟩
  · by_cases e : i = j
    · subst e
      exact List.mem_append_right _ (h3 ws hr)
    · exact List.mem_append_left _ (P.all i ws hi (by omega) hr)
  · refine h2.imp_of_mem fun {a b} ha hb h => .inr ⟨?_, h⟩
    rw [(h1 a ha).len, (h1 b hb).len]
  · obtain ⟨i, _, hij, hr⟩ := P.rise a ha
    exact .inl (by rw [hr.len, (h1 b hb).len]; exact hij)
theorem PreW.fin {n j : Nat} {tss : List (List Nat)} (P : PreW n j tss) (h : ∀ ws, ¬ Rise n j ws) : AllW n tss := by
  refine ⟨fun ws hw => let ⟨i, a, _, c⟩ := P.rise ws hw; ⟨i, a, c⟩, fun i ws hi hr => ?_, P.ord⟩
  by_cases e : i < j
  · exact P.all i ws hi e hr
  · obtain ⟨us, hu⟩ := rise_shorter hr (show j ≤ i by omega)
    exact absurd hu (h us)
/-- a list of works that wrongs its group -/
noncomputable def WrongAt (coins : Nat) (cs : List Int) (rows : List (List Int)) (done ws : List Nat) : Prop := grpF rows done ws ≠ [] ∧ cstF cs ws * (rows.length : Int) ≤ (coins : Int) * ((grpF rows done ws).length : Int)
/-- the first of them -/
structure FirstW (coins : Nat) (cs : List Int) (rows : List (List Int)) (done ws : List Nat) : Prop where
  rise : ∃ j, 1 ≤ j ∧ Rise cs.length j ws
  wrong : WrongAt coins cs rows done ws
  least : ∀ j us, 1 ≤ j → Rise cs.length j us → WrongAt coins cs rows done us → us = ws ∨ ordL ws us
theorem first_unique {coins : Nat} {cs : List Int} {rows : List (List Int)} {done ws us : List Nat} (h : FirstW coins cs rows done ws) (h' : FirstW coins cs rows done us) : ws = us := by
  obtain ⟨j, hj, hr⟩ := h.rise
  obtain ⟨i, hi, hs⟩ := h'.rise
  rcases h.least i us hi hs h'.wrong with e | e
  · exact e.symm
  · rcases h'.least j ws hj hr h.wrong with e' | e'
    · exact e'
    · exact absurd (ordL_tr e e') (ordL_irr _)
theorem castL_inj {a b : List Nat} (h : castL a = castL b) : a = b := by
  unfold castL at h
  exact (List.map_inj_right (fun x y hxy => by omega)).mp h
theorem castL_len (a : List Nat) : (castL a).length = a.length := by unfold castL; exact List.length_map _
/-- the least key is the first in order -/
theorem key_first {ws us g g' : List Nat} (h : HT.lexLt (keyM (castL us) (castL g')) (keyM (castL ws) (castL g)) = false) : us = ws ∨ ordL ws us := by
  by_cases e : us = ws
  · exact .inl e
  refine .inr ?_
  have hc : castL ws ≠ castL us := fun z => e (castL_inj z).symm
  have hk : keyM (castL us) (castL g') ≠ keyM (castL ws) (castL g) := fun z => by
    unfold keyM at z
    obtain ⟨z1, z2⟩ := List.cons.inj z
    exact hc (List.append_inj_left z2 (by omega)).symm
  have h2 := lex_tt _ _ hk h
  unfold keyM at h2
  rw [HT.lexLt_cons, castL_len, castL_len] at h2
  by_cases hl : (ws.length : Int) = us.length
  · rw [if_pos hl, lex_app_ne _ _ _ _ (by rw [castL_len, castL_len]; omega) hc] at h2
    exact .inr ⟨by omega, h2⟩
  · rw [if_neg hl] at h2
    have := of_decide_eq_true h2
    exact .inl (by omega)
noncomputable def wrongB (coins : Nat) (cs : List Int) (rows : List (List Int)) (done ws : List Nat) : Bool := decide (grpF rows done ws ≠ []) && decide (cstF cs ws * (rows.length : Int) ≤ (coins : Int) * ((grpF rows done ws).length : Int))
theorem wrongB_iff {coins : Nat} {cs : List Int} {rows : List (List Int)} {done ws : List Nat} : wrongB coins cs rows done ws = true ↔ WrongAt coins cs rows done ws := by
  unfold wrongB WrongAt
  rw [Bool.and_eq_true, decide_eq_true_iff, decide_eq_true_iff]
/-- a tuple (length, works, group) as it lies -/
noncomputable def T3At (H : Hp) (rows : List (List Int)) (done : List Nat) (lw : Addr) (ws : List Nat) (t : Addr) : Prop := ∃ la lg, la ≠ lw ∧ lg ≠ lw ∧ H t = some (.tup [.int (ws.length : Nat), .ref la, .ref lg]) ∧ H la = some (.lst ((castL ws).map V.int)) ∧ H lg = some (.lst ((castL (grpF rows done ws)).map V.int))
noncomputable def dT3 (rows : List (List Int)) (done ws : List Nat) : PyData := .tuple [.int (ws.length : Nat), dInts (castL ws), dInts (castL (grpF rows done ws))]
theorem dat_T3 {K : PySem.W.Frag} {H : Hp} {rows : List (List Int)} {done : List Nat} {lw : Addr} : ∀ {wss : List (List Nat)} {ts : List Addr}, Paired (T3At H rows done lw) wss ts → DatAll K H (ts.map V.ref) (wss.map (dT3 rows done))
  | _, _, .nil => .nil
  | _, _, .cons ⟨_, _, _, _, h1, h2, h3⟩ t => .cons (.tup (SqT.of h1) (.cons (.int _) (.cons (dat_list (SqL.of h2)) (.cons (dat_list (SqL.of h3)) .nil)))) (dat_T3 t)
theorem nd_T3 (rows : List (List Int)) (done : List Nat) (wss : List (List Nat)) : niceD 3 (.list (wss.map (dT3 rows done))) := nd_list fun d hd => by
  obtain ⟨ws, _, e⟩ := List.mem_map.mp hd
  rw [← e]
  refine nd_tuple fun d hd => ?_
  have : d = .int (ws.length : Nat) ∨ d = dInts (castL ws) ∨ d = dInts (castL (grpF rows done ws)) := by simpa using hd
  rcases this with e | e | e
  · rw [e]; exact nd_int _
  · rw [e]; exact nd_ints _
  · rw [e]; exact nd_ints _

noncomputable def sp_wants_all (K : PySem.W.Frag) : Sp := spOf 2 fun vs H Q => ∃ (a b : Addr) (ws ks : List Int), vs = [.ref a, .ref b] ∧ SqL K H a (ws.map V.int) ∧ SqL K H b (ks.map V.int) ∧ ks.length ≤ 64 ∧ ∀ H', Same H H' → Q (.bl (ks.all fun k => decide (k ∈ ws))) H'

noncomputable def sp_common_of (K : PySem.W.Frag) : Sp := spOf 2 fun vs H Q => ∃ (a b : Addr) (rows : List (List Int)) (ks : List Int), vs = [.ref a, .ref b] ∧ RowsAt K H a rows ∧ SqL K H b (ks.map V.int) ∧ rows.length ≤ 64 ∧ ks.length ≤ 64 ∧
  ∀ l H', H l = none → Same H H' → H' l = some (.lst ((commonF rows ks).map V.int)) → Q (.ref l) H'

noncomputable def sp_cost_of (K : PySem.W.Frag) : Sp := spOf 2 fun vs H Q => ∃ (a b : Addr) (cs ks : List Int), vs = [.ref a, .ref b] ∧ SqL K H a (cs.map V.int) ∧ SqL K H b (ks.map V.int) ∧ ks.length ≤ 64 ∧ (∀ k ∈ ks, ∃ n : Nat, k = n ∧ n < cs.length) ∧
  ∀ H', Same H H' → Q (.int (ks.map fun k => cs.getD k.toNat 0).sum) H'

noncomputable def sp_longer_lists (_ : PySem.W.Frag) : Sp := spOf 2 fun vs H Q => ∃ (a : Addr) (wss : List (List Nat)) (n j : Nat), vs = [.ref a, .int n] ∧ RowsM H a (wss.map castL) ∧ n ≤ 8 ∧ wss.length ≤ 40320 ∧ (∀ ws ∈ wss, Rise n j ws) ∧
  ∀ l H', H l = none → Same H H' → RowsN H H' l ((longF n wss).map castL) → Q (.ref l) H'

noncomputable def sp_work_lists (_ : PySem.W.Frag) : Sp := spOf 1 fun vs H Q => ∃ n : Nat, vs = [.int n] ∧ n ≤ 8 ∧
  ∀ l H' (wss : List (List Nat)), H l = none → Same H H' → RowsN H H' l (wss.map castL) → AllW n wss → wss.length ≤ 400000 → Q (.ref l) H'

noncomputable def sp_wanted_among (K : PySem.W.Frag) : Sp := spOf 2 fun vs H Q => ∃ (a b : Addr) (ws ks : List Int), vs = [.ref a, .ref b] ∧ SqL K H a (ws.map V.int) ∧ SqL K H b (ks.map V.int) ∧ ws.length ≤ 64 ∧ ∀ H', Same H H' → Q (.int ((ws.filter fun k => decide (k ∈ ks)).length : Nat)) H'

noncomputable def sp_group_of (K : PySem.W.Frag) : Sp := spOf 3 fun vs H Q => ∃ (a b c : Addr) (rows : List (List Int)) (ws done : List Nat), vs = [.ref a, .ref b, .ref c] ∧ RowsAt K H a rows ∧ SqL K H b ((castL ws).map V.int) ∧ SqL K H c ((castL done).map V.int) ∧ rows.length ≤ 20 ∧ (∀ r ∈ rows, r.length ≤ 64) ∧ ws.length ≤ 64 ∧
  ∀ l H', H l = none → Same H H' → H' l = some (.lst (((grpF rows done ws).map fun i : Nat => (i : Int)).map V.int)) → Q (.ref l) H'

noncomputable def sp_could_pay (K : PySem.W.Frag) : Sp := spOf 5 fun vs H Q => ∃ (coins : Nat) (a b c d : Addr) (cs : List Int) (rows : List (List Int)) (ws gs : List Nat), vs = [.int coins, .ref a, .ref b, .ref c, .ref d] ∧ coins ≤ 1000000000000 ∧ SqL K H a (cs.map V.int) ∧ RowsAt K H b rows ∧ SqL K H c ((castL ws).map V.int) ∧ SqL K H d ((castL gs).map V.int) ∧ rows.length ≤ 20 ∧ ws.length ≤ 64 ∧ (∀ w ∈ ws, w < cs.length) ∧
  ∀ H', Same H H' → Q (.bl (decide (cstF cs ws * (rows.length : Int) ≤ (coins : Int) * (gs.length : Int)))) H'

noncomputable def sp_wronged (K : PySem.W.Frag) : Sp := spOf 4 fun vs H Q => ∃ (coins : Nat) (a b c : Addr) (cs : List Int) (rows : List (List Int)) (done : List Nat), vs = [.int coins, .ref a, .ref b, .ref c] ∧ coins ≤ 1000000000000 ∧ SqL K H a (cs.map V.int) ∧ RowsAt K H b rows ∧ SqL K H c ((castL done).map V.int) ∧ cs.length ≤ 8 ∧ rows.length ≤ 20 ∧ (∀ r ∈ rows, r.length ≤ 64) ∧
  ((∀ j ws, 1 ≤ j → Rise cs.length j ws → ¬ WrongAt coins cs rows done ws) → ∀ H', Same H H' → Q .non H') ∧
  ∀ t la lg H' (ws : List Nat), Same H H' → FirstW coins cs rows done ws → H t = none → H la = none → H lg = none → la ≠ lg → H' t = some (.tup [.ref la, .ref lg]) → H' la = some (.lst ((castL ws).map V.int)) → H' lg = some (.lst ((castL (grpF rows done ws)).map V.int)) → Q (.ref t) H'

noncomputable def sp__law_cell_at (K : PySem.W.Frag) : Sp := spOf 2 fun vs H Q => ∃ (a : Addr) (ns : List Int) (k : Nat), vs = [.ref a, .int k] ∧ SqL K H a (ns.map V.int) ∧ Q (.int (ns.getD k 0)) H

noncomputable def sp__law_whole (_ : PySem.W.Frag) : Sp := spOf 1 fun vs H Q => ∃ i, vs = [.int i] ∧ Q (.bl true) H

noncomputable def sp__law_draw (_ : PySem.W.Frag) : Sp := spOf 2 fun vs H Q => ∃ (c : Int) (p : Nat), vs = [.int c, .int p] ∧ p ≤ 100 ∧ ∀ r : Int, 0 ≤ r → r < 1000000007 → Q (.int r) H

noncomputable def sp__law_draws (_ : PySem.W.Frag) : Sp := spOf 2 fun vs H Q => ∃ (c : Int) (n : Nat), vs = [.int c, .int n] ∧ n ≤ 20 ∧ ∀ l H' (xs : List Int), H l = none → Same H H' → H' l = some (.lst (xs.map V.int)) → xs.length = n → (∀ x ∈ xs, 0 ≤ x ∧ x < 1000000007) → Q (.ref l) H'

/-- a row of wishes: rising, below n -/
noncomputable def RowOk (n : Nat) (r : List Int) : Prop := ∃ ws : List Nat, r = castL ws ∧ ws.Pairwise (· < ·) ∧ ∀ w ∈ ws, w < n
noncomputable def sp__law_wishes (K : PySem.W.Frag) : Sp := spOf 3 fun vs H Q => ∃ (a b : Addr) (zs u : List Int) (n : Nat), vs = [.ref a, .int n, .ref b] ∧ SqL K H a (zs.map V.int) ∧ zs.length ≤ 20 ∧ n ≤ 8 ∧ SqL K H b (u.map V.int) ∧ RowOk n u ∧
  ∀ l H' (rows : List (List Int)), H l = none → Same H H' → RowsM H' l rows → rows.length = zs.length → (∀ r ∈ rows, RowOk n r) → Q (.ref l) H'

noncomputable def sp__law_town (K : PySem.W.Frag) : Sp := spOf 1 fun vs H Q => ∃ (a : Addr) (ns : List Int), vs = [.ref a] ∧ SqL K H a (ns.map V.int) ∧ ns.length ≤ 63 ∧
  ∀ t lc lw H' (m : Nat) (cs : List Int) (rows : List (List Int)), Same H H' → H' t = some (.tup [.int m, .ref lc, .ref lw]) → H' lc = some (.lst (cs.map V.int)) → RowsM H' lw rows → m ≤ 1000000000000 → cs.length ≤ 8 → (∀ x ∈ cs, 1 ≤ x ∧ x ≤ 1000000000000) → 1 ≤ rows.length → rows.length ≤ 20 → (∀ r ∈ rows, RowOk cs.length r) → Q (.ref t) H'

noncomputable def sp__law_sets (_ : PySem.W.Frag) : Sp := spOf 1 fun vs H Q => ∃ n : Nat, vs = [.int n] ∧ n ≤ 8 ∧
  ∀ l H' (wss : List (List Nat)), H l = none → Same H H' → RowsM H' l (wss.map castL) → (∀ ws ∈ wss, ∃ j, 1 ≤ j ∧ Rise n j ws) → (∀ j ws, 1 ≤ j → Rise n j ws → ws ∈ wss) → wss.length ≤ 256 → Q (.ref l) H'

noncomputable def sp__law_group (K : PySem.W.Frag) : Sp := spOf 3 fun vs H Q => ∃ (a b c : Addr) (rows : List (List Int)) (ws done : List Nat), vs = [.ref a, .ref b, .ref c] ∧ RowsAt K H a rows ∧ SqL K H b ((castL ws).map V.int) ∧ SqL K H c ((castL done).map V.int) ∧ rows.length ≤ 20 ∧ (∀ r ∈ rows, r.length ≤ 64) ∧ ws.length ≤ 64 ∧
  ∀ l H', H l = none → Same H H' → H' l = some (.lst ((castL (grpF rows done ws)).map V.int)) → Q (.ref l) H'

noncomputable def sp__law_due (K : PySem.W.Frag) : Sp := spOf 4 fun vs H Q => ∃ (coins : Nat) (a b c : Addr) (cs : List Int) (rows : List (List Int)) (done : List Nat), vs = [.int coins, .ref a, .ref b, .ref c] ∧ coins ≤ 1000000000000 ∧ SqL K H a (cs.map V.int) ∧ RowsAt K H b rows ∧ SqL K H c ((castL done).map V.int) ∧ cs.length ≤ 8 ∧ (∀ x ∈ cs, 1 ≤ x ∧ x ≤ 1000000000000) ∧ rows.length ≤ 20 ∧ (∀ r ∈ rows, r.length ≤ 64) ∧
  ((∀ j ws, 1 ≤ j → Rise cs.length j ws → ¬ WrongAt coins cs rows done ws) → ∀ H', Same H H' → Q .non H') ∧
  ∀ t la lg H' (ws : List Nat), Same H H' → FirstW coins cs rows done ws → H' t = some (.tup [.ref la, .ref lg]) → H' la = some (.lst ((castL ws).map V.int)) → H' lg = some (.lst ((castL (grpF rows done ws)).map V.int)) → Q (.ref t) H'

/-- a tuple of two lists of whole numbers -/
noncomputable def P2At (H : Hp) (t la lg : Addr) (ws gs : List Int) : Prop := H t = some (.tup [.ref la, .ref lg]) ∧ H la = some (.lst (ws.map V.int)) ∧ H lg = some (.lst (gs.map V.int))
noncomputable def sp__law_alike (_ : PySem.W.Frag) : Sp := spOf 2 fun vs H Q => (vs = [.non, .non] ∨ ∃ (t la lg u lb lh : Addr) (ws gs : List Int), vs = [.ref t, .ref u] ∧ P2At H t la lg ws gs ∧ P2At H u lb lh ws gs ∧ ws.length ≤ 64 ∧ gs.length ≤ 64) ∧ ∀ H', Same H H' → Q (.bl true) H'

/-! ### the text by places -/
noncomputable def top (i : Nat) : Stmt := PySem.Challenge.pw_purse_k31_groups_found.main.body.getD i (.Pass ⟨0, 0, 0, 0⟩)
noncomputable abbrev s_wants_all : Stmt := top 1
theorem sc_wants_all : FnScope ["wanted", "works"] ["wanted", "works"] (defScope s_wants_all) := ⟨rfl, rfl, rfl, by decide +kernel, rfl, by decide +kernel, by decide +kernel⟩
noncomputable abbrev s_common_of : Stmt := top 2
theorem sc_common_of : FnScope ["wishes", "works"] ["wishes", "works"] (defScope s_common_of) := ⟨rfl, rfl, rfl, by decide +kernel, rfl, by decide +kernel, by decide +kernel⟩
noncomputable abbrev s_cost_of : Stmt := top 3
theorem sc_cost_of : FnScope ["costs", "works"] ["costs", "works"] (defScope s_cost_of) := ⟨rfl, rfl, rfl, by decide +kernel, rfl, by decide +kernel, by decide +kernel⟩
noncomputable abbrev s_longer_lists : Stmt := top 5
theorem sc_longer_lists : FnScope ["lists", "count", "longer", "works", "least", "work"] ["lists", "count"] (defScope s_longer_lists) := ⟨rfl, rfl, rfl, by decide +kernel, rfl, by decide +kernel, by decide +kernel⟩
noncomputable abbrev s_work_lists : Stmt := top 6
theorem sc_work_lists : FnScope ["count", "told", "lists"] ["count"] (defScope s_work_lists) := ⟨rfl, rfl, rfl, by decide +kernel, rfl, by decide +kernel, by decide +kernel⟩
noncomputable abbrev s_wanted_among : Stmt := top 7
theorem sc_wanted_among : FnScope ["wanted", "works"] ["wanted", "works"] (defScope s_wanted_among) := ⟨rfl, rfl, rfl, by decide +kernel, rfl, by decide +kernel, by decide +kernel⟩
noncomputable abbrev s_group_of : Stmt := top 8
theorem sc_group_of : FnScope ["wishes", "asked", "works"] ["wishes", "asked", "works"] (defScope s_group_of) := ⟨rfl, rfl, rfl, by decide +kernel, rfl, by decide +kernel, by decide +kernel⟩
noncomputable abbrev s_could_pay : Stmt := top 9
theorem sc_could_pay : FnScope ["coins", "costs", "wishes", "asked", "group"] ["coins", "costs", "wishes", "asked", "group"] (defScope s_could_pay) := ⟨rfl, rfl, rfl, by decide +kernel, rfl, by decide +kernel, by decide +kernel⟩
noncomputable abbrev s_wronged : Stmt := top 10
theorem sc_wronged : FnScope ["coins", "costs", "wishes", "works", "asked", "group"] ["coins", "costs", "wishes", "works"] (defScope s_wronged) := ⟨rfl, rfl, rfl, by decide +kernel, rfl, by decide +kernel, by decide +kernel⟩
noncomputable abbrev s__law_cell_at : Stmt := top 12
theorem sc__law_cell_at : FnScope ["script", "k"] ["script", "k"] (defScope s__law_cell_at) := ⟨rfl, rfl, rfl, by decide +kernel, rfl, by decide +kernel, by decide +kernel⟩
noncomputable abbrev s__law_whole : Stmt := top 13
theorem sc__law_whole : FnScope ["found"] ["found"] (defScope s__law_whole) := ⟨rfl, rfl, rfl, by decide +kernel, rfl, by decide +kernel, by decide +kernel⟩
noncomputable abbrev s__law_draw : Stmt := top 14
theorem sc__law_draw : FnScope ["cell", "place", "spot"] ["cell", "place"] (defScope s__law_draw) := ⟨rfl, rfl, rfl, by decide +kernel, rfl, by decide +kernel, by decide +kernel⟩
noncomputable abbrev s__law_draws : Stmt := top 15
theorem sc__law_draws : FnScope ["cell", "many"] ["cell", "many"] (defScope s__law_draws) := ⟨rfl, rfl, rfl, by decide +kernel, rfl, by decide +kernel, by decide +kernel⟩
noncomputable abbrev s__law_wishes : Stmt := top 16
theorem sc__law_wishes : FnScope ["cells", "many", "usual", "found", "cell", "ys", "wanted"] ["cells", "many", "usual"] (defScope s__law_wishes) := ⟨rfl, rfl, rfl, by decide +kernel, rfl, by decide +kernel, by decide +kernel⟩
noncomputable abbrev s__law_town : Stmt := top 17
theorem sc__law_town : FnScope ["script", "xs", "many", "costs", "usual", "wishes", "zs", "coins"] ["script"] (defScope s__law_town) := ⟨rfl, rfl, rfl, by decide +kernel, rfl, by decide +kernel, by decide +kernel⟩
noncomputable abbrev s__law_sets : Stmt := top 18
theorem sc__law_sets : FnScope ["many", "found", "k"] ["many"] (defScope s__law_sets) := ⟨rfl, rfl, rfl, by decide +kernel, rfl, by decide +kernel, by decide +kernel⟩
noncomputable abbrev s__law_group : Stmt := top 19
theorem sc__law_group : FnScope ["wishes", "asked", "done", "found", "voter", "wanted"] ["wishes", "asked", "done"] (defScope s__law_group) := ⟨rfl, rfl, rfl, by decide +kernel, rfl, by decide +kernel, by decide +kernel⟩
noncomputable abbrev s__law_due : Stmt := top 20
theorem sc__law_due : FnScope ["coins", "costs", "wishes", "done", "wrong", "asked", "group", "price", "size"] ["coins", "costs", "wishes", "done"] (defScope s__law_due) := ⟨rfl, rfl, rfl, by decide +kernel, rfl, by decide +kernel, by decide +kernel⟩
noncomputable abbrev s__law_alike : Stmt := top 21
theorem sc__law_alike : FnScope ["found", "due", "row"] ["found", "due"] (defScope s__law_alike) := ⟨rfl, rfl, rfl, by decide +kernel, rfl, by decide +kernel, by decide +kernel⟩
noncomputable abbrev s_law : Stmt := top 22
theorem sc_law : FnScope ["script", "coins", "costs", "wishes", "cell", "xs", "done", "due", "handed", "found"] ["script"] (defScope s_law) := ⟨rfl, rfl, rfl, by decide +kernel, rfl, by decide +kernel, by decide +kernel⟩
/-! ### the readings -/
noncomputable def rd_wants_all (K : PySem.W.Frag) : TS :=
  (tRet (tCB (rAll K) (tCons (tComp [none, some 0] (iList K (tVar 1)) (gName 0) tYes (tOp (rIn K false) (tVar 0) (tVar 1))) tNil)))
noncomputable def rd_common_of (K : PySem.W.Frag) : TS :=
  (tRet (tComp [none, none, some 1] (iEnum K (tVar 0)) (gTup K 2 (gCons (gName 0) (gCons (gName 1) gNil))) (tB (tCall (sp_wants_all K) [] E0 (tCons (tVar 1) (tCons (tVar 2) tNil)))) (tVar 0)))
noncomputable def rd_cost_of (K : PySem.W.Frag) : TS :=
  (tRet (tCB (rSum K) (tCons (tComp [none, some 0] (iList K (tVar 1)) (gName 0) tYes (tOp (rIxL K) (tVar 1) (tVar 0))) tNil)))
noncomputable def rd_longer_lists (K : PySem.W.Frag) : TS :=
  (tSeq (tAsg (tLst tNil) (gName 2))
    (tSeq (tFor (iList K (tVar 0)) (gName 3) (tSeq (tAsg (tIf (tBL K (tVar 3)) (tOp oAdd (tOp (rIxL K) (tVar 3) (tUn (rU fun i => .int (-i)) (tC (.int 1)))) (tC (.int 1))) (tC (.int 0))) (gName 4))
    (tFor (iRng2 (tCons (tVar 4) (tCons (tVar 1) tNil))) (gName 5) (tDrop (tBM K "list" rAppend (tVar 2) (tCons (tOp rCat (tVar 3) (tLst (tCons (tVar 5) tNil))) tNil))))))
    (tRet (tVar 2))))
noncomputable def rd_work_lists (K : PySem.W.Frag) : TS :=
  (tSeq (tAsg (tLst tNil) (gName 1))
    (tSeq (tAsg (tCall (sp_longer_lists K) [] E0 (tCons (tLst (tCons (tLst tNil) tNil)) (tCons (tVar 0) tNil))) (gName 2))
    (tSeq (tWhile (tBL K (tVar 2)) (tSeq (tDrop (tBM K "list" rExtend (tVar 1) (tCons (tVar 2) tNil)))
    (tAsg (tCall (sp_longer_lists K) [] E0 (tCons (tVar 2) (tCons (tVar 0) tNil))) (gName 2))))
    (tRet (tVar 1)))))
noncomputable def rd_wanted_among (K : PySem.W.Frag) : TS :=
  (tRet (tCB (rLenL K) (tCons (tComp [none, some 1] (iList K (tVar 0)) (gName 0) (tTest (tOp (rIn K false) (tVar 0) (tVar 1))) (tVar 0)) tNil)))
noncomputable def rd_group_of (K : PySem.W.Frag) : TS :=
  (tRet (tComp [none, some 0, some 2, some 1] (iList K (tCall (sp_common_of K) [] E0 (tCons (tVar 0) (tCons (tVar 1) tNil)))) (gName 0) (tTest (tOp oLt (tCall (sp_wanted_among K) [] E0 (tCons (tOp (rIxL K) (tVar 1) (tVar 0)) (tCons (tVar 2) tNil))) (tCB (rLenL K) (tCons (tVar 3) tNil)))) (tVar 0)))
noncomputable def rd_could_pay (K : PySem.W.Frag) : TS :=
  (tRet (tOp oGe (tOp oMul (tVar 0) (tCB (rLenL K) (tCons (tVar 4) tNil))) (tOp oMul (tCall (sp_cost_of K) [] E0 (tCons (tVar 1) (tCons (tVar 3) tNil))) (tCB (rLenL K) (tCons (tVar 2) tNil)))))
noncomputable def rd_wronged (K : PySem.W.Frag) : TS :=
  (tSeq (tFor (iList K (tCall (sp_work_lists K) [] E0 (tCons (tCB (rLenL K) (tCons (tVar 1) tNil)) tNil))) (gName 4) (tSeq (tAsg (tCall (sp_group_of K) [] E0 (tCons (tVar 2) (tCons (tVar 4) (tCons (tVar 3) tNil)))) (gName 5))
    (tIfS (tAnd (tBL K (tVar 5)) (tB (tCall (sp_could_pay K) [] E0 (tCons (tVar 0) (tCons (tVar 1) (tCons (tVar 2) (tCons (tVar 4) (tCons (tVar 5) tNil)))))))) (tRet (tTup (tCons (tVar 4) (tCons (tVar 5) tNil)))) tNext)))
    (tRet (tC .non)))
noncomputable def rd__law_cell_at (K : PySem.W.Frag) : TS :=
  (tSeq (tIfS (tTest (tOp oLt (tVar 1) (tCB (rLenL K) (tCons (tVar 0) tNil)))) (tRet (tOp (rIxL K) (tVar 0) (tVar 1))) tNext)
    (tRet (tC (.int 0))))
noncomputable def rd__law_whole (K : PySem.W.Frag) : TS :=
  (tRet (tAndV (tCB (rIsi K) (tCons (tVar 0) (tCons (tC (.ty "int")) tNil))) (tNotV (tCB (rIsi K) (tCons (tVar 0) (tCons (tC (.ty "bool")) tNil))))))
noncomputable def rd__law_draw (K : PySem.W.Frag) : TS :=
  (tSeq (tAsg (tOp oAdd (tOp oAdd (tOp oMod (tVar 0) (tC (.int 999983))) (tC (.int 400009))) (tOp oMul (tC (.int 7001)) (tVar 1))) (gName 2))
    (tRet (tOp oMod (tOp oMul (tOp oMul (tOp oMul (tVar 2) (tVar 2)) (tVar 2)) (tOp oAdd (tOp oMul (tC (.int 2)) (tVar 1)) (tC (.int 3)))) (tC (.int 1000000007)))))
noncomputable def rd__law_draws (K : PySem.W.Frag) : TS :=
  (tRet (tComp [none, some 0] (iRng1 (tCons (tVar 1) tNil)) (gName 0) tYes (tCall (sp__law_draw K) [] E0 (tCons (tVar 1) (tCons (tVar 0) tNil)))))
noncomputable def rd__law_wishes (K : PySem.W.Frag) : TS :=
  (tSeq (tAsg (tLst tNil) (gName 3))
    (tSeq (tFor (iList K (tVar 0)) (gName 4) (tSeq (tAsg (tCall (sp__law_draws K) [] E0 (tCons (tVar 4) (tCons (tC (.int 13)) tNil))) (gName 5))
    (tSeq (tAsg (tComp [none, some 5] (iRng1 (tCons (tVar 1) tNil)) (gName 0) (tTest (tOp oGt (tOp oMod (tOp (rIxL K) (tVar 1) (tVar 0)) (tC (.int 3))) (tC (.int 0)))) (tVar 0)) (gName 6))
    (tDrop (tBM K "list" rAppend (tVar 3) (tCons (tOp (rIxL K) (tLst (tCons (tListRng (tCons (tVar 1) tNil)) (tCons (tCB (rListOf K) (tCons (tVar 2) tNil)) (tCons (tVar 6) (tCons (tSl (rSlL K) (tVar 6) tNoPart (tPart (tC (.int 2)))) tNil))))) (tOp oMod (tOp (rIxL K) (tVar 5) (tC (.int 12))) (tC (.int 4)))) tNil))))))
    (tRet (tVar 3))))
noncomputable def rd__law_town (K : PySem.W.Frag) : TS :=
  (tSeq (tAsg (tCall (sp__law_draws K) [] E0 (tCons (tCall (sp__law_cell_at K) [] E0 (tCons (tVar 0) (tCons (tC (.int 0)) tNil))) (tCons (tC (.int 14)) tNil))) (gName 1))
    (tSeq (tAsg (tOp (rIxL K) (tLst (tCons (tOp oMod (tOp (rIxL K) (tVar 1) (tC (.int 0))) (tC (.int 7))) (tCons (tOp oAdd (tC (.int 7)) (tOp oMod (tOp oDiv (tOp (rIxL K) (tVar 1) (tC (.int 0))) (tC (.int 7))) (tC (.int 2)))) tNil))) (tCB rInt1 (tCons (tOp rEq (tOp oMod (tOp (rIxL K) (tVar 1) (tC (.int 1))) (tC (.int 8))) (tC (.int 0))) tNil))) (gName 2))
    (tSeq (tAsg (tComp [none, some 1] (iRng1 (tCons (tVar 2) tNil)) (gName 0) tYes (tOp (rIxL K) (tLst (tCons (tOp oAdd (tC (.int 1)) (tOp oMod (tOp (rIxL K) (tVar 1) (tOp oAdd (tC (.int 2)) (tVar 0))) (tC (.int 9)))) (tCons (tOp oAdd (tC (.int 1)) (tOp oMod (tOp oMul (tOp (rIxL K) (tVar 1) (tOp oAdd (tC (.int 2)) (tVar 0))) (tC (.int 80021))) (tOp oPow (tC (.int 10)) (tC (.int 12))))) tNil))) (tOp oMod (tOp oDiv (tOp (rIxL K) (tVar 1) (tC (.int 10))) (tOp oAdd (tVar 0) (tC (.int 1)))) (tC (.int 2))))) (gName 3))
    (tSeq (tAsg (tComp [none, some 1] (iRng1 (tCons (tVar 2) tNil)) (gName 0) (tTest (tOp oGt (tOp oMod (tOp oDiv (tOp (rIxL K) (tVar 1) (tC (.int 11))) (tOp oAdd (tVar 0) (tC (.int 1)))) (tC (.int 3))) (tC (.int 0)))) (tVar 0)) (gName 4))
    (tSeq (tAsg (tCall (sp__law_wishes K) [] E0 (tCons (tOp rCat (tSl (rSlL K) (tVar 0) (tPart (tC (.int 4))) (tPart (tC (.int 23)))) (tLst (tCons (tCall (sp__law_cell_at K) [] E0 (tCons (tVar 0) (tCons (tC (.int 3)) tNil))) tNil))) (tCons (tVar 2) (tCons (tVar 4) tNil)))) (gName 5))
    (tSeq (tAsg (tCall (sp__law_draws K) [] E0 (tCons (tCall (sp__law_cell_at K) [] E0 (tCons (tVar 0) (tCons (tC (.int 1)) tNil))) (tCons (tC (.int 3)) tNil))) (gName 6))
    (tSeq (tAsg (tOp (rIxL K) (tLst (tCons (tC (.int 0)) (tCons (tOp oAdd (tC (.int 1)) (tOp oMod (tOp (rIxL K) (tVar 6) (tC (.int 0))) (tC (.int 9)))) (tCons (tOp oDiv (tCB (rSum K) (tCons (tVar 3) tNil)) (tC (.int 2))) (tCons (tCB (rSum K) (tCons (tVar 3) tNil)) (tCons (tOp oMod (tOp oMul (tOp (rIxL K) (tVar 6) (tC (.int 0))) (tOp (rIxL K) (tVar 6) (tC (.int 1)))) (tOp oAdd (tCB (rSum K) (tCons (tVar 3) tNil)) (tC (.int 1)))) tNil)))))) (tOp oMod (tOp (rIxL K) (tVar 6) (tC (.int 2))) (tC (.int 5)))) (gName 7))
    (tRet (tTup (tCons (tCB rMin (tCons (tVar 7) (tCons (tOp oPow (tC (.int 10)) (tC (.int 12))) tNil))) (tCons (tVar 3) (tCons (tVar 5) tNil))))))))))))
noncomputable def rd__law_sets (K : PySem.W.Frag) : TS :=
  (tSeq (tAsg (tLst (tCons (tLst tNil) tNil)) (gName 1))
    (tSeq (tFor (iRng1 (tCons (tVar 0) tNil)) (gName 2) (tAsg (tOp rCat (tVar 1) (tComp [none, some 2] (iList K (tVar 1)) (gName 0) tYes (tOp rCat (tVar 0) (tLst (tCons (tVar 1) tNil))))) (gName 1)))
    (tRet (tSl (rSlL K) (tVar 1) (tPart (tC (.int 1))) tNoPart))))
noncomputable def rd__law_group (K : PySem.W.Frag) : TS :=
  (tSeq (tAsg (tLst tNil) (gName 3))
    (tSeq (tFor (iEnum K (tVar 0)) (gTup K 2 (gCons (gName 4) (gCons (gName 5) gNil))) (tIfS (tTest (tOp (rEqI K false) (tComp [none, some 5] (iList K (tVar 1)) (gName 0) (tTest (tOp (rIn K true) (tVar 0) (tVar 1))) (tVar 0)) (tLst tNil))) (tIfS (tTest (tOp oLt (tCB (rLenL K) (tCons (tComp [none, some 2] (iList K (tVar 5)) (gName 0) (tTest (tOp (rIn K false) (tVar 0) (tVar 1))) (tVar 0)) tNil)) (tCB (rLenL K) (tCons (tVar 1) tNil)))) (tDrop (tBM K "list" rAppend (tVar 3) (tCons (tVar 4) tNil))) tNext) tNext))
    (tRet (tVar 3))))
noncomputable def rd__law_due (K : PySem.W.Frag) : TS :=
  (tSeq (tAsg (tLst tNil) (gName 4))
    (tSeq (tFor (iList K (tCall (sp__law_sets K) [] E0 (tCons (tCB (rLenL K) (tCons (tVar 1) tNil)) tNil))) (gName 5) (tSeq (tAsg (tCall (sp__law_group K) [] E0 (tCons (tVar 2) (tCons (tVar 5) (tCons (tVar 3) tNil)))) (gName 6))
    (tSeq (tAsg (tCB (rSum K) (tCons (tComp [none, some 1] (iList K (tVar 5)) (gName 0) tYes (tOp (rIxL K) (tVar 1) (tVar 0))) tNil)) (gName 7))
    (tIfS (tAnd (tTest (tOp (rEqI K true) (tVar 6) (tLst tNil))) (tTest (tOp oGe (tOp oMul (tVar 0) (tCB (rLenL K) (tCons (tVar 6) tNil))) (tOp oMul (tVar 7) (tCB (rLenL K) (tCons (tVar 2) tNil)))))) (tDrop (tBM K "list" rAppend (tVar 4) (tCons (tTup (tCons (tCB (rLenL K) (tCons (tVar 5) tNil)) (tCons (tVar 5) (tCons (tVar 6) tNil)))) tNil))) tNext))))
    (tSeq (tIfS (tTest (tOp (rEqD K false) (tVar 4) (tLst tNil))) (tRet (tC .non)) tNext)
    (tSeq (tAsg (tCB (rMinM K) (tCons (tVar 4) tNil)) (gTup K 3 (gCons (gName 8) (gCons (gName 5) (gCons (gName 6) gNil)))))
    (tRet (tTup (tCons (tVar 5) (tCons (tVar 6) tNil))))))))
noncomputable def rd__law_alike (K : PySem.W.Frag) : TS :=
  (tSeq (tIfS (tTest (tOp oIsN (tVar 1) (tC .non))) (tRet (tOp oIsN (tVar 0) (tC .non))) tNext)
    (tSeq (tIfS (tOr (tNot (tB (tCB (rIsi K) (tCons (tVar 0) (tCons (tC (.ty "tuple")) tNil))))) (tTest (tOp rNe (tCB (rLenL K) (tCons (tVar 0) tNil)) (tC (.int 2))))) (tRet (tC (.bl false))) tNext)
    (tSeq (tFor (iTup K (tVar 0)) (gName 2) (tIfS (tOr (tNot (tB (tCB (rIsi K) (tCons (tVar 2) (tCons (tC (.ty "list")) tNil))))) (tTest (tOp (rEqI K true) (tComp [none] (iList K (tVar 2)) (gName 0) (tNot (tB (tCall (sp__law_whole K) [] E0 (tCons (tVar 0) tNil)))) (tVar 0)) (tLst tNil)))) (tRet (tC (.bl false))) tNext))
    (tRet (tOp (rEqD K false) (tVar 0) (tVar 1))))))
noncomputable def rd_law (K : PySem.W.Frag) : TS :=
  (tSeq (tAsg (tCall (sp__law_town K) [] E0 (tCons (tVar 0) tNil)) (gTup K 3 (gCons (gName 1) (gCons (gName 2) (gCons (gName 3) gNil)))))
    (tSeq (tAsg (tCall (sp__law_cell_at K) [] E0 (tCons (tVar 0) (tCons (tC (.int 2)) tNil))) (gName 4))
    (tSeq (tAsg (tCall (sp__law_draws K) [] E0 (tCons (tVar 4) (tCons (tC (.int 9)) tNil))) (gName 5))
    (tSeq (tAsg (tComp [none, some 5] (iRng1 (tCons (tCB (rLenL K) (tCons (tVar 2) tNil)) tNil)) (gName 0) (tOr (tTest (tOp rEq (tOp oMod (tOp (rIxL K) (tVar 1) (tC (.int 8))) (tC (.int 4))) (tC (.int 1)))) (tAnd (tTest (tOp oGt (tOp oMod (tOp (rIxL K) (tVar 1) (tC (.int 8))) (tC (.int 4))) (tC (.int 1)))) (tTest (tOp rEq (tOp oMod (tOp (rIxL K) (tVar 1) (tVar 0)) (tC (.int 2))) (tC (.int 0)))))) (tVar 0)) (gName 6))
    (tSeq (tAsg (tCall (sp__law_due K) [] E0 (tCons (tVar 1) (tCons (tVar 2) (tCons (tVar 3) (tCons (tVar 6) tNil))))) (gName 7))
    (tSeq (tAsg (tLst (tCons (tCB (rListOf K) (tCons (tVar 2) tNil)) (tCons (tComp [none] (iList K (tVar 3)) (gName 0) tYes (tCB (rListOf K) (tCons (tVar 0) tNil))) (tCons (tCB (rListOf K) (tCons (tVar 6) tNil)) tNil)))) (gName 8))
    (tSeq (tAsg (tCall (sp_wronged K) [] E0 (tCons (tVar 1) (tCons (tOp (rIxL K) (tVar 8) (tC (.int 0))) (tCons (tOp (rIxL K) (tVar 8) (tC (.int 1))) (tCons (tOp (rIxL K) (tVar 8) (tC (.int 2))) tNil))))) (gName 9))
    (tSeq (tIfS (tOr (tNot (tB (tCall (sp__law_alike K) [] E0 (tCons (tVar 9) (tCons (tVar 7) tNil))))) (tTest (tOp (rEqD K true) (tVar 8) (tLst (tCons (tVar 2) (tCons (tVar 3) (tCons (tVar 6) tNil))))))) (tRet (tC (.bl false))) tNext)
    (tSeq (tIfS (tTest (tOp oNotN (tVar 9) (tC .non))) (tSeq (tDrop (tBM0 K "list" rClear (tOp (rIxT K) (tVar 9) (tC (.int 0)))))
    (tDrop (tBM K "list" rAppend (tOp (rIxT K) (tVar 9) (tC (.int 1))) (tCons (tUn (rU fun i => .int (-i)) (tC (.int 1))) tNil)))) tNext)
    (tRet (tAndV (tOp (rEqD K false) (tVar 8) (tLst (tCons (tVar 2) (tCons (tVar 3) (tCons (tVar 6) tNil))))) (tCall (sp__law_alike K) [] E0 (tCons (tCall (sp_wronged K) [] E0 (tCons (tVar 1) (tCons (tOp (rIxL K) (tVar 8) (tC (.int 0))) (tCons (tOp (rIxL K) (tVar 8) (tC (.int 1))) (tCons (tOp (rIxL K) (tVar 8) (tC (.int 2))) tNil))))) (tCons (tVar 7) tNil))))))))))))))

section
variable {K : PySem.W.Frag}

theorem range_getD {α β : Type} (f : α → β) (d : α) (xs : List α) : (List.range xs.length).map (fun i => f (xs.getD i d)) = xs.map f := by
  apply List.ext_getElem
  · simp
  · intro k h1 h2
    have hk : k < xs.length := by simpa using h1
    simp [List.getD, hk]
theorem rk_wants_all : ∀ vs H Q E, sp_wants_all K vs H Q E → rd_wants_all K { nx := fun _ H' => Q .non H', rt := Q } (start ["wanted", "works"] vs) H := by
  rintro vs H Q E ⟨_, a, b, ws, ks, rfl, hA, hB, hl, q⟩
  have hlm : (ks.map V.int).length = ks.length := List.length_map _
  unfold rd_wants_all
  walk_at "v"
  refine comp_mapY (ys_list (xs := ks.map V.int) 0) (fun j => [some ((ks.map V.int).getD j .non), some (.ref a)]) (by rintro j σ' (rfl | ⟨k, rfl⟩) <;> rfl) (fun H' s => s.seq hB) (by rw [hlm]; exact Nat.le_trans (show ks.length ≤ 1000 by omega) line64) (fun j => .bl (decide (ks.getD j 0 ∈ ws))) ?_ ?_
  · intro j hj H' G s k
    rw [hlm] at hj
    have e : (ks.map V.int).getD j .non = .int (ks.getD j 0) := by simp [List.getD, hj]
    rw [e]
    walk_at "v"
    exact k H' (Same.refl _)
  · intro l H' f s h
    have e : (List.range (ks.map V.int).length).map (fun j => V.bl (decide (ks.getD j 0 ∈ ws))) = (ks.map fun k => decide (k ∈ ws)).map V.bl := by
      rw [hlm, range_getD (fun k => V.bl (decide (k ∈ ws))) 0 ks, List.map_map]
      rfl
    rw [e] at h
    walk_at "v"
    have e2 : (ks.map fun k => decide (k ∈ ws)).all id = ks.all fun k => decide (k ∈ ws) := by
      rw [List.all_map]
      rfl
    rw [e2]
    exact q H' s

theorem rk_common_of : ∀ vs H Q E, sp_common_of K vs H Q E → rd_common_of K { nx := fun _ H' => Q .non H', rt := Q } (start ["wishes", "works"] vs) H := by
  rintro vs H Q E ⟨_, a, b, rows, ks, rfl, ⟨bs, hA, hP⟩, hB, hl1, hl2, q⟩
  have hbl : bs.length = rows.length := (Paired.length hP).symm
  have hlm : (bs.map V.ref).length = bs.length := List.length_map _
  unfold rd_common_of
  walk_at "v"
  refine comp_filtY (ys_enum (xs := bs.map V.ref) 0 1) (fun i => [some (.int i), some ((bs.map V.ref).getD i .non), some (.ref b)]) (by rintro i σ' (rfl | ⟨k, rfl⟩) <;> rfl) (fun H' s => s.seq hA) (by rw [hlm]; exact Nat.le_trans (show bs.length ≤ 1000 by omega) line64) (fun i => ks.all fun k => decide (k ∈ rows.getD i [])) (fun i => .int i) ?_ ?_ ?_
  · intro i hi H' G s k
    rw [hlm] at hi
    obtain ⟨row, hr, hq⟩ := paired_at' hP (show bs[i]? = some bs[i] by simp [hi])
    have e : (bs.map V.ref).getD i .non = .ref bs[i] := by simp [List.getD, hi]
    have e2 : rows.getD i [] = row := by simp [List.getD, hr]
    rw [e2] at k
    rw [e]
    walk_at "v"
    refine ⟨rfl, bs[i], b, row, ks, rfl, s.seq hq, s.seq hB, hl2, fun H'' s' => ?_⟩
    walk_at "v"
    exact k H'' s'
  · intro i hi _ H' G s k
    walk_at "v"
    exact k H' (Same.refl _)
  · intro l H' f s h
    rw [hlm, hbl] at h
    refine q l H' f s ?_
    rw [h]
    unfold commonF
    rw [List.map_map]
    rfl

theorem rk_cost_of : ∀ vs H Q E, sp_cost_of K vs H Q E → rd_cost_of K { nx := fun _ H' => Q .non H', rt := Q } (start ["costs", "works"] vs) H := by
  rintro vs H Q E ⟨_, a, b, cs, ks, rfl, hA, hB, hl, hk, q⟩
  have hlm : (ks.map V.int).length = ks.length := List.length_map _
  unfold rd_cost_of
  walk_at "v"
  refine comp_mapY (ys_list (xs := ks.map V.int) 0) (fun j => [some ((ks.map V.int).getD j .non), some (.ref a)]) (by rintro j σ' (rfl | ⟨k, rfl⟩) <;> rfl) (fun H' s => s.seq hB) (by rw [hlm]; exact Nat.le_trans (show ks.length ≤ 1000 by omega) line64) (fun j => .int (cs.getD (ks.getD j 0).toNat 0)) ?_ ?_
  · intro j hj H' G s k
    rw [hlm] at hj
    have e : (ks.map V.int).getD j .non = .int (ks.getD j 0) := by simp [List.getD, hj]
    obtain ⟨n, hn, hnl⟩ := hk (ks.getD j 0) (by simp [List.getD, hj])
    rw [e]
    rw [hn] at k ⊢
    walk_at "v"
    refine r_ix (s.seq hA) (atI_nat (getInt (show cs[n]? = some (cs.getD n 0) by simp [List.getD, hnl]))) ?_
    exact k H' (Same.refl _)
  · intro l H' f s h
    have e : (List.range (ks.map V.int).length).map (fun j => V.int (cs.getD (ks.getD j 0).toNat 0)) = (ks.map fun k => cs.getD k.toNat 0).map V.int := by
      rw [hlm, range_getD' (fun k => V.int (cs.getD k.toNat 0)) 0 ks, List.map_map]
      rfl
    rw [e] at h
    walk_at "v"
    exact q H' s

theorem line_big : 400000 ≤ sizeLine := by decide
theorem RowsN.snoc {H0 H : Hp} {l b : Addr} {rows : List (List Int)} {r : List Int} (h : RowsN H0 H l rows) (hb : H b = some (.lst (r.map V.int))) (hn : b ≠ l) (h0 : H0 b = none) :
    ∃ xs, H l = some (.lst xs) ∧ xs.length = rows.length ∧ RowsN H0 (upd H l (.lst (xs ++ [.ref b]))) l (rows ++ [r]) := by
  obtain ⟨ts, z1, z2⟩ := h
  refine ⟨_, z1, by rw [List.length_map]; exact (Paired.length z2).symm, ts ++ [b], by rw [upd_same, List.map_append]; rfl, ?_⟩
  exact paired_app (Paired.mapP z2 fun _ _ ⟨hc, q⟩ => ⟨hc, by rw [upd_ne hc.2]; exact q⟩) (.cons ⟨⟨h0, hn⟩, by rw [upd_ne hn]; exact hb⟩ .nil)
theorem RowsN.same {H0 H H' : Hp} {l : Addr} {rows : List (List Int)} (s : Same H H') (h : RowsN H0 H l rows) : RowsN H0 H' l rows := by
  obtain ⟨ts, z1, z2⟩ := h
  exact ⟨ts, s _ _ z1, Paired.mapP z2 fun _ _ ⟨hc, q⟩ => ⟨hc, s _ _ q⟩⟩
theorem rk_longer_lists : ∀ vs H Q E, sp_longer_lists K vs H Q E → rd_longer_lists K { nx := fun _ H' => Q .non H', rt := Q } (start ["lists", "count", "longer", "works", "least", "work"] vs) H := by
  rintro vs H Q E ⟨_, a, wss, n, j, rfl, ⟨bs, hA, hP⟩, hn, hwl, hr, q⟩
  have hbl : bs.length = wss.length := by have := Paired.length hP; rw [List.length_map] at this; exact this.symm
  have hlb : (bs.map V.ref).length = wss.length := by rw [List.length_map, hbl]
  have hll := long_len hr
  have h8 : wss.length * (n - j) ≤ 40320 * 8 := Nat.mul_le_mul hwl (by omega)
  unfold rd_longer_lists
  with_reducible refine r_seq ?_
  walk_at "s1"
  rename_i l H1 f1 s1 h1
  have qA1 : SqL K H1 a (bs.map V.ref) := SqL.of (s1 _ _ hA)
  with_reducible refine r_seq ?_
  walk_at "s1"
  refine for_ys (ys_list (xs := bs.map V.ref) 3) (fun i σ H' => Same H H' ∧ RowsN H H' l ((longF n (wss.take i)).map castL) ∧ ∃ v3 v4 v5, σ = [some (.ref a), some (.int n), some (.ref l), v3, v4, v5]) ⟨s1, ⟨[], h1, .nil⟩, _, _, _, rfl⟩ (fun i σ H' h => h.1.seq (SqL.of hA)) ?_ ?_
  · rintro i σ Ha Hb hi ⟨sa, hN, v3, v4, v5, rfl⟩ sb
    rw [hlb] at hi
    have hib : i < bs.length := by omega
    have e : (bs.map V.ref).getD i .non = .ref bs[i] := by simp [List.getD, hib]
    rw [e]
    obtain ⟨r, hr', hq⟩ := paired_at' hP (show bs[i]? = some bs[i] by simp [hib])
    have er : r = castL wss[i] := by
      rw [List.getElem?_map, List.getElem?_eq_getElem hi] at hr'
      exact (Option.some.inj hr').symm
    subst er
    have hR := hr wss[i] (List.getElem_mem hi)
    have ht : wss.take (i + 1) = wss.take i ++ [wss[i]] := take_snoc (by simp [hi])
    have elf : longF n (wss.take (i + 1)) = longF n (wss.take i) ++ (List.range (n - nxtW wss[i])).map fun j => wss[i] ++ [nxtW wss[i] + j] := by
      rw [ht]
      unfold longF
      rw [List.flatMap_append]
      simp
    have hll' : (longF n (wss.take (i + 1))).length ≤ 40320 * 8 := by
      have h1 := long_len (n := n) (j := j) (wss := wss.take (i + 1)) fun ws hw => hr ws (List.mem_of_mem_take hw)
      have h2 : (wss.take (i + 1)).length ≤ 40320 := by rw [List.length_take]; omega
      exact Nat.le_trans h1 (Nat.mul_le_mul h2 (by omega))
    rw [elf] at hll' ⊢
    rw [List.length_append, List.length_map, List.length_range] at hll'
    generalize wss[i] = ws at *
    have sab := sa.trans sb
    have hb' : Hb bs[i] = some (.lst ((castL ws).map V.int)) := sab _ _ hq.2
    have hq' : SqL K Hb bs[i] ((castL ws).map V.int) := SqL.of hb'
    have hNb := hN.same sb
    have hnx := nxt_top hR
    have hw8 : ws.length ≤ 8 := by have := rise_le hR; rw [hR.len]; omega
    clear hN sb sa
    show tSeq _ _ _ _ _
    with_reducible refine r_cut (fun σ' H' => H' = Hb ∧ σ' = [some (.ref a), some (.int n), some (.ref l), some (.ref bs[i]), some (.int (nxtW ws : Nat)), v5]) ?_ ?_
    · intro F hF
      walk_at "s1"
      refine r_tBL ?_
      walk_at "s1"
      refine ⟨_, _, rfl, hq', ?_⟩
      cases hg : ws.getLast? with
      | none =>
        have e0 : ws = [] := List.getLast?_eq_none_iff.mp hg
        subst e0
        show if (!true) = true then _ else _
        refine iteNT ?_
        walk_at "s1"
        exact hF _ _ ⟨rfl, rfl⟩
      | some z =>
        obtain ⟨ys, rfl⟩ := List.getLast?_eq_some_iff.mp hg
        have e0 : (castL (ys ++ [z])).map V.int = (castL ys).map V.int ++ [.int (z : Int)] := by unfold castL; simp
        have e1 : nxtW (ys ++ [z]) = z + 1 := by unfold nxtW; rw [hg]
        rw [e0]
        have e2 : ((castL ys).map V.int ++ [V.int (z : Int)]).isEmpty = false := by simp
        rw [e2]
        refine iteNF ?_
        walk_at "s1"
        rw [e0] at hq'
        refine ⟨_, _, _, .int (z : Int), rfl, rfl, hq', atI_last _ _, ?_⟩
        walk_at "s1"
        refine hF _ _ ⟨rfl, ?_⟩
        rw [e1]
        rfl
    rintro σ' Hx ⟨rfl, rfl⟩
    walk_at "s1"
    have en : ((n : Int) - (nxtW ws : Int)).toNat = n - nxtW ws := by omega
    rw [en]
    refine for_range (lo := (nxtW ws : Int)) (n := n - nxtW ws) (fun k σ H' => Same H H' ∧ RowsN H H' l ((longF n (wss.take i) ++ (List.range k).map fun j => ws ++ [nxtW ws + j]).map castL) ∧ ∃ v5, σ = [some (.ref a), some (.int n), some (.ref l), some (.ref bs[i]), some (.int (nxtW ws : Nat)), v5]) ⟨sab, by rw [List.range_zero, List.map_nil, List.append_nil]; exact hNb, _, rfl⟩ ?_ ?_
    · rintro k σ Hc hk ⟨sc, hNc, v5', rfl⟩
      have hcb : Hc bs[i] = some (.lst ((castL ws).map V.int)) := sc _ _ hq.2
      obtain ⟨tt, htt, _⟩ := id hNc
      show tDrop _ _ _ _
      walk_at "s1"
      refine ⟨tyL htt, ?_⟩
      walk_at "s1"
      rename_i l2 H2 f2 s2 h2
      refine r_catN (s2 _ _ hcb) h2 (by rw [List.length_map]; unfold castL; rw [List.length_map]; exact Nat.le_trans (show _ ≤ 1000 by show _ + 1 ≤ _; omega) line64) fun l3 H3 f3 s3 h3 => ?_
      have e3 : (castL ws).map V.int ++ [V.int ((nxtW ws : Int) + (k : Int))] = (castL (ws ++ [nxtW ws + k])).map V.int := by unfold castL; simp
      rw [e3] at h3
      have s23 := s2.trans s3
      obtain ⟨xs, hxs, hxl, hN4⟩ := (hNc.same s23).snoc h3 (fun z => by rw [z, s2 _ _ htt] at f3; cases f3) (sc.free (s2.free f3))
      have hfit : xs.length < sizeLine := by
        rw [hxl, List.length_map, List.length_append, List.length_map, List.length_range]
        exact Nat.lt_of_lt_of_le (by omega) line_big
      walk_at "s1"
      refine r_appendN hxs hfit ?_
      refine ⟨(sc.trans s23).upd f1, ?_, _, rfl⟩
      have e4 : (longF n (wss.take i) ++ (List.range (k + 1)).map fun j => ws ++ [nxtW ws + j]).map castL = (longF n (wss.take i) ++ (List.range k).map fun j => ws ++ [nxtW ws + j]).map castL ++ [castL (ws ++ [nxtW ws + k])] := by
        rw [List.range_succ]
        simp
      rw [e4]
      exact hN4
    · rintro σ Hc ⟨sc, hNc, v5', rfl⟩
      exact ⟨sc, hNc, _, _, _, rfl⟩
  rintro σ Ha ⟨sa, hN, v3, v4, v5, rfl⟩
  rw [hlb, List.take_length] at hN
  walk_at "s1"
  exact q l Ha f1 sa hN

theorem rk_work_lists : ∀ vs H Q E, sp_work_lists K vs H Q E → rd_work_lists K { nx := fun _ H' => Q .non H', rt := Q } (start ["count", "told", "lists"] vs) H := by
  rintro vs H Q E ⟨_, n, rfl, hn, q⟩
  unfold rd_work_lists
  with_reducible refine r_seq ?_
  walk_at "s1"
  rename_i lt H1 f1 s1 h1
  with_reducible refine r_seq ?_
  walk_at "s1"
  rename_i l2 H2 f2 s2 h2 l3 H3 f3 s3 h3
  have r0 : Rise n 0 [] := ⟨.nil, (fun w h => by simp at h), rfl⟩
  have hM3 : RowsM H3 l3 (([[]] : List (List Nat)).map castL) := ⟨[l2], h3, .cons ⟨(fun z => by rw [z, f3] at h2; cases h2), s3 _ _ h2⟩ .nil⟩
  refine ⟨rfl, l3, [[]], n, 0, rfl, hM3, hn, by decide, (fun ws hw => by rw [List.mem_singleton.mp hw]; exact r0), fun ll H4 f4 s4 h4 => ?_⟩
  have s14 : Same H1 H4 := s2.trans (s3.trans s4)
  have hR1 : ∀ ws ∈ longF n [[]], Rise n 1 ws := long_rise (fun ws hw => by rw [List.mem_singleton.mp hw]; exact r0)
  have hL1 : (longF n [[]]).length ≤ fallN n 1 := by
    have := long_len (n := n) (j := 0) (wss := [[]]) (fun ws hw => by rw [List.mem_singleton.mp hw]; exact r0)
    exact this
  walk_at "s1"
  with_reducible refine r_seq ?_
  refine ⟨fun μ σ H' => ∃ (j : Nat) (wss tss : List (List Nat)) (ll : Addr) (H0 : Hp), 1 ≤ j ∧ j ≤ n + 1 ∧ μ = n + 1 - j ∧ Same H H' ∧ (∃ o, H0 lt = some o) ∧ ll ≠ lt ∧ RowsN H0 H' ll (wss.map castL) ∧ (∀ ws ∈ wss, Rise n j ws) ∧ wss.length ≤ fallN n j ∧ RowsN H H' lt (tss.map castL) ∧ (Same H H0 ∧ wss.Pairwise lexW ∧ (∀ ws, Rise n j ws → ws ∈ wss) ∧ PreW n j tss) ∧ tss.length ≤ 40320 * (j - 1) ∧ σ = [some (.int n), some (.ref lt), some (.ref ll)],
    ⟨_, 1, longF n [[]], [], ll, H1, Nat.le_refl _, by omega, rfl, s1.trans s14, ⟨_, h1⟩, (fun z => by rw [z, s3 _ _ (s2 _ _ h1)] at f4; cases f4), ?_, hR1, hL1, ⟨[], s14 _ _ h1, .nil⟩, ⟨s1, long_lex (n := n) (j := 0) (fun ws hw => by rw [List.mem_singleton.mp hw]; exact r0) (List.pairwise_singleton _ _), long_all (fun ws hw => by rw [List.length_eq_zero_iff.mp hw.len]; simp), ⟨(fun ws hw => by simp at hw), (fun i ws h1 h2 _ => by omega), .nil⟩⟩, Nat.zero_le _, rfl⟩, ?_⟩
  · obtain ⟨ts, z1, z2⟩ := h4
    exact ⟨ts, z1, Paired.mapP z2 fun _ _ ⟨hc, qq⟩ => ⟨⟨(s2.trans s3).free hc.1, hc.2⟩, qq⟩⟩
  rintro μ σ Ha ⟨j, wss, tss, ll, H0, hj1, hjn, rfl, sa, ⟨o0, ho0⟩, hne, hN, hR, hL, hT, ⟨sH0, hlx, hcm, hPre⟩, hTL, rfl⟩
  have hNa := hN
  obtain ⟨bs, hb1, hb2⟩ := hNa
  have hbl : bs.length = wss.length := by have := Paired.length hb2; rw [List.length_map] at this; exact this.symm
  walk_at "s1"
  refine r_tBL ?_
  walk_at "s1"
  refine ⟨_, _, rfl, SqL.of hb1, ?_⟩
  cases hw : wss with
  | nil =>
    have e0 : bs = [] := List.eq_nil_of_length_eq_zero (by rw [hbl, hw]; rfl)
    subst e0
    show if (!true) = true then _ else _
    refine iteNT ?_
    walk_at "s1"
    refine q lt Ha tss f1 sa hT (hPre.fin fun ws hr => by have := hcm ws hr; rw [hw] at this; cases this) (Nat.le_trans hTL (Nat.le_trans (Nat.mul_le_mul (Nat.le_refl _) (show j - 1 ≤ 8 by omega)) (by decide)))
  | cons w0 rest =>
    have e0 : (bs.map V.ref).isEmpty = false := by
      cases bs with
      | nil => rw [hw] at hbl; simp at hbl
      | cons _ _ => rfl
    rw [e0]
    refine iteNF ?_
    have hjn' : j ≤ n := rise_le (hR w0 (by rw [hw]; exact List.mem_cons_self))
    have hf1 := fall_le n hn j (by omega)
    clear hw
    refine ⟨fun σ' H' => ∃ (tss : List (List Nat)) (ll' : Addr) (H0 : Hp), Same H H' ∧ (∃ o, H0 lt = some o) ∧ ll' ≠ lt ∧ RowsN H0 H' ll' ((longF n wss).map castL) ∧ RowsN H H' lt (tss.map castL) ∧ (Same H H0 ∧ PreW n (j + 1) tss) ∧ tss.length ≤ 40320 * j ∧ σ' = [some (.int n), some (.ref lt), some (.ref ll')], ?_, ?_⟩
    · rintro σ' H' ⟨tss', ll', H0', z1, z2, z3, z4, z5, z6, z7, rfl⟩
      refine ⟨n + 1 - (j + 1), by omega, j + 1, longF n wss, tss', ll', H0', by omega, by omega, rfl, z1, z2, z3, z4, long_rise hR, ?_, z5, ⟨z6.1, long_lex hR hlx, long_all hcm, z6.2⟩, z7, rfl⟩
      exact Nat.le_trans (long_len hR) (Nat.mul_le_mul hL (Nat.le_refl _))
    have hT' := hT
    obtain ⟨ts, ht1, ht2⟩ := hT'
    have htl : ts.length = tss.length := by have := Paired.length ht2; rw [List.length_map] at this; exact this.symm
    have htl8 : tss.length ≤ 40320 * 7 := Nat.le_trans hTL (Nat.mul_le_mul (Nat.le_refl _) (by omega))
    with_reducible refine r_seq ?_
    walk_at "s1"
    refine ⟨tyL ht1, ?_⟩
    walk_at "s1"
    refine ⟨lt, ll, _, _, rfl, rfl, ht1, hb1, by rw [List.length_map, List.length_map]; exact Nat.le_trans (by omega) line_big, ?_⟩
    have hinn : ∀ b r, H0 b = none → Ha b = some r → b ≠ lt := fun b r h _ z => by rw [z, ho0] at h; cases h
    have sb : Same H (upd Ha lt (.lst (ts.map V.ref ++ bs.map V.ref))) := sa.upd f1
    have hM2 : RowsN H (upd Ha lt (.lst (ts.map V.ref ++ bs.map V.ref))) lt ((tss ++ wss).map castL) := by
      refine ⟨ts ++ bs, by rw [upd_same, List.map_append], ?_⟩
      rw [List.map_append]
      refine paired_app (Paired.mapP ht2 fun _ _ ⟨hc, qq⟩ => ⟨hc, by rw [upd_ne hc.2]; exact qq⟩) (Paired.mapP hb2 fun _ _ ⟨hc, qq⟩ => ?_)
      have := hinn _ _ hc.1 qq
      exact ⟨⟨sH0.free hc.1, this⟩, by rw [upd_ne this]; exact qq⟩
    have hN2 : RowsM (upd Ha lt (.lst (ts.map V.ref ++ bs.map V.ref))) ll (wss.map castL) := by
      refine ⟨bs, by rw [upd_ne hne]; exact hb1, Paired.mapP hb2 fun _ _ ⟨hc, qq⟩ => ⟨hc.2, ?_⟩⟩
      rw [upd_ne (hinn _ _ hc.1 qq)]
      exact qq
    have hlo : (upd Ha lt (.lst (ts.map V.ref ++ bs.map V.ref))) lt = some (.lst (ts.map V.ref ++ bs.map V.ref)) := upd_same
    generalize upd Ha lt (.lst (ts.map V.ref ++ bs.map V.ref)) = Hb at *
    walk_at "s1"
    refine ⟨rfl, ll, wss, n, j, rfl, hN2, hn, by omega, hR, fun l5 H5 f5 s5 h5 => ?_⟩
    walk_at "s1"
    refine ⟨tss ++ wss, l5, Hb, sb.trans s5, ⟨_, hlo⟩, (fun z => by rw [z, hlo] at f5; cases f5), h5, ?_, ⟨sb, hPre.step hj1 hR hlx hcm⟩, ?_, rfl⟩
    · obtain ⟨xs, x1, x2⟩ := hM2
      exact ⟨xs, s5 _ _ x1, Paired.mapP x2 fun _ _ ⟨hc, qq⟩ => ⟨hc, s5 _ _ qq⟩⟩
    · rw [List.length_append]
      have : 40320 * j = 40320 * (j - 1) + 40320 := by omega
      omega

theorem range_filter (xs : List Int) (p : Int → Bool) : ((List.range xs.length).filter fun j => p (xs.getD j 0)).map (fun j => xs.getD j 0) = xs.filter p := by
  have e3 : xs = (List.range xs.length).map (fun i => xs.getD i 0) := by
    apply List.ext_getElem
    · simp
    · intro k h1 h2
      simp [List.getD, h1]
  conv => rhs; rw [e3]
  rw [List.filter_map]
  rfl
theorem rk_wanted_among : ∀ vs H Q E, sp_wanted_among K vs H Q E → rd_wanted_among K { nx := fun _ H' => Q .non H', rt := Q } (start ["wanted", "works"] vs) H := by
  rintro vs H Q E ⟨_, a, b, ws, ks, rfl, hA, hB, hl, q⟩
  have hlw : (ws.map V.int).length = ws.length := List.length_map _
  unfold rd_wanted_among
  walk_at "s1"
  refine comp_filtY (ys_list (xs := ws.map V.int) 0) (fun j => [some ((ws.map V.int).getD j .non), some (.ref b)]) (by rintro j σ' (rfl | ⟨k, rfl⟩) <;> rfl) (fun H' s => s.seq hA) (by rw [hlw]; exact Nat.le_trans (show _ ≤ 1000 by omega) line64) (fun j => decide (ws.getD j 0 ∈ ks)) (fun j => .int (ws.getD j 0)) ?_ ?_ ?_
  · intro j hj H' F s kk
    rw [hlw] at hj
    have e : (ws.map V.int).getD j .non = .int (ws.getD j 0) := by simp [List.getD, hj]
    have hB' := s.seq hB
    rw [e]
    walk_at "s1"
    exact kk H' (Same.refl _)
  · intro j hj _ H' F s kk
    rw [hlw] at hj
    have e : (ws.map V.int).getD j .non = .int (ws.getD j 0) := by simp [List.getD, hj]
    rw [e]
    walk_at "s1"
    exact kk H' (Same.refl _)
  intro l H1 f1 s1 h1
  have e1 : ((List.range (ws.map V.int).length).filter fun j => decide (ws.getD j 0 ∈ ks)).map (fun j => V.int (ws.getD j 0)) = (ws.filter fun k => decide (k ∈ ks)).map V.int := by
    rw [hlw, ← range_filter ws fun k => decide (k ∈ ks), List.map_map]
    rfl
  rw [e1] at h1
  walk_at "s1"
  rw [List.length_map]
  exact q H1 s1

theorem common_cast (rows : List (List Int)) (ws : List Nat) : commonF rows (castL ws) = ((List.range rows.length).filter fun i => ws.all fun w => WR rows i w).map fun i : Nat => (i : Int) := by
  unfold commonF castL WR
  congr 2
  funext i
  rw [List.all_map]
  rfl
theorem rk_group_of : ∀ vs H Q E, sp_group_of K vs H Q E → rd_group_of K { nx := fun _ H' => Q .non H', rt := Q } (start ["wishes", "asked", "works"] vs) H := by
  rintro vs H Q E ⟨_, a, b, c, rows, ws, done, rfl, hA, hB, hC, hv, hrl, hwl, q⟩
  have hcl : (castL ws).length = ws.length := List.length_map _
  unfold rd_group_of
  walk_at "s1"
  refine ⟨rfl, a, b, rows, castL ws, rfl, hA, hB, by omega, by omega, fun l1 H1 f1 s1 h1 => ?_⟩
  rw [common_cast] at h1
  have hgl : ((List.range rows.length).filter fun i => ws.all fun w => WR rows i w).length ≤ 20 := Nat.le_trans (List.length_filter_le _ _) (by rw [List.length_range]; exact hv)
  have hgm : ∀ i ∈ (List.range rows.length).filter fun i => ws.all fun w => WR rows i w, i < rows.length := fun i hi => List.mem_range.mp (List.mem_filter.mp hi).1
  have egf : grpF rows done ws = ((List.range rows.length).filter fun i => ws.all fun w => WR rows i w).filter fun i => decide (((rows.getD i []).filter fun k => decide (k ∈ castL done)).length < ws.length) := by
    unfold grpF
    rw [List.filter_filter]
    congr 1
    funext i
    exact Bool.and_comm _ _
  rw [egf] at q
  generalize (List.range rows.length).filter (fun i => ws.all fun w => WR rows i w) = gs at *
  have hlg : ((gs.map fun i : Nat => (i : Int)).map V.int).length = gs.length := by simp
  have eg : ∀ j, j < gs.length → ((gs.map fun i : Nat => (i : Int)).map V.int).getD j .non = .int ((gs.getD j 0 : Nat) : Int) := fun j hj => by simp [List.getD, hj]
  have q1 : SqL K H1 l1 ((gs.map fun i : Nat => (i : Int)).map V.int) := SqL.of h1
  have hC1 := s1.seq hC
  have hB1 := s1.seq hB
  obtain ⟨bs, hbA, hP⟩ := hA
  have hbl : bs.length = rows.length := (Paired.length hP).symm
  have hA1 := s1.seq hbA
  walk_at "s1"
  refine comp_filtY (ys_list (xs := (gs.map fun i : Nat => (i : Int)).map V.int) 0) (fun j => [some (((gs.map fun i : Nat => (i : Int)).map V.int).getD j .non), some (.ref a), some (.ref c), some (.ref b)]) (by rintro j σ' (rfl | ⟨k, rfl⟩) <;> rfl) (fun H' s => s.seq q1) (by rw [hlg]; exact Nat.le_trans (show _ ≤ 1000 by omega) line64) (fun j => decide (((rows.getD (gs.getD j 0) []).filter fun k => decide (k ∈ castL done)).length < ws.length)) (fun j => .int ((gs.getD j 0 : Nat) : Int)) ?_ ?_ ?_
  · intro j hj H' F s kk
    rw [hlg] at hj
    rw [eg j hj]
    have hi := hgm (gs.getD j 0) (by simp [List.getD, hj])
    generalize gs.getD j 0 = i at *
    have hib : i < bs.length := by omega
    obtain ⟨row, hr, hq⟩ := paired_at' hP (show bs[i]? = some bs[i] by simp [hib])
    have e2 : rows.getD i [] = row := by simp [List.getD, hr]
    have hr64 := hrl row (List.mem_of_getElem? hr)
    rw [e2] at kk
    have hB' := s.seq hB1
    walk_at "s1"
    refine r_ix (s.seq hA1) (atI_nat (v := .ref bs[i]) (by simp [hib])) ?_
    walk_at "s1"
    refine ⟨rfl, bs[i], c, row, castL done, rfl, (s1.trans s).seq hq, s.seq hC1, hr64, fun H2 s2 => ?_⟩
    have hB2 := s2.seq hB'
    walk_at "s1"
    have e3 : decide (((((row.filter fun k => decide (k ∈ castL done)).length : Nat) : Int)) < (((castL ws).map V.int).length : Int)) = decide ((row.filter fun k => decide (k ∈ castL done)).length < ws.length) := by
      rw [List.length_map, hcl]
      exact decide_eq_decide.mpr (by omega)
    rw [e3]
    exact kk H2 s2
  · intro j hj _ H' F s kk
    rw [hlg] at hj
    rw [eg j hj]
    walk_at "s1"
    exact kk H' (Same.refl _)
  intro l H2 f2 s2 h2
  have e2 : ((List.range ((gs.map fun i : Nat => (i : Int)).map V.int).length).filter fun j => decide (((rows.getD (gs.getD j 0) []).filter fun k => decide (k ∈ castL done)).length < ws.length)).map (fun j => V.int ((gs.getD j 0 : Nat) : Int)) = ((gs.filter fun i => decide (((rows.getD i []).filter fun k => decide (k ∈ castL done)).length < ws.length)).map fun i : Nat => (i : Int)).map V.int := by
    rw [hlg]
    have e3 : gs = (List.range gs.length).map (fun i => gs.getD i 0) := by
      apply List.ext_getElem
      · simp
      · intro k h1 h2
        simp [List.getD, h1]
    conv => rhs; rw [e3]
    rw [List.filter_map, List.map_map, List.map_map]
    rfl
  rw [e2] at h2
  exact q l H2 (s1.free f2) (s1.trans s2) h2

theorem cost_cast (cs : List Int) (ws : List Nat) : ((castL ws).map fun k => cs.getD k.toNat 0).sum = cstF cs ws := by
  unfold castL cstF
  rw [List.map_map]
  rfl
theorem rk_could_pay : ∀ vs H Q E, sp_could_pay K vs H Q E → rd_could_pay K { nx := fun _ H' => Q .non H', rt := Q } (start ["coins", "costs", "wishes", "asked", "group"] vs) H := by
  rintro vs H Q E ⟨_, coins, a, b, c, d, cs, rows, ws, gs, rfl, hco, hA, hB, hC, hD, hv, hwl, hws, q⟩
  obtain ⟨bs, hbB, hP⟩ := hB
  have hlb : (bs.map V.ref).length = rows.length := by rw [List.length_map]; exact (Paired.length hP).symm
  have hcl : (castL ws).length = ws.length := List.length_map _
  have hgl : ((castL gs).map V.int).length = gs.length := by unfold castL; simp
  unfold rd_could_pay
  walk_at "s1"
  refine ⟨rfl, a, c, cs, castL ws, rfl, hA, hC, by omega, fun k hk => ?_, fun H1 s1 => ?_⟩
  · obtain ⟨w, hw, e⟩ := List.mem_map.mp hk
    exact ⟨w, e.symm, hws w hw⟩
  rw [cost_cast]
  have hB1 := s1.seq hbB
  walk_at "s1"
  rw [hlb, hgl]
  exact q H1 s1

theorem rk_wronged : ∀ vs H Q E, sp_wronged K vs H Q E → rd_wronged K { nx := fun _ H' => Q .non H', rt := Q } (start ["coins", "costs", "wishes", "works", "asked", "group"] vs) H := by
  rintro vs H Q E ⟨_, coins, a, b, c, cs, rows, done, rfl, hco, hA, hB, hC, h8, hv, hrl, qn, qt⟩
  have hlc : (cs.map V.int).length = cs.length := List.length_map _
  unfold rd_wronged
  with_reducible refine r_seq ?_
  walk_at "s1"
  refine ⟨rfl, cs.length, by rw [hlc], h8, fun l1 H1 wss f1 s1 h1 hAll hwl => ?_⟩
  obtain ⟨bs, hb1, hb2⟩ := h1
  have hbl : bs.length = wss.length := by have := Paired.length hb2; rw [List.length_map] at this; exact this.symm
  have hlb : (bs.map V.ref).length = wss.length := by rw [List.length_map, hbl]
  have q1 : SqL K H1 l1 (bs.map V.ref) := SqL.of hb1
  walk_at "s1"
  try refine ⟨l1, rfl, ⟨_, q1⟩, ?_⟩
  refine for_ys (ys_list (xs := bs.map V.ref) 4) (fun i σ H' => Same H1 H' ∧ i ≤ wss.length ∧ (∀ ws ∈ wss.take i, ¬ WrongAt coins cs rows done ws) ∧ ∃ v4 v5, σ = [some (.int coins), some (.ref a), some (.ref b), some (.ref c), v4, v5]) ⟨Same.refl _, Nat.zero_le _, (fun ws hw => by simp at hw), _, _, rfl⟩ (fun i σ H' h => h.1.seq q1) ?_ ?_
  · rintro i σ Ha Hb hi ⟨sa, hile, hpre, v4, v5, rfl⟩ sb
    rw [hlb] at hi
    have hib : i < bs.length := by omega
    have e : (bs.map V.ref).getD i .non = .ref bs[i] := by simp [List.getD, hib]
    rw [e]
    obtain ⟨r, hr', hq⟩ := paired_at' hb2 (show bs[i]? = some bs[i] by simp [hib])
    have er : r = castL wss[i] := by
      rw [List.getElem?_map, List.getElem?_eq_getElem hi] at hr'
      exact (Option.some.inj hr').symm
    subst er
    obtain ⟨j, hj, hRj⟩ := hAll.rise wss[i] (List.getElem_mem hi)
    have nxt : ¬ WrongAt coins cs rows done wss[i] → ∀ ws ∈ wss.take (i + 1), ¬ WrongAt coins cs rows done ws := fun hn ws hw => by
      rw [List.take_succ_eq_append_getElem hi] at hw
      rcases List.mem_append.mp hw with z | z
      · exact hpre ws z
      · rw [List.mem_singleton.mp z]; exact hn
    have fst : WrongAt coins cs rows done wss[i] → FirstW coins cs rows done wss[i] := fun hw => by
      refine ⟨⟨j, hj, hRj⟩, hw, fun j' us hj' hu hus => ?_⟩
      obtain ⟨m, hm, em⟩ := List.getElem_of_mem (hAll.all j' us hj' hu)
      by_cases c1 : m < i
      · have : us ∈ wss.take i := by
          rw [← em]
          exact List.mem_take_iff_getElem.mpr ⟨m, by omega, rfl⟩
        exact absurd hus (hpre us this)
      · by_cases c2 : m = i
        · subst c2; exact .inl em.symm
        · refine .inr ?_
          rw [← em]
          exact List.pairwise_iff_getElem.mp hAll.ord i m hi hm (by omega)
    have hwl := rise_le hRj
    have hwn := hRj.len
    have hnod : (wss[i]).Nodup := List.Pairwise.imp (fun h => Nat.ne_of_lt h) hRj.pw
    have hlt := hRj.lt
    have hlt1 : bs[i] ≠ l1 := hq.1.2
    have hnew : H bs[i] = none := hq.1.1
    generalize wss[i] = ws at *
    have sab := sa.trans sb
    have s0b := s1.trans sab
    have hw : SqL K Hb bs[i] ((castL ws).map V.int) := SqL.of (sab _ _ hq.2)
    show tSeq _ _ _ _ _
    with_reducible refine r_seq ?_
    walk_at "s1"
    refine ⟨rfl, b, bs[i], c, rows, ws, done, rfl, s0b.rows hB, hw, s0b.seq hC, hv, hrl, by omega, fun l2 H2 f2 s2 h2 => ?_⟩
    have hWd : ∀ x, WrongAt coins cs rows done x = (grpF rows done x ≠ [] ∧ cstF cs x * (rows.length : Int) ≤ (coins : Int) * ((grpF rows done x).length : Int)) := fun _ => rfl
    rw [hWd] at nxt fst
    have h2 : H2 l2 = some (.lst ((castL (grpF rows done ws)).map V.int)) := h2
    have qt' := fun t la lg H' a1 (a2 : FirstW coins cs rows done ws) => qt t la lg H' ws a1 a2
    generalize grpF rows done ws = gs at *
    walk_at "s1"
    refine r_tBL ?_
    walk_at "s1"
    refine ⟨_, _, rfl, SqL.of h2, ?_⟩
    cases gs with
    | nil =>
      show if (!true) = true then _ else _
      refine iteNT ?_
      walk_at "s1"
      exact ⟨sab.trans s2, by omega, nxt (fun z => z.1 rfl), _, _, rfl⟩
    | cons g0 gr =>
      show if (!false) = true then _ else _
      refine iteNF ?_
      walk_at "s1"
      have s02 := s0b.trans s2
      refine ⟨rfl, coins, a, b, bs[i], l2, cs, rows, ws, g0 :: gr, rfl, hco, s02.seq hA, s02.rows hB, s2.seq hw, SqL.of h2, hv, by omega, hlt, fun H3 s3 => ?_⟩
      by_cases hpay : cstF cs ws * (rows.length : Int) ≤ (coins : Int) * (((g0 :: gr).length : Nat) : Int)
      · rw [decide_eq_true hpay]
        walk_at "s1"
        rename_i t H4 f4 s4 h4
        have n2 : bs[i] ≠ l2 := fun z => by rw [← z, sab _ _ hq.2] at f2; cases f2
        refine qt' t bs[i] l2 H4 (s02.trans (s3.trans s4)) (fst ⟨by simp, hpay⟩) ((s02.trans s3).free f4) hnew (s0b.free f2) n2 h4 ((sab.trans (s2.trans (s3.trans s4))) _ _ hq.2) (s4 _ _ (s3 _ _ h2))
      · rw [decide_eq_false hpay]
        walk_at "s1"
        exact ⟨sab.trans (s2.trans s3), by omega, nxt (fun z => hpay z.2), _, _, rfl⟩
  rintro σ Ha ⟨sa, _, hpre, v4, v5, rfl⟩
  walk_at "s1"
  refine qn (fun j ws hj hr hw => ?_) Ha (s1.trans sa)
  rw [hlb, List.take_length] at hpre
  exact hpre ws (hAll.all j ws hj hr) hw

theorem rk__law_cell_at : ∀ vs H Q E, sp__law_cell_at K vs H Q E → rd__law_cell_at K { nx := fun _ H' => Q .non H', rt := Q } (start ["script", "k"] vs) H := by
  rintro vs H Q E ⟨_, a, ns, k, rfl, hS, q⟩
  unfold rd__law_cell_at
  walk_at "w"
  rw [List.length_map]
  refine ite2 (fun h => ?_) (fun h => ?_)
  · have hk : k < ns.length := by have := of_decide_eq_true h; omega
    walk_at "w"
    refine r_ix hS (atI_nat (getInt (show ns[k]? = some (ns.getD k 0) by simp [List.getD, hk]))) ?_
    exact q
  · have hk : ¬ k < ns.length := fun z => h (decide_eq_true (by omega))
    walk_at "w"
    have e : ns.getD k 0 = 0 := by simp [List.getD, List.getElem?_eq_none (Nat.le_of_not_lt hk)]
    rw [e] at q
    exact q
theorem r__law_cell_at {a : Addr} {ns : List Int} {k : Int} {H : Hp} {Q : VK} {E : XK} (h0 : 0 ≤ k) (hS : SqL K H a (ns.map V.int)) (h : Q (.int (ns.getD k.toNat 0)) H) : sp__law_cell_at K [.ref a, .int k] H Q E :=
  ⟨rfl, a, ns, k.toNat, by rw [Int.toNat_of_nonneg h0], hS, h⟩
local macro_rules | `(tactic| walk_at "call") => `(tactic| ((with_reducible show sp__law_cell_at _ _ _ _ _); refine r__law_cell_at (by walk_at "num") (by walk_at "sq") ?_))

theorem rk__law_whole : ∀ vs H Q E, sp__law_whole K vs H Q E → rd__law_whole K { nx := fun _ H' => Q .non H', rt := Q } (start ["found"] vs) H := by
  rintro vs H Q E ⟨_, i, rfl, q⟩
  unfold rd__law_whole
  walk_at "w"
  refine r_isiI kit_ii ?_
  walk_at "w"
  refine iteT ?_
  walk_at "w"
  refine r_isiI kit_ib ?_
  walk_at "w"
  exact q
theorem r__law_whole {i : Int} {H : Hp} {Q : VK} {E : XK} (h : Q (.bl true) H) : sp__law_whole K [.int i] H Q E := ⟨rfl, i, rfl, h⟩
local macro_rules | `(tactic| walk_at "call") => `(tactic| ((with_reducible show sp__law_whole _ _ _ _ _); refine r__law_whole ?_))

theorem rk__law_draw : ∀ vs H Q E, sp__law_draw K vs H Q E → rd__law_draw K { nx := fun _ H' => Q .non H', rt := Q } (start ["cell", "place", "spot"] vs) H := by
  rintro vs H Q E ⟨_, c, p, rfl, hp, q⟩
  unfold rd__law_draw
  with_reducible refine r_seq ?_
  walk_at "s1"
  have z1 := Int.emod_nonneg c (show (999983 : Int) ≠ 0 by decide)
  have z2 := Int.emod_lt_of_pos c (show (0 : Int) < 999983 by decide)
  generalize c % 999983 = y at *
  walk_at "s1"
  generalize (y + 400009 + 7001 * (p : Int)) * (y + 400009 + 7001 * (p : Int)) * (y + 400009 + 7001 * (p : Int)) * (2 * (p : Int) + 3) = w at *
  exact q _ (Int.emod_nonneg w (by decide)) (Int.emod_lt_of_pos w (by decide))

theorem rk__law_draws : ∀ vs H Q E, sp__law_draws K vs H Q E → rd__law_draws K { nx := fun _ H' => Q .non H', rt := Q } (start ["cell", "many"] vs) H := by
  rintro vs H Q E ⟨_, c, n, rfl, hn, q⟩
  unfold rd__law_draws
  walk_at "s1"
  have en : ((n : Int)).toNat = n := by omega
  rw [en]
  refine comp_genY (ys_range 0) (fun i => [some (.int (0 + (i : Int))), some (.int c)]) (by rintro i σ' (rfl | ⟨k, rfl⟩) <;> rfl) (fun _ _ => trivial) (Nat.le_trans (show n ≤ 1000 by omega) line64) (fun _ => true)
    (fun _ _ v _ => ∃ r : Int, v = .int r ∧ 0 ≤ r ∧ r < 1000000007) (fun l i v H1 H2 s h => h) (fun i hi H' F s kk => kk H' (Same.refl _)) ?_ ?_
  · intro l i hi _ H' F hl _ s kk
    have ei : (0 : Int) + (i : Int) = (i : Int) := by omega
    rw [ei]
    walk_at "s1"
    exact ⟨rfl, c, i, rfl, by omega, fun r h1 h2 => kk _ H' ⟨r, rfl, h1, h2⟩ (Same.refl _)⟩
  intro l ys H1 f1 s1 h1 pr
  obtain ⟨xs, rfl, hxl, hxb⟩ := paired_ints (P := fun _ r => 0 ≤ r ∧ r < 1000000007) pr
  rw [List.filter_eq_self.mpr (fun _ _ => rfl), List.length_range] at hxl
  refine q l H1 xs f1 s1 h1 hxl fun x hx => ?_
  obtain ⟨_, _, z⟩ := hxb x hx
  exact z

theorem rowOk_range (n : Nat) : RowOk n (castL (List.range n)) := ⟨List.range n, rfl, List.pairwise_lt_range, fun w hw => List.mem_range.mp hw⟩
theorem rowOk_filter (n : Nat) (p : Nat → Bool) : RowOk n (castL ((List.range n).filter p)) := ⟨_, rfl, List.Pairwise.filter _ List.pairwise_lt_range, fun w hw => List.mem_range.mp (List.mem_filter.mp hw).1⟩
theorem rowOk_take {n : Nat} {r : List Int} (m : Nat) (h : RowOk n r) : RowOk n (r.take m) := by
  obtain ⟨ws, rfl, h1, h2⟩ := h
  exact ⟨ws.take m, by unfold castL; rw [List.map_take], List.Pairwise.sublist (List.take_sublist _ _) h1, fun w hw => h2 w (List.mem_of_mem_take hw)⟩
theorem rowOk_len {n : Nat} {r : List Int} (h : RowOk n r) : r.length ≤ n := by
  obtain ⟨ws, rfl, h1, h2⟩ := h
  unfold castL
  rw [List.length_map]
  exact nodup_len n ws (List.Pairwise.imp (fun h => Nat.ne_of_lt h) h1) h2
theorem rk__law_wishes : ∀ vs H Q E, sp__law_wishes K vs H Q E → rd__law_wishes K { nx := fun _ H' => Q .non H', rt := Q } (start ["cells", "many", "usual", "found", "cell", "ys", "wanted"] vs) H := by
  rintro vs H Q E ⟨_, a, b, zs, u, n, rfl, hA, hzl, hn, hB, hu, q⟩
  have hlz : (zs.map V.int).length = zs.length := List.length_map _
  unfold rd__law_wishes
  with_reducible refine r_seq ?_
  walk_at "s1"
  rename_i l H1 f1 s1 h1
  have hA1 := s1.seq hA
  with_reducible refine r_seq ?_
  walk_at "s1"
  refine for_ys (ys_list (xs := zs.map V.int) 4) (fun i σ H' => Same H H' ∧ ∃ (rows : List (List Int)) (v4 v5 v6 : Option V), RowsM H' l rows ∧ rows.length = i ∧ (∀ r ∈ rows, RowOk n r) ∧ σ = [some (.ref a), some (.int n), some (.ref b), some (.ref l), v4, v5, v6]) ⟨s1, [], _, _, _, ⟨[], h1, .nil⟩, rfl, (fun r hr => by simp at hr), rfl⟩ (fun i σ H' h => h.1.seq hA) ?_ ?_
  · rintro i σ Ha Hb hi ⟨sa, rows, v4, v5, v6, hM, hrl, hro, rfl⟩ sb
    rw [hlz] at hi
    have e : (zs.map V.int).getD i .non = .int (zs.getD i 0) := by simp [List.getD, hi]
    rw [e]
    generalize zs.getD i 0 = cell
    have sab := sa.trans sb
    have hMb := hM.same sb
    clear hM sa sb
    show tSeq _ _ _ _ _
    with_reducible refine r_seq ?_
    walk_at "s1"
    refine ⟨rfl, cell, 13, rfl, by decide, fun l2 H2 ys f2 s2 h2 hyl hyb => ?_⟩
    have q2 : SqL K H2 l2 (ys.map V.int) := SqL.of h2
    have hys : ∀ j, j < 13 → (ys.map V.int)[j]? = some (.int (ys.getD j 0)) := fun j hj => by
      have hj' : j < ys.length := by omega
      simp [List.getD, hj']
    walk_at "s1"
    with_reducible refine r_seq ?_
    walk_at "s1"
    have en : ((n : Int)).toNat = n := by omega
    rw [en]
    refine comp_filtY (ys_range 0) (fun j => [some (.int (0 + (j : Int))), some (.ref l2)]) (by rintro j σ' (rfl | ⟨k, rfl⟩) <;> rfl) (fun _ _ => trivial) (Nat.le_trans (show n ≤ 1000 by omega) line64) (fun j => decide (ys.getD j 0 % 3 > 0)) (fun j => .int (j : Int)) ?_ ?_ ?_
    · intro j hj H' F s kk
      have ei : (0 : Int) + (j : Int) = (j : Int) := by omega
      rw [ei]
      walk_at "s1"
      refine r_ix (s.seq q2) (atI_nat (hys j (by omega))) ?_
      walk_at "s1"
      exact kk H' (Same.refl _)
    · intro j hj _ H' F s kk
      have ei : (0 : Int) + (j : Int) = (j : Int) := by omega
      rw [ei]
      walk_at "s1"
      exact kk H' (Same.refl _)
    intro l3 H3 f3 s3 h3
    have e3 : ((List.range n).filter fun j => decide (ys.getD j 0 % 3 > 0)).map (fun j : Nat => V.int (j : Int)) = (castL ((List.range n).filter fun j => decide (ys.getD j 0 % 3 > 0))).map V.int := by unfold castL; rw [List.map_map]; rfl
    rw [e3] at h3
    have hw := rowOk_filter n fun j => decide (ys.getD j 0 % 3 > 0)
    generalize castL ((List.range n).filter fun j => decide (ys.getD j 0 % 3 > 0)) = wd at *
    have s03 := sab.trans (s2.trans s3)
    have hM3 := (hMb.same s2).same s3
    have hB3 := s03.seq hB
    have q3 : SqL K H3 l2 (ys.map V.int) := s3.seq q2
    have q33 : SqL K H3 l3 (wd.map V.int) := SqL.of h3
    have hl3 : ∃ o, H3 l = some o := by obtain ⟨x, h, _⟩ := hM3; exact ⟨_, h⟩
    obtain ⟨o, ho⟩ := hl3
    have hl2 : ∃ o, H2 l = some o := by obtain ⟨x, h, _⟩ := hMb.same s2; exact ⟨_, h⟩
    obtain ⟨o2, ho2⟩ := hl2
    clear s2 s3
    walk_at "s1"
    refine ⟨tyL hM3.choose_spec.1, ?_⟩
    walk_at "s1"
    refine r_listRng ?_
    walk_at "s1"
    refine r_rngL (by omega) fun l4 H4 f4 s4 h4 => ?_
    have e4 : (List.range n).map (fun i : Nat => V.int (i : Int)) = (castL (List.range n)).map V.int := by unfold castL; rw [List.map_map]; rfl
    rw [e4] at h4
    have hB4 := s4.seq hB3
    have q34 := s4.seq q33
    walk_at "s1"
    rename_i l5 H5 f5 s5 h5 l6 H6 f6 s6 h6 l7 H7 f7 s7 h7
    have e6 : cutV (wd.map V.int) none (some 2) = (wd.take 2).map V.int := cut_take wd 2
    rw [e6] at h6
    have s37 : Same H3 H7 := s4.trans (s5.trans (s6.trans s7))
    refine r_ix (s37.seq q3) (atI_nat (j := 12) (hys 12 (by decide))) ?_
    walk_at "s1"
    obtain ⟨y, hy, hy4⟩ := modI (ys.getD 12 0) 4 (by decide)
    have hy : ys.getD 12 0 % 4 = (y : Int) := hy
    rw [hy]
    have key : ∀ y, y < 4 → ∃ (bb : Addr) (r : List Int), ([.ref l4, .ref l5, .ref l3, .ref l6] : List V)[y]? = some (.ref bb) ∧ H7 bb = some (.lst (r.map V.int)) ∧ RowOk n r ∧ bb ≠ l := by
      intro y hy
      rcases (show y = 0 ∨ y = 1 ∨ y = 2 ∨ y = 3 by omega) with e | e | e | e <;> subst e
      · exact ⟨l4, _, rfl, s7 _ _ (s6 _ _ (s5 _ _ h4)), rowOk_range n, fun z => by rw [z, ho] at f4; cases f4⟩
      · exact ⟨l5, u, rfl, s7 _ _ (s6 _ _ h5), hu, fun z => by rw [z, s4 _ _ ho] at f5; cases f5⟩
      · exact ⟨l3, wd, rfl, s37 _ _ h3, hw, fun z => by rw [z, ho2] at f3; cases f3⟩
      · exact ⟨l6, _, rfl, s7 _ _ h6, rowOk_take 2 hw, fun z => by rw [z, s5 _ _ (s4 _ _ ho)] at f6; cases f6⟩
    obtain ⟨bb, r, hb1, hb2, hb3, hb4⟩ := key y hy4
    refine r_ix (SqL.of h7) (atI_nat hb1) ?_
    walk_at "s1"
    obtain ⟨xs, hxs, hxl, hM4⟩ := (hM3.same s37).snoc hb2 hb4
    refine r_appendN hxs (by rw [hxl, hrl]; exact Nat.lt_of_lt_of_le (show i < 1000 by omega) line64) ?_
    refine ⟨(s03.trans s37).upd f1, rows ++ [r], _, _, _, hM4, by rw [List.length_append, hrl]; rfl, fun x hx => ?_, rfl⟩
    rcases List.mem_append.mp hx with z | z
    · exact hro x z
    · rw [List.mem_singleton.mp z]
      exact hb3
  rintro σ Ha ⟨sa, rows, v4, v5, v6, hM, hrl, hro, rfl⟩
  rw [hlz] at hrl
  walk_at "s1"
  exact q l Ha rows f1 sa hM hrl hro

theorem rk__law_town : ∀ vs H Q E, sp__law_town K vs H Q E → rd__law_town K { nx := fun _ H' => Q .non H', rt := Q } (start ["script", "xs", "many", "costs", "usual", "wishes", "zs", "coins"] vs) H := by
  rintro vs H Q E ⟨_, a, ns, rfl, hS, hl63, q⟩
  unfold rd__law_town
  with_reducible refine r_seq ?_
  walk_at "s1"
  refine ⟨rfl, _, 14, rfl, by decide, fun l1 H1 xs f1 s1 h1 hxl hxb => ?_⟩
  have q1 : SqL K H1 l1 (xs.map V.int) := SqL.of h1
  have hS1 := s1.seq hS
  have hat : ∀ j, j < 14 → (xs.map V.int)[j]? = some (.int (xs.getD j 0)) := fun j hj => by
    have : j < xs.length := by omega
    simp [List.getD, this]
  have hxb' : ∀ j, j < 14 → 0 ≤ xs.getD j 0 ∧ xs.getD j 0 < 1000000007 := fun j hj => by
    have h2 : j < xs.length := by omega
    exact hxb _ (by simp [List.getD, h2])
  have sA := s1
  clear s1
  walk_at "s1"
  with_reducible refine r_seq ?_
  walk_at "s1"
  refine r_ix q1 (atI_nat (j := 0) (hat 0 (by decide))) ?_
  walk_at "s1"
  refine r_ix q1 (atI_nat (j := 0) (hat 0 (by decide))) ?_
  walk_at "s1"
  rename_i l2 H2 f2 s2 h2
  have q2 := s2.seq q1
  have hS2 := s2.seq hS1
  refine r_ix q2 (atI_nat (j := 1) (hat 1 (by decide))) ?_
  walk_at "s1"
  obtain ⟨n, hn1, hn8⟩ : ∃ n : Nat, ([.int (xs.getD 0 0 % 7), .int (7 + xs.getD 0 0 / 7 % 2)] : List V)[(if decide (xs.getD 1 0 % 8 = 0) = true then (1 : Int) else 0).toNat]? = some (.int n) ∧ n ≤ 8 := by
    by_cases c : xs.getD 1 0 % 8 = 0
    · rw [decide_eq_true c, if_pos rfl]
      exact ⟨(7 + xs.getD 0 0 / 7 % 2).toNat, by show some (V.int _) = _; congr 2; omega, by omega⟩
    · rw [decide_eq_false c, if_neg Bool.false_ne_true]
      exact ⟨(xs.getD 0 0 % 7).toNat, by show some (V.int _) = _; congr 2; omega, by omega⟩
  refine r_ixN (SqL.of h2) (by split <;> decide) hn1 ?_
  have s2A := s2
  clear s2 q1 hS1
  walk_at "s1"
  have en : ((n : Int)).toNat = n := by omega
  with_reducible refine r_seq ?_
  walk_at "s1"
  rw [en]
  refine comp_genY (ys_range 0) (fun i => [some (.int (0 + (i : Int))), some (.ref l1)]) (by rintro i σ' (rfl | ⟨k, rfl⟩) <;> rfl) (fun _ _ => trivial) (Nat.le_trans (show n ≤ 1000 by omega) line64) (fun _ => true)
    (fun _ _ v _ => ∃ r : Int, v = .int r ∧ 1 ≤ r ∧ r ≤ 1000000000000) (fun l i v H1 H2 s h => h) (fun i hi H' F s kk => kk H' (Same.refl _)) ?_ ?_
  · intro l i hi _ H' F hl _ s kk
    have ei : (0 : Int) + (i : Int) = (i : Int) := by omega
    rw [ei]
    have q' := s.seq q2
    walk_at "s1"
    have e2 : (2 : Int) + (i : Int) = ((2 + i : Nat) : Int) := by omega
    have hb := hxb' (2 + i) (by omega)
    rw [e2]
    refine r_ix q' (atI_nat (hat (2 + i) (by omega))) ?_
    walk_at "s1"
    try rw [e2]
    refine r_ix q' (atI_nat (hat (2 + i) (by omega))) ?_
    walk_at "s1"
    rename_i l9 H9 f9 s9 h9
    refine r_ix (s9.seq q') (atI_nat (j := 10) (hat 10 (by decide))) ?_
    walk_at "s1"
    obtain ⟨y, hy, hy2⟩ := modI (xs.getD 10 0 / ((i : Int) + 1)) 2 (by decide)
    have hy : xs.getD 10 0 / ((i : Int) + 1) % 2 = (y : Int) := hy
    rw [hy]
    have key : ∀ y, y < 2 → ∃ d : Int, ([.int (1 + xs.getD (2 + i) 0 % 9), .int (1 + xs.getD (2 + i) 0 * 80021 % 1000000000000)] : List V)[y]? = some (.int d) ∧ 1 ≤ d ∧ d ≤ 1000000000000 := by
      intro y hy
      rcases (show y = 0 ∨ y = 1 by omega) with e | e <;> subst e
      · exact ⟨_, rfl, by omega, by omega⟩
      · exact ⟨_, rfl, by omega, by omega⟩
    obtain ⟨d, hd, hd1, hd2⟩ := key y hy2
    refine r_ix (SqL.of h9) (atI_nat hd) ?_
    exact kk _ H9 ⟨d, rfl, hd1, hd2⟩ s9
  intro lc ys H3 f3 s3 h3 pr
  obtain ⟨cs, rfl, hcl, hcb⟩ := paired_ints (P := fun _ r => 1 ≤ r ∧ r ≤ 1000000000000) pr
  rw [List.filter_eq_self.mpr (fun _ _ => rfl), List.length_range] at hcl
  have hcb : ∀ x ∈ cs, 1 ≤ x ∧ x ≤ 1000000000000 := fun x hx => by obtain ⟨_, _, z⟩ := hcb x hx; exact z
  have q3 := s3.seq q2
  have hS3 := s3.seq hS2
  clear pr
  walk_at "s1"
  with_reducible refine r_seq ?_
  walk_at "s1"
  rw [en]
  refine comp_filtY (ys_range 0) (fun j => [some (.int (0 + (j : Int))), some (.ref l1)]) (by rintro j σ' (rfl | ⟨k, rfl⟩) <;> rfl) (fun _ _ => trivial) (Nat.le_trans (show n ≤ 1000 by omega) line64) (fun j => decide (xs.getD 11 0 / ((j : Int) + 1) % 3 > 0)) (fun j => .int (j : Int)) ?_ ?_ ?_
  · intro j hj H' F s kk
    have ei : (0 : Int) + (j : Int) = (j : Int) := by omega
    rw [ei]
    walk_at "s1"
    refine r_ix (s.seq q3) (atI_nat (j := 11) (hat 11 (by decide))) ?_
    walk_at "s1"
    exact kk H' (Same.refl _)
  · intro j hj _ H' F s kk
    have ei : (0 : Int) + (j : Int) = (j : Int) := by omega
    rw [ei]
    walk_at "s1"
    exact kk H' (Same.refl _)
  intro l4 H4 f4 s4 h4
  have e4 : ((List.range n).filter fun j : Nat => decide (xs.getD 11 0 / ((j : Int) + 1) % 3 > 0)).map (fun j : Nat => V.int (j : Int)) = (castL ((List.range n).filter fun j : Nat => decide (xs.getD 11 0 / ((j : Int) + 1) % 3 > 0))).map V.int := by unfold castL; rw [List.map_map]; rfl
  rw [e4] at h4
  have hu := rowOk_filter n fun j : Nat => decide (xs.getD 11 0 / ((j : Int) + 1) % 3 > 0)
  generalize castL ((List.range n).filter fun j : Nat => decide (xs.getD 11 0 / ((j : Int) + 1) % 3 > 0)) = us at *
  have hS4 := s4.seq hS3
  have h34 := s4 _ _ h3
  walk_at "s1"
  with_reducible refine r_seq ?_
  walk_at "s1"
  rename_i l5 H5 f5 s5 h5 l6 H6 f6 s6 h6
  have e5 : cutV (ns.map V.int) (some 4) (some 23) = ((ns.drop 4).take (23 - 4)).map V.int := cutA_mid V.int ns 4 23
  rw [e5] at h5
  have hl5 : ((ns.drop 4).take (23 - 4)).length ≤ 19 := by rw [List.length_take]; omega
  generalize (ns.drop 4).take (23 - 4) = ms at *
  refine r_catN (s6 _ _ h5) h6 (by rw [List.length_map]; exact Nat.le_trans (show _ ≤ 1000 by show _ + 1 ≤ _; omega) line64) fun l7 H7 f7 s7 h7 => ?_
  have s47 : Same H4 H7 := s5.trans (s6.trans s7)
  have e7 : ms.map V.int ++ [V.int (ns.getD (Int.toNat 3) 0)] = (ms ++ [ns.getD (Int.toNat 3) 0]).map V.int := by simp
  rw [e7] at h7
  have hl7 : (ms ++ [ns.getD (Int.toNat 3) 0]).length ≤ 20 ∧ 1 ≤ (ms ++ [ns.getD (Int.toNat 3) 0]).length := by rw [List.length_append]; exact ⟨by show _ + 1 ≤ _; omega, by show _ ≤ _ + 1; omega⟩
  generalize ms ++ [ns.getD (Int.toNat 3) 0] = zs at *
  walk_at "s1"
  refine ⟨rfl, l7, l4, zs, us, n, rfl, SqL.of h7, hl7.1, hn8, SqL.of (s47 _ _ h4), hu, fun lw H8 rows f8 s8 h8 hrl hro => ?_⟩
  have s48 := s47.trans s8
  have hS8 := s48.seq hS4
  have h38 := s48 _ _ h34
  have q38 : SqL K H8 lc (cs.map V.int) := SqL.of h38
  have s08 : Same H H8 := (sA.trans s2A).trans (s3.trans (s4.trans s48))
  clear s5 s6 s7
  walk_at "s1"
  with_reducible refine r_seq ?_
  walk_at "s1"
  refine ⟨rfl, _, 3, rfl, by decide, fun l9 H9 ys f9 s9 h9 hyl hyb => ?_⟩
  have q9 : SqL K H9 l9 (ys.map V.int) := SqL.of h9
  have hys : ∀ j, j < 3 → (ys.map V.int)[j]? = some (.int (ys.getD j 0)) := fun j hj => by
    have hj' : j < ys.length := by omega
    simp [List.getD, hj']
  have hmem : ∀ j, j < 3 → ys.getD j 0 ∈ ys := fun j hj => by
    have hj' : j < ys.length := by omega
    simp [List.getD, hj']
  have hy0 := hyb (ys.getD 0 0) (hmem 0 (by decide))
  have hy1 := hyb (ys.getD 1 0) (hmem 1 (by decide))
  have q39 := s9.seq q38
  have hsum : 0 ≤ cs.sum := sum_nonneg fun x hx => by have := hcb x hx; omega
  walk_at "s1"
  with_reducible refine r_seq ?_
  walk_at "s1"
  refine r_ix q9 (atI_nat (j := 0) (hys 0 (by decide))) ?_
  walk_at "s1"
  refine r_ix q9 (atI_nat (j := 0) (hys 0 (by decide))) ?_
  walk_at "s1"
  refine r_ix q9 (atI_nat (j := 1) (hys 1 (by decide))) ?_
  walk_at "s1"
  rename_i l10 H10 f10 s10 h10
  refine r_ix (s10.seq q9) (atI_nat (j := 2) (hys 2 (by decide))) ?_
  walk_at "s1"
  obtain ⟨y, hy, hy6⟩ := modI (ys.getD 2 0) 5 (by decide)
  have hy : ys.getD 2 0 % 5 = (y : Int) := hy
  rw [hy]
  generalize ys.getD 0 0 = y0 at *
  generalize ys.getD 1 0 = y1 at *
  have hm := Int.emod_nonneg (y0 * y1) (show cs.sum + 1 ≠ 0 by omega)
  generalize y0 * y1 % (cs.sum + 1) = mm at *
  have key : ∀ y, y < 5 → ∃ d : Int, ([.int 0, .int (1 + y0 % 9), .int (cs.sum / 2), .int cs.sum, .int mm] : List V)[y]? = some (.int d) ∧ 0 ≤ d := by
    intro y hy
    rcases (show y = 0 ∨ y = 1 ∨ y = 2 ∨ y = 3 ∨ y = 4 by omega) with e | e | e | e | e <;> subst e
    · exact ⟨_, rfl, by omega⟩
    · exact ⟨_, rfl, by omega⟩
    · exact ⟨_, rfl, by omega⟩
    · exact ⟨_, rfl, by omega⟩
    · exact ⟨_, rfl, by omega⟩
  obtain ⟨d, hd, hd0⟩ := key y hy6
  refine r_ix (SqL.of h10) (atI_nat hd) ?_
  walk_at "s1"
  rename_i t H11 f11 s11 h11
  obtain ⟨m, hm'⟩ : ∃ m : Nat, min d 1000000000000 = (m : Int) := ⟨(min d 1000000000000).toNat, by omega⟩
  have e12 : (10 : Int) ^ Int.toNat 12 = 1000000000000 := by decide
  rw [e12, hm'] at h11
  have s811 : Same H8 H11 := s9.trans (s10.trans s11)
  refine q t lc lw H11 m cs rows (s08.trans s811) h11 (s811 _ _ h38) (h8.same s811) (by omega) (by omega) hcb (by omega) (by omega) (by rw [hcl]; exact hro)

theorem rk__law_sets : ∀ vs H Q E, sp__law_sets K vs H Q E → rd__law_sets K { nx := fun _ H' => Q .non H', rt := Q } (start ["many", "found", "k"] vs) H := by
  rintro vs H Q E ⟨_, n, rfl, hn, q⟩
  unfold rd__law_sets
  with_reducible refine r_seq ?_
  walk_at "s1"
  rename_i l1 H1 f1 s1 h1 l2 H2 f2 s2 h2
  have hM2 : RowsM H2 l2 (([[]] : List (List Nat)).map castL) := ⟨[l1], h2, .cons ⟨(fun z => by rw [z, f2] at h1; cases h1), s2 _ _ h1⟩ .nil⟩
  with_reducible refine r_seq ?_
  walk_at "s1"
  have en : ((n : Int)).toNat = n := by omega
  rw [en]
  have p256 : ∀ k, k ≤ 8 → 2 ^ k ≤ 256 := by decide
  refine for_range (lo := 0) (n := n) (fun k σ H' => Same H H' ∧ ∃ (l : Addr) (wss : List (List Nat)) (v2 : Option V), H l = none ∧ RowsM H' l (wss.map castL) ∧ (∀ ws ∈ wss, ws.Pairwise (· < ·) ∧ ∀ w ∈ ws, w < k) ∧ ((∀ ws : List Nat, ws.Pairwise (· < ·) → (∀ w ∈ ws, w < k) → ws ∈ wss) ∧ ∃ rest, wss = [] :: rest ∧ ∀ ws ∈ rest, ws ≠ []) ∧ wss.length = 2 ^ k ∧ σ = [some (.int n), some (.ref l), v2]) ⟨s1.trans s2, l2, [[]], _, s1.free f2, hM2, (fun ws hw => by rw [List.mem_singleton.mp hw]; exact ⟨.nil, fun w h => by simp at h⟩), ⟨(fun ws _ h => by cases ws with | nil => simp | cons w t => exact absurd (h w (by simp)) (Nat.not_lt_zero _)), [], rfl, (fun ws h => by simp at h)⟩, rfl, rfl⟩ ?_ ?_
  · rintro k σ Ha hk ⟨sa, l, wss, v2, hl0, ⟨bs, hb1, hb2⟩, hW, ⟨hall, rst, hrst, hrn⟩, hwl, rfl⟩
    have hbl : bs.length = wss.length := by have := Paired.length hb2; rw [List.length_map] at this; exact this.symm
    have hlb : (bs.map V.ref).length = wss.length := by rw [List.length_map, hbl]
    have hw256 : wss.length ≤ 256 := by rw [hwl]; exact p256 k (by omega)
    have ek : (0 : Int) + (k : Int) = (k : Int) := by omega
    have qb : SqL K Ha l (bs.map V.ref) := SqL.of hb1
    show tAsg _ _ _ [some (.int n), some (.ref l), some (.int (0 + (k : Int)))] _
    rw [ek]
    walk_at "s1"
    refine comp_rowsY (ys_list (xs := bs.map V.ref) 0) (fun j => [some ((bs.map V.ref).getD j .non), some (.int (k : Int))]) (by rintro j σ' (rfl | ⟨k, rfl⟩) <;> rfl) (fun H' s => s.seq qb) (by rw [hlb]; exact Nat.le_trans (show _ ≤ 1000 by omega) line64) (fun j => (castL (wss.getD j [] ++ [k])).map V.int) ?_ ?_
    · intro j hj H' F s kk
      rw [hlb] at hj
      have hjb : j < bs.length := by omega
      have e : (bs.map V.ref).getD j .non = .ref bs[j] := by simp [List.getD, hjb]
      rw [e]
      obtain ⟨r, hr', hq⟩ := paired_at' hb2 (show bs[j]? = some bs[j] by simp [hjb])
      have er : r = castL (wss.getD j []) := by
        rw [List.getElem?_map, List.getElem?_eq_getElem hj] at hr'
        simp [List.getD, hj]
        exact (Option.some.inj hr').symm
      have hwj := hW (wss.getD j []) (by simp [List.getD, hj])
      have hwl8 := nodup_len k _ (List.Pairwise.imp (fun h => Nat.ne_of_lt h) hwj.1) hwj.2
      subst er
      generalize wss.getD j [] = ws at *
      have hq' := s _ _ hq.2
      walk_at "s1"
      rename_i l3 H3 f3 s3 h3
      refine r_catN (s3 _ _ hq') h3 (by unfold castL; rw [List.length_map, List.length_map]; exact Nat.le_trans (show _ ≤ 1000 by show _ + 1 ≤ _; omega) line64) fun l4 H4 f4 s4 h4 => ?_
      have e4 : (castL ws).map V.int ++ [V.int (k : Int)] = (castL (ws ++ [k])).map V.int := by unfold castL; simp
      rw [e4] at h4
      exact kk l4 H4 (s3.free f4) (s3.trans s4) h4
    intro l3 bs3 H3 f3 s3 h3 pr3
    have hb3l : bs3.length = wss.length := by have := Paired.length pr3; rw [List.length_range, hlb] at this; exact this.symm
    refine r_catN (s3 _ _ hb1) h3 (by rw [hlb, List.length_map, hb3l]; exact Nat.le_trans (show _ ≤ 1000 by omega) line64) fun l4 H4 f4 s4 h4 => ?_
    have s34 := s3.trans s4
    walk_at "s1"
    refine ⟨sa.trans s34, l4, wss ++ wss.map (· ++ [k]), _, sa.free (s3.free f4), ⟨bs ++ bs3, by rw [h4, List.map_append], ?_⟩, fun ws hws => ?_, ⟨fun ws hp hl => ?_, rst ++ wss.map (· ++ [k]), by rw [hrst]; rfl, fun ws hw => ?_⟩, by rw [List.length_append, List.length_map, hwl, Nat.pow_succ]; omega, rfl⟩
    · have ne4 : ∀ b o, H3 b = some o → b ≠ l4 := fun b o hb z => by rw [z, f4] at hb; cases hb
      rw [List.map_append]
      refine paired_app (Paired.mapP hb2 fun _ _ ⟨hc, qq⟩ => ⟨ne4 _ _ (s3 _ _ qq), s34 _ _ qq⟩) ?_
      have e5 : (wss.map (· ++ [k])).map castL = (List.range (bs.map V.ref).length).map fun j => castL (wss.getD j [] ++ [k]) := by
        rw [hlb, range_getD' (fun ws => castL (ws ++ [k])) [] wss, List.map_map]
        rfl
      rw [e5]
      refine paired_mapL (F := fun r b => b ≠ l4 ∧ H4 b = some (.lst (r.map V.int))) (g := fun j => castL (wss.getD j [] ++ [k])) (Paired.mapP pr3 fun _ _ ⟨h0, h1, h2⟩ => ⟨ne4 _ _ h2, s4 _ _ h2⟩)
    · rcases List.mem_append.mp hws with z | z
      · obtain ⟨z1, z2⟩ := hW ws z
        exact ⟨z1, fun w hw => by have := z2 w hw; omega⟩
      · obtain ⟨us, hu, e⟩ := List.mem_map.mp z
        obtain ⟨z1, z2⟩ := hW us hu
        rw [← e]
        refine ⟨List.pairwise_append.mpr ⟨z1, List.pairwise_singleton _ _, fun x hx y hy => ?_⟩, fun w hw => ?_⟩
        · have : y = k := by simpa using hy
          have := z2 x hx
          omega
        · rcases List.mem_append.mp hw with m | m
          · have := z2 w m; omega
          · have : w = k := by simpa using m
            omega
    · by_cases hk' : k ∈ ws
      · rcases List.eq_nil_or_concat ws with e | ⟨us, z, e⟩
        · rw [e] at hk'; simp at hk'
        have e : ws = us ++ [z] := by rw [e, List.concat_eq_append]
        subst e
        obtain ⟨p1, _, p3⟩ := List.pairwise_append.mp hp
        have hz : z = k := by
          have h1 := hl z (by simp)
          rcases List.mem_append.mp hk' with m | m
          · have := p3 k m z (by simp); omega
          · have : k = z := by simpa using m
            omega
        subst hz
        refine List.mem_append_right _ (List.mem_map.mpr ⟨us, hall us p1 (fun w hw => p3 w hw z (by simp)), rfl⟩)
      · refine List.mem_append_left _ (hall ws hp fun w hw => ?_)
        have := hl w hw
        have : w ≠ k := fun z => hk' (by rw [← z]; exact hw)
        omega
    · rcases List.mem_append.mp hw with z | z
      · exact hrn ws z
      · obtain ⟨us, _, e⟩ := List.mem_map.mp z
        rw [← e]
        simp
  rintro σ Ha ⟨sa, l, wss, v2, hl0, ⟨bs, hb1, hb2⟩, hW, ⟨hall, rst, hrst, hrn⟩, hwl, rfl⟩
  have qb : SqL K Ha l (bs.map V.ref) := SqL.of hb1
  have hw256 : wss.length ≤ 256 := by rw [hwl]; exact p256 n hn
  walk_at "s1"
  rename_i l3 H3 f3 s3 h3
  have e3 : cutV (bs.map V.ref) (some 1) none = (bs.drop 1).map V.ref := cutA_drop V.ref bs 1
  rw [e3] at h3
  refine q l3 H3 (wss.drop 1) (sa.free f3) (sa.trans s3) ⟨bs.drop 1, h3, ?_⟩ (fun ws hw => ?_) (fun j ws hj hr => ?_) (by rw [List.length_drop]; omega)
  rw [List.map_drop]
  exact Paired.mapP (paired_drop 1 hb2) fun _ _ ⟨hc, qq⟩ => ⟨(fun z => by rw [z, f3] at qq; cases qq), s3 _ _ qq⟩
  · obtain ⟨z1, z2⟩ := hW ws (List.mem_of_mem_drop hw)
    rw [hrst] at hw
    have hne := hrn ws hw
    exact ⟨ws.length, List.length_pos_iff.mpr hne, z1, z2, rfl⟩
  · have := hall ws hr.pw hr.lt
    rw [hrst] at this ⊢
    rcases List.mem_cons.mp this with e | e
    · rw [e] at hr
      have := hr.len
      simp at this
      omega
    · exact e

theorem rk__law_group : ∀ vs H Q E, sp__law_group K vs H Q E → rd__law_group K { nx := fun _ H' => Q .non H', rt := Q } (start ["wishes", "asked", "done", "found", "voter", "wanted"] vs) H := by
  rintro vs H Q E ⟨_, a, b, c, rows, ws, done, rfl, ⟨bs, hA, hP⟩, hB, hC, hv, hrl, hwl, q⟩
  have hbl : bs.length = rows.length := (Paired.length hP).symm
  have hlb : (bs.map V.ref).length = rows.length := by rw [List.length_map, hbl]
  have hcl : (castL ws).length = ws.length := List.length_map _
  have hlw : ((castL ws).map V.int).length = ws.length := by rw [List.length_map, hcl]
  unfold rd__law_group
  with_reducible refine r_seq ?_
  walk_at "s1"
  rename_i lf H0 f0 s0 h0
  have hA0 := s0.seq hA
  with_reducible refine r_seq ?_
  walk_at "s1"
  let S : Nat → Bool := fun i => (ws.all fun w => WR rows i w) && decide (((rows.getD i []).filter fun k => decide (k ∈ castL done)).length < ws.length)
  refine for_ys (ys_enum (xs := bs.map V.ref) 4 5) (fun i σ H' => Same H H' ∧ H' lf = some (.lst ((castL ((List.range i).filter S)).map V.int)) ∧ i ≤ rows.length ∧ ∃ v4 v5, σ = [some (.ref a), some (.ref b), some (.ref c), some (.ref lf), v4, v5]) ⟨s0, h0, Nat.zero_le _, _, _, rfl⟩ (fun i σ H' h => h.1.seq hA) ?_ ?_
  · rintro i σ Ha Hb hi ⟨sa, hfa, hil, v4, v5, rfl⟩ sb
    rw [hlb] at hi
    have hib : i < bs.length := by omega
    have e : (bs.map V.ref).getD i .non = .ref bs[i] := by simp [List.getD, hib]
    rw [e]
    obtain ⟨row, hr, hq⟩ := paired_at' hP (show bs[i]? = some bs[i] by simp [hib])
    have e2 : rows.getD i [] = row := by simp [List.getD, hr]
    have hr64 := hrl row (List.mem_of_getElem? hr)
    have sab := sa.trans sb
    have hBb := sab.seq hB
    have hCb := sab.seq hC
    have hqb := sab.seq hq
    have eS : S i = ((ws.all fun w => decide ((w : Int) ∈ row)) && decide ((row.filter fun k => decide (k ∈ castL done)).length < ws.length)) := by
      show ((ws.all fun w => WR rows i w) && _) = _
      unfold WR
      rw [e2]
    have hsucc : (List.range (i + 1)).filter S = (List.range i).filter S ++ (if S i = true then [i] else []) := by
      rw [List.range_succ, List.filter_append, List.filter_cons]
      simp
    have step1 : S i = true → (castL ((List.range (i + 1)).filter S)).map V.int = (castL ((List.range i).filter S)).map V.int ++ [.int (i : Int)] := fun h => by rw [hsucc, if_pos h]; unfold castL; simp
    have step0 : ¬ S i = true → (castL ((List.range (i + 1)).filter S)).map V.int = (castL ((List.range i).filter S)).map V.int := fun h => by rw [hsucc, if_neg h, List.append_nil]
    have hfl : ((castL ((List.range i).filter S)).map V.int).length ≤ i := by
      unfold castL
      rw [List.length_map, List.length_map]
      have := List.length_filter_le S (List.range i)
      rwa [List.length_range] at this
    have hfb := sb _ _ hfa
    clear hsucc sa sb hfa
    generalize (castL ((List.range i).filter S)).map V.int = acc at *
    generalize (castL ((List.range (i + 1)).filter S)).map V.int = acc' at *
    show tIfS _ _ _ _ _ _
    walk_at "s1"
    refine comp_filtY (ys_list (xs := (castL ws).map V.int) 0) (fun j => [some (((castL ws).map V.int).getD j .non), some (.ref bs[i])]) (by rintro j σ' (rfl | ⟨k, rfl⟩) <;> rfl) (fun H' s => s.seq hBb) (by rw [hlw]; exact Nat.le_trans (show _ ≤ 1000 by omega) line64) (fun j => !decide ((castL ws).getD j 0 ∈ row)) (fun j => .int ((castL ws).getD j 0)) ?_ ?_ ?_
    · intro j hj H' F s kk
      rw [hlw, ← hcl] at hj
      have e3 : ((castL ws).map V.int).getD j .non = .int ((castL ws).getD j 0) := by simp [List.getD, hj]
      have hq' := s.seq hqb
      rw [e3]
      walk_at "s1"
      exact kk H' (Same.refl _)
    · intro j hj _ H' F s kk
      rw [hlw, ← hcl] at hj
      have e3 : ((castL ws).map V.int).getD j .non = .int ((castL ws).getD j 0) := by simp [List.getD, hj]
      rw [e3]
      walk_at "s1"
      exact kk H' (Same.refl _)
    intro l1 H1 f1 s1 h1
    have e4 : ((List.range ((castL ws).map V.int).length).filter fun j => !decide ((castL ws).getD j 0 ∈ row)).map (fun j => V.int ((castL ws).getD j 0)) = ((castL ws).filter fun k => !decide (k ∈ row)).map V.int := by
      rw [hlw, ← hcl, ← range_filter (castL ws) fun k => !decide (k ∈ row), List.map_map]
      rfl
    rw [e4] at h1
    have eall : ((castL ws).filter (fun k => !decide (k ∈ row)) = []) ↔ (ws.all fun w => decide ((w : Int) ∈ row)) = true := by
      rw [List.filter_eq_nil_iff, List.all_eq_true]
      constructor
      · intro h w hw
        have := h (w : Int) (List.mem_map.mpr ⟨w, hw, rfl⟩)
        simpa using this
      · intro h k hk
        obtain ⟨w, hw, e⟩ := List.mem_map.mp hk
        have := h w hw
        rw [← e]
        simpa using this
    walk_at "s1"
    rename_i l2 H2 f2 s2 h2
    refine iteD (fun h => ?_) (fun h => ?_)
    · have ha := eall.mp h
      rw [ha, Bool.true_and] at eS
      have s02 := s1.trans s2
      have hCx := s02.seq hCb
      have hqx := s02.seq hqb
      have hBx := s02.seq hBb
      walk_at "s1"
      have hlr : (row.map V.int).length = row.length := List.length_map _
      refine comp_filtY (ys_list (xs := row.map V.int) 0) (fun j => [some ((row.map V.int).getD j .non), some (.ref c)]) (by rintro j σ' (rfl | ⟨k, rfl⟩) <;> rfl) (fun H' s => s.seq hqx) (by rw [hlr]; exact Nat.le_trans (show _ ≤ 1000 by omega) line64) (fun j => decide (row.getD j 0 ∈ castL done)) (fun j => .int (row.getD j 0)) ?_ ?_ ?_
      · intro j hj H' F s kk
        rw [hlr] at hj
        have e3 : (row.map V.int).getD j .non = .int (row.getD j 0) := by simp [List.getD, hj]
        have hC' := s.seq hCx
        rw [e3]
        walk_at "s1"
        exact kk H' (Same.refl _)
      · intro j hj _ H' F s kk
        rw [hlr] at hj
        have e3 : (row.map V.int).getD j .non = .int (row.getD j 0) := by simp [List.getD, hj]
        rw [e3]
        walk_at "s1"
        exact kk H' (Same.refl _)
      intro l3 H3 f3 s3 h3
      have e5 : ((List.range (row.map V.int).length).filter fun j => decide (row.getD j 0 ∈ castL done)).map (fun j => V.int (row.getD j 0)) = (row.filter fun k => decide (k ∈ castL done)).map V.int := by
        rw [hlr, ← range_filter row fun k => decide (k ∈ castL done), List.map_map]
        rfl
      rw [e5] at h3
      have hB3 := s3.seq hBx
      walk_at "s1"
      rw [List.length_map, hlw]
      refine iteD (fun h => ?_) (fun h => ?_)
      · have hc := step1 (by rw [eS]; exact decide_eq_true (by omega))
        have sx := s02.trans s3
        have hf3 := sx _ _ hfb
        walk_at "s1"
        refine ⟨tyL hf3, ?_⟩
        walk_at "s1"
        refine r_appendN hf3 (Nat.lt_of_lt_of_le (show acc.length < 1000 by omega) line64) ?_
        exact ⟨(sab.trans sx).upd f0, by rw [upd_same, hc], by omega, _, _, rfl⟩
      · have hc := step0 (by rw [eS]; exact fun z => h (by have := of_decide_eq_true z; omega))
        walk_at "s1"
        exact ⟨sab.trans (s02.trans s3), by rw [hc]; exact (s02.trans s3) _ _ hfb, by omega, _, _, rfl⟩
    · have hc := step0 (by rw [eS]; intro z; exact h (eall.mpr (Bool.and_eq_true_iff.mp z).1))
      walk_at "s1"
      exact ⟨sab.trans (s1.trans s2), by rw [hc]; exact (s1.trans s2) _ _ hfb, by omega, _, _, rfl⟩
  rintro σ Ha ⟨sa, hfa, _, v4, v5, rfl⟩
  rw [hlb] at hfa
  walk_at "s1"
  exact q lf Ha f0 sa hfa

theorem rk__law_due : ∀ vs H Q E, sp__law_due K vs H Q E → rd__law_due K { nx := fun _ H' => Q .non H', rt := Q } (start ["coins", "costs", "wishes", "done", "wrong", "asked", "group", "price", "size"] vs) H := by
  rintro vs H Q E ⟨_, coins, a, b, c, cs, rows, done, rfl, hco, hA, hB, hC, h8, hcb, hv, hrl, qn, qt⟩
  have hlc : (cs.map V.int).length = cs.length := List.length_map _
  obtain ⟨bw, hbw, hbp⟩ := id hB
  have hlbw : (bw.map V.ref).length = rows.length := by rw [List.length_map]; exact (Paired.length hbp).symm
  have hlv : (bw.map V.ref).length ≤ 20 := by omega
  unfold rd__law_due
  with_reducible refine r_seq ?_
  walk_at "s1"
  rename_i lw H0 f0 s0 h0
  have hA0 := s0.seq hA
  with_reducible refine r_seq ?_
  walk_at "s1"
  refine ⟨rfl, cs.length, by rw [hlc], h8, fun l1 H1 wss f1 s1 h1 hrise hall hwl => ?_⟩
  obtain ⟨bs, hb1, hb2⟩ := h1
  have hbl : bs.length = wss.length := by have := Paired.length hb2; rw [List.length_map] at this; exact this.symm
  have hlb : (bs.map V.ref).length = wss.length := by rw [List.length_map, hbl]
  have q1 : SqL K H1 l1 (bs.map V.ref) := SqL.of hb1
  have hw1 := s1 _ _ h0
  have nl : l1 ≠ lw := fun z => by rw [z, h0] at f1; cases f1
  have s01 := s0.trans s1
  let W : List Nat → Bool := wrongB coins cs rows done
  walk_at "s1"
  try refine ⟨l1, rfl, ⟨_, q1⟩, ?_⟩
  refine for_ys (ys_list (xs := bs.map V.ref) 5) (fun i σ H' => Same H H' ∧ SameX lw H1 H' ∧ i ≤ wss.length ∧ ∃ (ts : List Addr) (v5 v6 v7 : Option V), H' lw = some (.lst (ts.map V.ref)) ∧ Paired (T3At H' rows done lw) ((wss.take i).filter W) ts ∧ σ = [some (.int coins), some (.ref a), some (.ref b), some (.ref c), some (.ref lw), v5, v6, v7, none])
    ⟨s01, (Same.refl _).x _, Nat.zero_le _, [], _, _, _, hw1, .nil, rfl⟩ (fun i σ H' h => SqL.of (h.2.1 _ _ nl hb1)) ?_ ?_
  · rintro i σ Ha Hb hi ⟨sa, sx, hile, ts, v5, v6, v7, hts, hP, rfl⟩ sb
    rw [hlb] at hi
    have hib : i < bs.length := by omega
    have e : (bs.map V.ref).getD i .non = .ref bs[i] := by simp [List.getD, hib]
    rw [e]
    obtain ⟨r, hr', hq⟩ := paired_at' hb2 (show bs[i]? = some bs[i] by simp [hib])
    have er : r = castL wss[i] := by
      rw [List.getElem?_map, List.getElem?_eq_getElem hi] at hr'
      exact (Option.some.inj hr').symm
    subst er
    obtain ⟨j, hj, hRj⟩ := hrise wss[i] (List.getElem_mem hi)
    have hwl8 := rise_le hRj
    have hwn := hRj.len
    have hlt := hRj.lt
    have nb : bs[i] ≠ lw := fun z => by have h5 := hq.2; rw [z, hw1] at h5; cases hk : castL wss[i] with | nil => have := hRj.len; rw [← castL_len, hk] at this; simp at this; omega | cons x y => rw [hk] at h5; cases h5
    have etake : (wss.take (i + 1)).filter W = (wss.take i).filter W ++ (if W wss[i] = true then [wss[i]] else []) := by
      rw [List.take_succ_eq_append_getElem hi, List.filter_append, List.filter_cons, List.filter_nil]
    have hts256 : ts.length ≤ 256 := by
      have := Paired.length hP
      have h2 := List.length_filter_le W (wss.take i)
      rw [List.length_take] at h2
      omega
    generalize wss[i] = ws at *
    have sab := sa.trans sb
    have hw : Hb bs[i] = some (.lst ((castL ws).map V.int)) := sb _ _ (sx _ _ nb hq.2)
    have qw : SqL K Hb bs[i] ((castL ws).map V.int) := SqL.of hw
    have hlw : ((castL ws).map V.int).length = ws.length := by rw [List.length_map, castL_len]
    have htb := sb _ _ hts
    have sxb : SameX lw H1 Hb := fun x y hx hy => sb _ _ (sx x y hx hy)
    have up : ∀ {Hx : Hp}, Same Hb Hx → Paired (T3At Hx rows done lw) ((wss.take i).filter W) ts := fun {Hx} sx' => Paired.mapP hP fun _ _ ⟨la, lg, g1, g2, g3, g4, g5⟩ => ⟨la, lg, g1, g2, sx' _ _ (sb _ _ g3), sx' _ _ (sb _ _ g4), sx' _ _ (sb _ _ g5)⟩
    show tSeq _ _ _ _ _
    with_reducible refine r_seq ?_
    walk_at "s1"
    refine ⟨rfl, b, bs[i], c, rows, ws, done, rfl, sab.rows hB, qw, sab.seq hC, hv, hrl, by omega, fun l2 H2 f2 s2 h2 => ?_⟩
    have qw2 := s2.seq qw
    walk_at "s1"
    with_reducible refine r_seq ?_
    walk_at "s1"
    try refine ⟨bs[i], rfl, ⟨_, qw2⟩, ?_⟩
    refine comp_mapY (ys_list (xs := (castL ws).map V.int) 0) (fun j => [some (((castL ws).map V.int).getD j .non), some (.ref a)]) (by rintro j σ' (rfl | ⟨k, rfl⟩) <;> rfl) (fun H' s => s.seq qw2) (by rw [hlw]; exact Nat.le_trans (show ws.length ≤ 1000 by omega) line64) (fun j => .int (cs.getD (ws.getD j 0) 0)) ?_ ?_
    · intro j hj H' F s kk
      rw [hlw] at hj
      have e : ((castL ws).map V.int).getD j .non = .int ((ws.getD j 0 : Nat) : Int) := by simp [castL, List.getD, hj]
      rw [e]
      have hk := hlt (ws.getD j 0) (by simp [List.getD, hj])
      generalize ws.getD j 0 = k at *
      walk_at "s1"
      refine r_ix ((sab.trans (s2.trans s)).seq hA) (atI_nat (getInt (show cs[k]? = some (cs.getD k 0) by simp [List.getD, hk]))) ?_
      exact kk H' (Same.refl _)
    intro l3 H3 f3 s3 h3
    have e3 : (List.range ((castL ws).map V.int).length).map (fun j => V.int (cs.getD (ws.getD j 0) 0)) = (ws.map fun w => cs.getD w 0).map V.int := by
      rw [hlw, range_getD' (fun k => V.int (cs.getD k 0)) 0 ws]
      conv => rhs; rw [List.map_map]
      rfl
    rw [e3] at h3
    have sb3 := s2.trans s3
    walk_at "s1"
    have epr : (ws.map fun w => cs.getD w 0).sum = cstF cs ws := rfl
    rw [epr]
    have h23 := s3 _ _ h2
    have qg3 : SqL K H3 l2 ((castL (grpF rows done ws)).map V.int) := SqL.of h23
    have hbw3 := (sab.trans sb3).seq hbw
    have qw3 := sb3.seq qw
    have hW : W ws = (decide (grpF rows done ws ≠ []) && decide (cstF cs ws * (rows.length : Int) ≤ (coins : Int) * ((grpF rows done ws).length : Int))) := rfl
    have n2 : l2 ≠ lw := fun z => by rw [z, htb] at f2; cases f2
    walk_at "s1"
    rename_i l4 H4 f4 s4 h4
    have sb4 := sb3.trans s4
    have s04 := sab.trans sb4
    have qg4 := s4.seq qg3
    have qw4 := s4.seq qw3
    have hbw4 := s4.seq hbw3
    have hlg : ((castL (grpF rows done ws)).map V.int).length = (grpF rows done ws).length := by rw [List.length_map, castL_len]
    have skip : ¬ W ws = true → Same H H4 ∧ SameX lw H1 H4 ∧ i + 1 ≤ wss.length ∧ ∃ (ts : List Addr) (v5' v6' v7' : Option V), H4 lw = some (.lst (ts.map V.ref)) ∧ Paired (T3At H4 rows done lw) ((wss.take (i + 1)).filter W) ts ∧ [some (.int coins), some (.ref a), some (.ref b), some (.ref c), some (.ref lw), some (.ref bs[i]), some (.ref l2), some (.int (cstF cs ws)), none] = [some (.int coins), some (.ref a), some (.ref b), some (.ref c), some (.ref lw), v5', v6', v7', none] := fun hn =>
      ⟨s04, fun x y hx hy => sb4 _ _ (sxb x y hx hy), by omega, ts, _, _, _, sb4 _ _ htb, by rw [etake, if_neg hn, List.append_nil]; exact up sb4, rfl⟩
    by_cases hg : grpF rows done ws = []
    · refine iteNS (by rw [hg]; rfl) ?_
      walk_at "s1"
      exact skip (by rw [hW, decide_eq_false (fun z => z hg)]; simp)
    refine iteNP (fun z => hg (castL_inj (b := []) z)) ?_
    walk_at "s1"
    rw [hlg, hlbw]
    by_cases hpay : cstF cs ws * (rows.length : Int) ≤ (coins : Int) * ((grpF rows done ws).length : Int)
    rotate_left
    · refine iteN hpay ?_
      walk_at "s1"
      exact skip (by rw [hW, decide_eq_false hpay]; simp)
    refine iteP hpay ?_
    have hWt : W ws = true := by rw [hW, decide_eq_true hg, decide_eq_true hpay]; rfl
    have ht4 := sb4 _ _ htb
    walk_at "s1"
    refine ⟨tyL ht4, ?_⟩
    walk_at "s1"
    rename_i t6 H6 f6 s6 h6
    rw [hlw] at h6
    have sb6 := sb4.trans s6
    have ht6 := sb6 _ _ htb
    refine r_appendN ht6 (by rw [List.length_map]; exact Nat.lt_of_lt_of_le (show ts.length < 1000 by omega) line64) ?_
    have n6 : t6 ≠ lw := fun z => by rw [z, ht4] at f6; cases f6
    refine ⟨(s04.trans s6).upd f0, fun x y hx hy => by rw [upd_ne hx]; exact sb6 _ _ (sxb x y hx hy), by omega, ts ++ [t6], _, _, _, by rw [upd_same, List.map_append]; rfl, ?_, rfl⟩
    rw [etake, if_pos hWt]
    have tn : ∀ (x : List Nat) (t : Addr), T3At H6 rows done lw x t → t ≠ lw := fun x t ⟨la, lg, _, _, g3, _, _⟩ z => by rw [z, ht6] at g3; cases g3
    refine paired_app (Paired.mapP (up sb6) fun x t hx => ?_) (.cons ⟨bs[i], l2, nb, n2, by rw [upd_ne n6]; exact h6, by rw [upd_ne nb]; exact sb6 _ _ hw, by rw [upd_ne n2]; exact s6 _ _ (s4 _ _ h23)⟩ .nil)
    have := tn x t hx
    obtain ⟨la, lg, g1, g2, g3, g4, g5⟩ := hx
    exact ⟨la, lg, g1, g2, by rw [upd_ne this]; exact g3, by rw [upd_ne g1]; exact g4, by rw [upd_ne g2]; exact g5⟩
  · rintro σ Ha ⟨sa, _, _, ts, v5, v6, v7, hts, hP, rfl⟩
    rw [hlb, List.take_length] at hP
    have hsel : ∀ ws, ws ∈ wss.filter W ↔ ws ∈ wss ∧ WrongAt coins cs rows done ws := fun ws => by rw [List.mem_filter]; exact and_congr_right fun _ => wrongB_iff
    have htl := Paired.length hP
    generalize hse : wss.filter W = sel at *
    with_reducible refine r_seq ?_
    walk_at "s1"
    rename_i l5 H5 f5 s5 h5
    have hP5 : Paired (T3At H5 rows done lw) sel ts := Paired.mapP hP fun _ _ ⟨la, lg, g1, g2, g3, g4, g5⟩ => ⟨la, lg, g1, g2, s5 _ _ g3, s5 _ _ g4, s5 _ _ g5⟩
    have ht5 := s5 _ _ hts
    refine r_eqDD (n := 3) (d := .list (sel.map (dT3 rows done))) (e := .list []) (.lst (SqL.of ht5) (dat_T3 hP5)) (.lst (SqL.of h5) .nil) (nd_T3 rows done sel) (nd_T3 rows done []) (by decide) ?_
    refine ⟨_, rfl, ?_⟩
    by_cases hnil : sel = []
    · have es : PySem.Spec.same (.list (sel.map (dT3 rows done))) (.list []) = true := by rw [hnil]; exact PySem.Spec.same_self _
      rw [es]
      refine iteT ?_
      walk_at "s1"
      refine qn (fun j ws hj hr hw => ?_) H5 (sa.trans s5)
      have := (hsel ws).mpr ⟨hall j ws hj hr, hw⟩
      rw [hnil] at this
      cases this
    have es : PySem.Spec.same (.list (sel.map (dT3 rows done))) (.list []) = false := same_ff fun z => by
      have z : sel.map (dT3 rows done) = [] := by injection z
      exact hnil (List.map_eq_nil_iff.mp z)
    rw [es]
    refine iteF ?_
    walk_at "s1"
    with_reducible refine r_seq ?_
    walk_at "s1"
    have hat : ∀ i t, ts[i]? = some t → ∃ ws, sel[i]? = some ws ∧ T3At H5 rows done lw ws t := fun i t ht => by
      obtain ⟨x, hx, hq⟩ := paired_at' hP5 ht
      exact ⟨x, hx, hq⟩
    refine ⟨lw, ts, fun i => castL (sel.getD i []), fun i => castL (grpF rows done (sel.getD i [])), rfl, SqL.of ht5, fun z => ?_, fun i t ht => ?_, fun i t ht hb => ?_⟩
    · rw [z] at htl
      exact hnil (List.length_eq_zero_iff.mp htl)
    · obtain ⟨ws, hw, la, lg, g1, g2, g3, g4, g5⟩ := hat i t ht
      have e : sel.getD i [] = ws := by rw [List.getD, hw]; rfl
      refine ⟨la, lg, ?_, ?_, ?_⟩
      · show H5 t = some (.tup [.int ((castL (sel.getD i [])).length : Nat), .ref la, .ref lg])
        rw [e, castL_len]; exact g3
      · show H5 la = some (.lst ((castL (sel.getD i [])).map V.int))
        rw [e]; exact g4
      · show H5 lg = some (.lst ((castL (grpF rows done (sel.getD i []))).map V.int))
        rw [e]; exact g5
    · obtain ⟨ws, hw, la, lg, g1, g2, g3, g4, g5⟩ := hat i t ht
      have e : sel.getD i [] = ws := by rw [List.getD, hw]; rfl
      have hmem := (hsel ws).mp (List.mem_of_getElem? hw)
      have hF : FirstW coins cs rows done ws := by
        refine ⟨hrise ws hmem.1, hmem.2, fun j us hj hr hu => ?_⟩
        have hus := (hsel us).mpr ⟨hall j us hj hr, hu⟩
        obtain ⟨m, hm, em⟩ := List.getElem_of_mem hus
        have h6 := hb m (by omega)
        have e6 : sel.getD m [] = us := by rw [← em]; simp [List.getD, hm]
        have h6 : HT.lexLt (keyM (castL (sel.getD m [])) (castL (grpF rows done (sel.getD m [])))) (keyM (castL (sel.getD i [])) (castL (grpF rows done (sel.getD i [])))) = false := h6
        rw [e, e6] at h6
        exact key_first h6
      refine ⟨t, _, rfl, SqT.of g3, rfl, _, _, rfl, _, _, rfl, _, _, rfl, rfl, ?_⟩
      walk_at "s1"
      rename_i t2 H6 f6 s6 h6
      exact qt t2 la lg H6 ws (sa.trans (s5.trans s6)) hF h6 (s6 _ _ g4) (s6 _ _ g5)

noncomputable def dP2 (ws gs : List Int) : PyData := .tuple [dInts ws, dInts gs]
theorem dat_P2 {K : PySem.W.Frag} {H : Hp} {t la lg : Addr} {ws gs : List Int} (h : P2At H t la lg ws gs) : DatIs K H (.ref t) (dP2 ws gs) := .tup (SqT.of h.1) (.cons (dat_list (SqL.of h.2.1)) (.cons (dat_list (SqL.of h.2.2)) .nil))
theorem nd_P2 (ws gs : List Int) : niceD 2 (dP2 ws gs) := nd_tuple fun d hd => by
  have : d = dInts ws ∨ d = dInts gs := by simpa using hd
  rcases this with e | e
  · rw [e]; exact nd_ints _
  · rw [e]; exact nd_ints _
theorem P2At.same {H H' : Hp} {t la lg : Addr} {ws gs : List Int} (s : Same H H') (h : P2At H t la lg ws gs) : P2At H' t la lg ws gs := ⟨s _ _ h.1, s _ _ h.2.1, s _ _ h.2.2⟩
theorem rk__law_alike : ∀ vs H Q E, sp__law_alike K vs H Q E → rd__law_alike K { nx := fun _ H' => Q .non H', rt := Q } (start ["found", "due", "row"] vs) H := by
  rintro vs H Q E ⟨_, hh, q⟩
  unfold rd__law_alike
  rcases hh with rfl | ⟨t, la, lg, u, lb, lh, ws, gs, rfl, hT, hU, hw, hg⟩
  · with_reducible refine r_seq ?_
    walk_at "s1"
    refine iteP rfl ?_
    walk_at "s1"
    rw [decide_eq_true rfl]
    exact q H (Same.refl _)
  · with_reducible refine r_seq ?_
    walk_at "s1"
    refine iteN (by intro z; cases z) ?_
    walk_at "s1"
    have tq : SqT K H t [.ref la, .ref lg] := SqT.of hT.1
    with_reducible refine r_seq ?_
    walk_at "s1"
    refine ⟨_, _, _, true, rfl, .tup hT.1, by rfl, ?_⟩
    walk_at "s1"
    refine ⟨_, _, rfl, .inr tq, ?_⟩
    walk_at "s1"
    refine iteNS rfl ?_
    walk_at "s1"
    with_reducible refine r_seq ?_
    walk_at "s1"
    refine r_iTup ?_
    walk_at "s1"
    refine ⟨t, rfl, ⟨_, tq⟩, ?_⟩
    refine for_tup (xs := [.ref la, .ref lg]) (fun i σ H' => Same H H' ∧ ∃ v2, σ = [some (.ref t), some (.ref u), v2]) ⟨Same.refl _, _, rfl⟩ (fun i σ H' _ h => h.1.seqT tq) ?_ ?_
    · rintro i x σ Ha hx ⟨sa, v2, rfl⟩
      obtain ⟨lx, ns, rfl, hns, hl64⟩ : ∃ (lx : Addr) (ns : List Int), x = .ref lx ∧ Ha lx = some (.lst (ns.map V.int)) ∧ ns.length ≤ 64 := by
        rcases i with _ | _ | i
        · simp at hx; exact ⟨la, ws, hx.symm, sa _ _ hT.2.1, hw⟩
        · simp at hx; exact ⟨lg, gs, hx.symm, sa _ _ hT.2.2, hg⟩
        · simp at hx
      have qx : SqL K Ha lx (ns.map V.int) := SqL.of hns
      have hln : (ns.map V.int).length = ns.length := List.length_map _
      show tIfS _ _ _ _ _ _
      walk_at "s1"
      refine r_isiL hns kit_ll ?_
      walk_at "s1"
      try refine ⟨lx, rfl, ⟨_, qx⟩, ?_⟩
      refine comp_filtY (ys_list (xs := ns.map V.int) 0) (fun j => [some ((ns.map V.int).getD j .non)]) (by rintro j σ' (rfl | ⟨k, rfl⟩) <;> rfl) (fun H' s => s.seq qx) (by rw [hln]; exact Nat.le_trans (show ns.length ≤ 1000 by omega) line64) (fun _ => false) (fun j => .non) ?_ ?_ ?_
      · intro j hj H' F s kk
        rw [hln] at hj
        have e : (ns.map V.int).getD j .non = .int (ns.getD j 0) := by simp [List.getD, hj]
        rw [e]
        walk_at "s1"
        exact kk H' (Same.refl _)
      · intro j hj h0 H' F s kk
        cases h0
      intro l1 H1 f1 s1 h1
      rw [List.filter_eq_nil_iff.mpr (fun _ _ => by simp)] at h1
      walk_at "s1"
      rename_i l2 H2 f2 s2 h2
      refine r_neIs (ns := []) (ms := []) (SqL.of (s2 _ _ h1)) (SqL.of h2) ?_
      walk_at "s1"
      refine iteNS rfl ?_
      walk_at "s1"
      exact ⟨sa.trans (s1.trans s2), _, rfl⟩
    · rintro σ Ha ⟨sa, v2, rfl⟩
      walk_at "s1"
      refine r_eqS (n := 2) (dat_P2 (hT.same sa)) (dat_P2 (hU.same sa)) (nd_P2 _ _) (by decide) ?_
      exact q Ha sa

noncomputable def DueV (H : Hp) (coins : Nat) (cs : List Int) (rows : List (List Int)) (done : List Nat) (d : V) : Prop :=
  (d = .non ∧ ∀ j ws, 1 ≤ j → Rise cs.length j ws → ¬ WrongAt coins cs rows done ws) ∨ ∃ (t la lg : Addr) (ws : List Nat), d = .ref t ∧ FirstW coins cs rows done ws ∧ P2At H t la lg (castL ws) (castL (grpF rows done ws))
theorem DueV.same {H H' : Hp} {coins : Nat} {cs : List Int} {rows : List (List Int)} {done : List Nat} {d : V} (s : Same H H') (h : DueV H coins cs rows done d) : DueV H' coins cs rows done d := by
  rcases h with h | ⟨t, la, lg, ws, e, hF, hP⟩
  · exact .inl h
  · exact .inr ⟨t, la, lg, ws, e, hF, hP.same s⟩
/-- what is found and what is due are alike -/
theorem due_alike {K : PySem.W.Frag} {H : Hp} {Q : VK} {coins : Nat} {cs : List Int} {rows : List (List Int)} {done : List Nat} {f d : V} (h8 : cs.length ≤ 8) (hv : rows.length ≤ 20) (hf : DueV H coins cs rows done f) (hd : DueV H coins cs rows done d) (q : ∀ H', Same H H' → Q (.bl true) H') : sp__law_alike K [f, d] H Q E0 := by
  refine ⟨rfl, ?_, q⟩
  rcases hf with ⟨rfl, hf⟩ | ⟨t, la, lg, ws, rfl, hF, hP⟩
  · rcases hd with ⟨rfl, _⟩ | ⟨u, lb, lh, us, rfl, hG, _⟩
    · exact .inl rfl
    · obtain ⟨j, hj, hr⟩ := hG.rise
      exact absurd hG.wrong (hf j us hj hr)
  · rcases hd with ⟨rfl, hd⟩ | ⟨u, lb, lh, us, rfl, hG, hP'⟩
    · obtain ⟨j, hj, hr⟩ := hF.rise
      exact absurd hF.wrong (hd j ws hj hr)
    · have e := first_unique hF hG
      subst e
      obtain ⟨j, hj, hr⟩ := hF.rise
      have h1 := rise_le hr
      have h2 := hr.len
      have h3 : (grpF rows done ws).length ≤ rows.length := by
        unfold grpF
        have := List.length_filter_le (fun i => (ws.all fun w => WR rows i w) && decide (((rows.getD i []).filter fun k => decide (k ∈ castL done)).length < ws.length)) (List.range rows.length)
        rwa [List.length_range] at this
      exact .inr ⟨t, la, lg, u, lb, lh, _, _, rfl, hP, hP', by rw [castL_len]; omega, by rw [castL_len]; omega⟩
noncomputable def dC3 (cs : List Int) (rows : List (List Int)) (ks : List Int) : PyData := .list [dInts cs, dRows rows, dInts ks]
theorem nd_C3 (cs : List Int) (rows : List (List Int)) (ks : List Int) : niceD 3 (dC3 cs rows ks) := nd_list fun d hd => by
  have : d = dInts cs ∨ d = dRows rows ∨ d = dInts ks := by simpa using hd
  rcases this with e | e | e
  · rw [e]; exact nd_ints _
  · rw [e]; exact nd_rows _
  · rw [e]; exact nd_ints _
theorem dat_C3 {K : PySem.W.Frag} {H : Hp} {l a b c : Addr} {cs ks : List Int} {rows : List (List Int)} (h : SqL K H l [.ref a, .ref b, .ref c]) (h1 : SqL K H a (cs.map V.int)) (h2 : RowsAt K H b rows) (h3 : SqL K H c (ks.map V.int)) : DatIs K H (.ref l) (dC3 cs rows ks) :=
  .lst h (.cons (dat_list h1) (.cons h2.dat (.cons (dat_list h3) .nil)))
theorem rk_law : ∀ vs H Q E, sp_law K vs H Q E → rd_law K { nx := fun _ H' => Q .non H', rt := Q } (start ["script", "coins", "costs", "wishes", "cell", "xs", "done", "due", "handed", "found"] vs) H := by
  rintro vs H Q E ⟨_, a, ns, rfl, hS, hl63, q⟩
  unfold rd_law
  with_reducible refine r_seq ?_
  walk_at "s1"
  refine ⟨rfl, a, ns, rfl, hS, hl63, fun t lc lw H1 m cs rows s1 ht hc hR hm hc8 hcb hv1 hv20 hro => ?_⟩
  refine ⟨t, _, rfl, SqT.of ht, rfl, _, _, rfl, _, _, rfl, _, _, rfl, rfl, ?_⟩
  have hS1 := s1.seq hS
  have hRw : RowsAt K H1 lw rows := hR.rowsL.at
  have hC1 : SqL K H1 lc (cs.map V.int) := SqL.of hc
  have hlc : (cs.map V.int).length = cs.length := List.length_map _
  have hr64 : ∀ r ∈ rows, r.length ≤ 64 := fun r hr => by have := rowOk_len (hro r hr); omega
  with_reducible refine r_seq ?_
  walk_at "s1"
  with_reducible refine r_seq ?_
  walk_at "s1"
  refine ⟨rfl, _, 9, rfl, by decide, fun l2 H2 xs f2 s2 h2 hxl hxb => ?_⟩
  have q2 : SqL K H2 l2 (xs.map V.int) := SqL.of h2
  have hat : ∀ j, j < 9 → (xs.map V.int)[j]? = some (.int (xs.getD j 0)) := fun j hj => by
    have : j < xs.length := by omega
    simp [List.getD, this]
  have hC2 := s2.seq hC1
  have hR2 := s2.rows hRw
  walk_at "s1"
  with_reducible refine r_seq ?_
  walk_at "s1"
  have en : (((cs.map V.int).length : Int)).toNat = cs.length := by rw [hlc]; omega
  rw [en]
  let bk : Nat → Bool := fun j => decide (xs.getD 8 0 % 4 = 1) || (decide (xs.getD 8 0 % 4 > 1) && decide (xs.getD j 0 % 2 = 0))
  refine comp_filtY (ys_range 0) (fun j => [some (.int (0 + (j : Int))), some (.ref l2)]) (by rintro j σ' (rfl | ⟨k, rfl⟩) <;> rfl) (fun _ _ => trivial) (Nat.le_trans (show cs.length ≤ 1000 by omega) line64) bk (fun j => .int (j : Int)) ?_ ?_ ?_
  · intro j hj H' F s kk
    have ei : (0 : Int) + (j : Int) = (j : Int) := by omega
    rw [ei]
    have hb : bk j = (decide (xs.getD 8 0 % 4 = 1) || (decide (xs.getD 8 0 % 4 > 1) && decide (xs.getD j 0 % 2 = 0))) := rfl
    rw [hb] at kk
    walk_at "s1"
    refine r_ix (s.seq q2) (atI_nat (j := 8) (hat 8 (by decide))) ?_
    walk_at "s1"
    by_cases h1 : xs.getD 8 0 % 4 = 1
    · rw [decide_eq_true h1, Bool.true_or] at kk
      refine iteP h1 ?_
      exact kk H' (Same.refl _)
    rw [decide_eq_false h1, Bool.false_or] at kk
    refine iteN h1 ?_
    walk_at "s1"
    refine r_ix (s.seq q2) (atI_nat (j := 8) (hat 8 (by decide))) ?_
    walk_at "s1"
    by_cases h2 : xs.getD 8 0 % 4 > 1
    · rw [decide_eq_true h2, Bool.true_and] at kk
      refine iteP h2 ?_
      walk_at "s1"
      refine r_ix (s.seq q2) (atI_nat (hat j (by omega))) ?_
      walk_at "s1"
      exact kk H' (Same.refl _)
    · rw [decide_eq_false h2, Bool.false_and] at kk
      refine iteN h2 ?_
      exact kk H' (Same.refl _)
  · intro j hj _ H' F s kk
    have ei : (0 : Int) + (j : Int) = (j : Int) := by omega
    rw [ei]
    walk_at "s1"
    exact kk H' (Same.refl _)
  intro ld H3 f3 s3 h3
  obtain ⟨done, hdone⟩ : ∃ done : List Nat, done = (List.range cs.length).filter bk := ⟨_, rfl⟩
  have e3 : (((List.range cs.length).filter bk).map fun j : Nat => V.int (j : Int)) = (castL done).map V.int := by rw [← hdone]; unfold castL; rw [List.map_map]; rfl
  rw [e3] at h3
  have hC3 := s3.seq hC2
  have hR3 := s3.rows hR2
  have qd3 : SqL K H3 ld ((castL done).map V.int) := SqL.of h3
  clear s1 s2 s3
  walk_at "s1"
  with_reducible refine r_cut (fun σ' H' => Same H3 H' ∧ ∃ d, DueV H' m cs rows done d ∧ σ' = [some (.ref a), some (.int m), some (.ref lc), some (.ref lw), some (.int (ns.getD (Int.toNat 2) 0)), some (.ref l2), some (.ref ld), some d, none, none]) ?_ ?_
  · intro F hF
    walk_at "s1"
    refine ⟨rfl, m, lc, lw, ld, cs, rows, done, rfl, hm, hC3, hR3, qd3, hc8, hcb, hv20, hr64, fun hn H' s => ?_, fun t la lg H' ws s hW h1 h2 h3 => ?_⟩
    · walk_at "s1"
      exact hF _ _ ⟨s, _, .inl ⟨rfl, hn⟩, rfl⟩
    · walk_at "s1"
      exact hF _ _ ⟨s, _, .inr ⟨t, la, lg, ws, rfl, hW, h1, h2, h3⟩, rfl⟩
  rintro σ' H4 ⟨s4, d, hd, rfl⟩
  have hC4 := s4.seq hC3
  have hR4 := s4.rows hR3
  have qd4 := s4.seq qd3
  clear s4
  with_reducible refine r_seq ?_
  walk_at "s1"
  rename_i h1' Hb fb sb hb
  have hRb : RowsAt K Hb lw rows := sb.rows hR4
  obtain ⟨bw, hbw, hbp⟩ := id hRb
  refine ⟨lw, rfl, ⟨_, hbw⟩, ?_⟩
  refine comp_copyR hRb (by omega) fun h2' Hc fc sc hc' => ?_
  have qdc := sc.seq (sb.seq qd4)
  walk_at "s1"
  rename_i h3' Hd fd sd hd' hh He fe se he
  have s4e : Same H4 He := sb.trans (sc.trans (sd.trans se))
  have qa : SqL K He h1' (cs.map V.int) := SqL.of (se _ _ (sd _ _ (sc _ _ hb)))
  have qb : RowsAt K He h2' rows := se.rows (sd.rows hc'.rowsM.rowsL.at)
  have qc : SqL K He h3' ((castL done).map V.int) := SqL.of (se _ _ hd')
  have qh : SqL K He hh [.ref h1', .ref h2', .ref h3'] := SqL.of he
  have hCe := s4e.seq hC4
  have hRe := s4e.rows hR4
  have qde := s4e.seq qd4
  have hdue := hd.same s4e
  clear sb sc sd se qdc
  have same3 : ∀ (Hx : Hp) (lx : Addr) (R : VK), Same He Hx → SqL K Hx lx [.ref lc, .ref lw, .ref ld] → R (.bl true) Hx → rEqD K false (.ref hh) (.ref lx) Hx R := fun Hx lx R sx hx r =>
    r_eqS (n := 3) (dat_C3 (sx.seq qh) (sx.seq qa) (sx.rows qb) (sx.seq qc)) (dat_C3 hx (sx.seq hCe) (sx.rows hRe) (sx.seq qde)) (nd_C3 _ _ _) (by decide) r
  have wr : ∀ (Hx : Hp) (R : VK), Same He Hx → (∀ f Hy, Same Hx Hy → DueV Hy m cs rows done f → (∀ t, f = .ref t → ∃ la lg ws gs, P2At Hy t la lg ws gs ∧ Hx la = none ∧ Hx lg = none ∧ la ≠ lg ∧ ws.length ≤ 64 ∧ gs.length ≤ 64) → R f Hy) → sp_wronged K [.int m, .ref h1', .ref h2', .ref h3'] Hx R E0 := fun Hx R sx r => by
    refine ⟨rfl, m, h1', h2', h3', cs, rows, done, rfl, hm, sx.seq qa, sx.rows qb, sx.seq qc, hc8, hv20, hr64, fun hn H' s => r _ _ s (.inl ⟨rfl, hn⟩) (fun t z => by cases z), fun t la lg H' ws s hW f1 f2 f3 n1 h1 h2 h3 => r _ _ s (.inr ⟨t, la, lg, ws, rfl, hW, h1, h2, h3⟩) fun t' z => ?_⟩
    cases z
    obtain ⟨j, hj, hr⟩ := hW.rise
    have g1 := rise_le hr
    have g2 := hr.len
    have g3 : (grpF rows done ws).length ≤ rows.length := by
      unfold grpF
      have := List.length_filter_le (fun i => (ws.all fun w => WR rows i w) && decide (((rows.getD i []).filter fun k => decide (k ∈ castL done)).length < ws.length)) (List.range rows.length)
      rwa [List.length_range] at this
    exact ⟨la, lg, _, _, ⟨h1, h2, h3⟩, f2, f3, n1, by rw [castL_len]; omega, by rw [castL_len]; omega⟩
  walk_at "s1"
  with_reducible refine r_cut (fun σ' H' => Same He H' ∧ ∃ f, DueV H' m cs rows done f ∧ (∀ t, f = .ref t → ∃ la lg ws gs, P2At H' t la lg ws gs ∧ He la = none ∧ He lg = none ∧ la ≠ lg ∧ ws.length ≤ 64 ∧ gs.length ≤ 64) ∧ σ' = [some (.ref a), some (.int m), some (.ref lc), some (.ref lw), some (.int (ns.getD (Int.toNat 2) 0)), some (.ref l2), some (.ref ld), some d, some (.ref hh), some f]) ?_ ?_
  · intro F hF
    walk_at "s1"
    refine r_ix qh (atI_nat (j := 0) (v := .ref h1') rfl) ?_
    walk_at "s1"
    refine r_ix qh (atI_nat (j := 1) (v := .ref h2') rfl) ?_
    walk_at "s1"
    refine r_ix qh (atI_nat (j := 2) (v := .ref h3') rfl) ?_
    walk_at "s1"
    refine wr He _ (Same.refl _) fun f Hy sy hf hnew => ?_
    walk_at "s1"
    exact hF _ _ ⟨sy, f, hf, hnew, rfl⟩
  rintro σ' Hf ⟨sf, f, hf, hnew, rfl⟩
  with_reducible refine r_seq ?_
  walk_at "s1"
  refine due_alike hc8 hv20 hf (hdue.same sf) fun Hg sg => ?_
  walk_at "s1"
  rename_i lx Hh fh sh hx
  have seh := sf.trans (sg.trans sh)
  refine r_neS (n := 3) (dat_C3 (seh.seq qh) (seh.seq qa) (seh.rows qb) (seh.seq qc)) (dat_C3 (SqL.of hx) (seh.seq hCe) (seh.rows hRe) (seh.seq qde)) (nd_C3 _ _ _) (by decide) ?_
  walk_at "s1"
  with_reducible refine r_cut (fun σ' H' => Same He H' ∧ σ' = [some (.ref a), some (.int m), some (.ref lc), some (.ref lw), some (.int (ns.getD (Int.toNat 2) 0)), some (.ref l2), some (.ref ld), some d, some (.ref hh), some f]) ?_ ?_
  · intro F hF
    walk_at "s1"
    rcases hf with ⟨rfl, _⟩ | ⟨t, _, _, _, rfl, _, _⟩
    · refine iteNS rfl ?_
      walk_at "s1"
      exact hF _ _ ⟨seh, rfl⟩
    refine iteNP (by intro z; cases z) ?_
    obtain ⟨la, lg, ws, gs, hP, n1, n2, n3, g1, g2⟩ := hnew t rfl
    have sfh := sg.trans sh
    have hPh := hP.same sfh
    have tq : SqT K Hh t [.ref la, .ref lg] := SqT.of hPh.1
    with_reducible refine r_seq ?_
    walk_at "s1"
    refine ⟨_, _, _, .ref la, rfl, rfl, tq, by rfl, ?_⟩
    walk_at "s1"
    refine ⟨tyL hPh.2.1, ?_⟩
    refine ⟨la, _, rfl, rfl, hPh.2.1, ?_⟩
    have su : Same He (upd Hh la (.lst [])) := seh.upd n1
    have tu : upd Hh la (.lst []) t = some (.tup [.ref la, .ref lg]) := by
      rw [upd_ne (fun z => by have h5 := hPh.1; rw [z, hPh.2.1] at h5; cases h5)]
      exact hPh.1
    have gu : upd Hh la (.lst []) lg = some (.lst (gs.map V.int)) := by rw [upd_ne (Ne.symm n3)]; exact hPh.2.2
    generalize upd Hh la (.lst []) = Hi at *
    walk_at "s1"
    refine ⟨_, _, _, .ref lg, rfl, rfl, SqT.of tu, by rfl, ?_⟩
    walk_at "s1"
    refine ⟨tyL gu, ?_⟩
    walk_at "s1"
    refine r_appendN gu (by rw [List.length_map]; exact Nat.lt_of_lt_of_le (show gs.length < 1000 by omega) line64) ?_
    exact hF _ _ ⟨su.upd n2, rfl⟩
  rintro σ' Hk ⟨sk, rfl⟩
  walk_at "s1"
  rename_i ly Hl fl sl hy
  refine same3 Hl ly _ (sk.trans sl) (SqL.of hy) ?_
  refine ⟨true, rfl, iteT ?_⟩
  have sel := sk.trans sl
  walk_at "s1"
  refine r_ix (sel.seq qh) (atI_nat (j := 0) (v := .ref h1') rfl) ?_
  walk_at "s1"
  refine r_ix (sel.seq qh) (atI_nat (j := 1) (v := .ref h2') rfl) ?_
  walk_at "s1"
  refine r_ix (sel.seq qh) (atI_nat (j := 2) (v := .ref h3') rfl) ?_
  walk_at "s1"
  refine wr Hl _ sel fun f' Hm sm hf' _ => ?_
  walk_at "s1"
  exact due_alike hc8 hv20 hf' (hdue.same (sel.trans sm)) fun Hn _ => q Hn

end

/-! ### what the top has written -/
structure Txt (K : PySem.W.Frag) (mg : Str → Option Value) : Prop where
  f_wants_all : FunIn K mg "wants_all" s_wants_all ["wanted", "works"]
  f_common_of : FunIn K mg "common_of" s_common_of ["wishes", "works"]
  f_cost_of : FunIn K mg "cost_of" s_cost_of ["costs", "works"]
  f_longer_lists : FunIn K mg "longer_lists" s_longer_lists ["lists", "count"]
  f_work_lists : FunIn K mg "work_lists" s_work_lists ["count"]
  f_wanted_among : FunIn K mg "wanted_among" s_wanted_among ["wanted", "works"]
  f_group_of : FunIn K mg "group_of" s_group_of ["wishes", "asked", "works"]
  f_could_pay : FunIn K mg "could_pay" s_could_pay ["coins", "costs", "wishes", "asked", "group"]
  f_wronged : FunIn K mg "wronged" s_wronged ["coins", "costs", "wishes", "works"]
  f__law_cell_at : FunIn K mg "_law_cell_at" s__law_cell_at ["script", "k"]
  f__law_whole : FunIn K mg "_law_whole" s__law_whole ["found"]
  f__law_draw : FunIn K mg "_law_draw" s__law_draw ["cell", "place"]
  f__law_draws : FunIn K mg "_law_draws" s__law_draws ["cell", "many"]
  f__law_wishes : FunIn K mg "_law_wishes" s__law_wishes ["cells", "many", "usual"]
  f__law_town : FunIn K mg "_law_town" s__law_town ["script"]
  f__law_sets : FunIn K mg "_law_sets" s__law_sets ["many"]
  f__law_group : FunIn K mg "_law_group" s__law_group ["wishes", "asked", "done"]
  f__law_due : FunIn K mg "_law_due" s__law_due ["coins", "costs", "wishes", "done"]
  f__law_alike : FunIn K mg "_law_alike" s__law_alike ["found", "due"]
  f_law : FunIn K mg "law" s_law ["script"]
  z_all : mg "all" = none
  z_bool : mg "bool" = none
  z_enumerate : mg "enumerate" = none
  z_int : mg "int" = none
  z_isinstance : mg "isinstance" = none
  z_len : mg "len" = none
  z_list : mg "list" = none
  z_min : mg "min" = none
  z_range : mg "range" = none
  z_sum : mg "sum" = none
  z_tuple : mg "tuple" = none
/-! ### the terms -/
section
variable {P : Program} {w : World} {K : PySem.W.Frag} {mg : Str → Option Value} {base : Heap}
theorem pf_wants_all (T : Txt K mg) {f : Addr} {cdv : Value} {A : Around} {outer : List Env} {s : Shared} {H : Hp} {E : XK} (hr : Room 0 (A.deeper (PyProof.Rows.envOfC "wants_all" (defScope s_wants_all) s.heap.objs.size f cdv))) :
    PSs (cxOf CX0 P w K mg base ["wanted", "works"] "wants_all" (defScope s_wants_all) f cdv A outer s H E).nox (defBody s_wants_all) (rd_wants_all K) :=
  (pss_one (ps_ret (pe_callB (call_all rfl) (by rfl) T.z_all PyProof.Rows.boot_all (pa_cons (pe_comp (N := ["work", "wanted"]) (mp := [none, some 0]) rfl ⟨rfl, by decide +kernel, by rfl, rfl, by rfl⟩ (pi_list (pv 1)) (fun _ _ _ _ _ _ => (pg_name (i := 0) (by show List.Nodup (["work", "wanted"] : List Str); decide +kernel) rfl (Or.inl rfl))) (fun _ _ _ _ _ _ => pifs_nil) (fun _ _ _ _ _ _ => (pe_cmpR op_in_seq (pv 0) (pv 1) rfl))) pa_nil))))
theorem cal_wants_all (T : Txt K mg) : Cal P w K mg base 1 "wants_all" ["wanted", "works"] (sp_wants_all K) := T.f_wants_all.cal sc_wants_all (spOf_len rfl) (fun f cdv A outer s H E hr => pf_wants_all T hr) rk_wants_all
theorem pf_common_of (T : Txt K mg) {f : Addr} {cdv : Value} {A : Around} {outer : List Env} {s : Shared} {H : Hp} {E : XK} (hr : Room 1 (A.deeper (PyProof.Rows.envOfC "common_of" (defScope s_common_of) s.heap.objs.size f cdv))) :
    PSs (cxOf CX0 P w K mg base ["wishes", "works"] "common_of" (defScope s_common_of) f cdv A outer s H E).nox (defBody s_common_of) (rd_common_of K) :=
  (pss_one (ps_ret (pe_comp (N := ["voter", "wanted", "works"]) (mp := [none, none, some 1]) rfl ⟨rfl, by decide +kernel, by rfl, rfl, by rfl⟩ (pi_enum (by rfl) T.z_enumerate (pv 0)) (fun _ _ _ _ _ _ => (pg_tup rfl (pgs_cons (pg_name (i := 0) (by show List.Nodup (["voter", "wanted", "works"] : List Str); decide +kernel) rfl (Or.inl rfl)) (pgs_cons (pg_name (i := 1) (by show List.Nodup (["voter", "wanted", "works"] : List Str); decide +kernel) rfl (Or.inl rfl)) pgs_nil)))) (fun _ _ _ _ _ _ => (pifs_one (pt_val (pe_cal (cal_wants_all T) (hr.mono (by decide)) (pa_cons (pv 1) (pa_cons (pv 2) pa_nil)))))) (fun _ _ _ _ _ _ => (pv 0)))))
theorem cal_common_of (T : Txt K mg) : Cal P w K mg base 2 "common_of" ["wishes", "works"] (sp_common_of K) := T.f_common_of.cal sc_common_of (spOf_len rfl) (fun f cdv A outer s H E hr => pf_common_of T hr) rk_common_of
theorem pf_cost_of (T : Txt K mg) {f : Addr} {cdv : Value} {A : Around} {outer : List Env} {s : Shared} {H : Hp} {E : XK} (hr : Room 0 (A.deeper (PyProof.Rows.envOfC "cost_of" (defScope s_cost_of) s.heap.objs.size f cdv))) :
    PSs (cxOf CX0 P w K mg base ["costs", "works"] "cost_of" (defScope s_cost_of) f cdv A outer s H E).nox (defBody s_cost_of) (rd_cost_of K) :=
  (pss_one (ps_ret (pe_callB (call_sum rfl) (by rfl) T.z_sum PyProof.Rows.boot_sum (pa_cons (pe_comp (N := ["work", "costs"]) (mp := [none, some 0]) rfl ⟨rfl, by decide +kernel, by rfl, rfl, by rfl⟩ (pi_list (pv 1)) (fun _ _ _ _ _ _ => (pg_name (i := 0) (by show List.Nodup (["work", "costs"] : List Str); decide +kernel) rfl (Or.inl rfl))) (fun _ _ _ _ _ _ => pifs_nil) (fun _ _ _ _ _ _ => (pe_ix ix_list (pv 1) (pv 0) (fun _ _ => rfl)))) pa_nil))))
theorem cal_cost_of (T : Txt K mg) : Cal P w K mg base 1 "cost_of" ["costs", "works"] (sp_cost_of K) := T.f_cost_of.cal sc_cost_of (spOf_len rfl) (fun f cdv A outer s H E hr => pf_cost_of T hr) rk_cost_of
theorem pf_longer_lists (T : Txt K mg) {f : Addr} {cdv : Value} {A : Around} {outer : List Env} {s : Shared} {H : Hp} {E : XK} (hr : Room 0 (A.deeper (PyProof.Rows.envOfC "longer_lists" (defScope s_longer_lists) s.heap.objs.size f cdv))) :
    PSs (cxOf CX0 P w K mg base ["lists", "count", "longer", "works", "least", "work"] "longer_lists" (defScope s_longer_lists) f cdv A outer s H E).nox (defBody s_longer_lists) (rd_longer_lists K) :=
  (pss_cons (ps_set (i := 2) sc_longer_lists.nd rfl (Or.inl rfl) (pe_lst pa_nil))
      (pss_cons (ps_for PassesOwn.never rfl (pi_list (pv 0)) (pg_name (i := 3) sc_longer_lists.nd rfl (Or.inl rfl)) (pss_cons (ps_set (i := 4) sc_longer_lists.nd rfl (Or.inl rfl) (pe_ifExp (pt_lst (pv 3)) (pe_op op_addI (pe_ix ix_list (pv 3) (pe_un un_neg pe_int) (fun _ _ => rfl)) pe_int) pe_int))
      (pss_one (ps_for PassesOwn.never rfl (pi_range2 (by rfl) T.z_range (pa_cons (pv 4) (pa_cons (pv 1) pa_nil))) (pg_name (i := 5) sc_longer_lists.nd rfl (Or.inl rfl)) (pss_one (ps_expr (pe_bm PySem.F.plainAttrs_list PySem.F.slot_list_append PySem.F.type_list_append mt_append (pv 2) (pa_cons (pe_op op_cat (pv 3) (pe_lst (pa_cons (pv 5) pa_nil))) pa_nil))))))))
      (pss_one (ps_ret (pv 2)))))
theorem cal_longer_lists (T : Txt K mg) : Cal P w K mg base 1 "longer_lists" ["lists", "count"] (sp_longer_lists K) := T.f_longer_lists.cal sc_longer_lists (spOf_len rfl) (fun f cdv A outer s H E hr => pf_longer_lists T hr) rk_longer_lists
theorem pf_work_lists (T : Txt K mg) {f : Addr} {cdv : Value} {A : Around} {outer : List Env} {s : Shared} {H : Hp} {E : XK} (hr : Room 1 (A.deeper (PyProof.Rows.envOfC "work_lists" (defScope s_work_lists) s.heap.objs.size f cdv))) :
    PSs (cxOf CX0 P w K mg base ["count", "told", "lists"] "work_lists" (defScope s_work_lists) f cdv A outer s H E).nox (defBody s_work_lists) (rd_work_lists K) :=
  (pss_cons (ps_set (i := 1) sc_work_lists.nd rfl (Or.inl rfl) (pe_lst pa_nil))
      (pss_cons (ps_set (i := 2) sc_work_lists.nd rfl (Or.inl rfl) (pe_cal (cal_longer_lists T) (hr.mono (by decide)) (pa_cons (pe_lst (pa_cons (pe_lst pa_nil) pa_nil)) (pa_cons (pv 0) pa_nil))))
      (pss_cons (ps_while PassesOwn.never (pt_lst (pv 2)) (pss_cons (ps_expr (pe_bm PySem.F.plainAttrs_list PySem.F.slot_list_extend PySem.F.type_list_extend mt_extend (pv 1) (pa_cons (pv 2) pa_nil)))
      (pss_one (ps_set (i := 2) sc_work_lists.nd rfl (Or.inl rfl) (pe_cal (cal_longer_lists T) (hr.mono (by decide)) (pa_cons (pv 2) (pa_cons (pv 0) pa_nil)))))))
      (pss_one (ps_ret (pv 1))))))
theorem cal_work_lists (T : Txt K mg) : Cal P w K mg base 2 "work_lists" ["count"] (sp_work_lists K) := T.f_work_lists.cal sc_work_lists (spOf_len rfl) (fun f cdv A outer s H E hr => pf_work_lists T hr) rk_work_lists
theorem pf_wanted_among (T : Txt K mg) {f : Addr} {cdv : Value} {A : Around} {outer : List Env} {s : Shared} {H : Hp} {E : XK} (hr : Room 0 (A.deeper (PyProof.Rows.envOfC "wanted_among" (defScope s_wanted_among) s.heap.objs.size f cdv))) :
    PSs (cxOf CX0 P w K mg base ["wanted", "works"] "wanted_among" (defScope s_wanted_among) f cdv A outer s H E).nox (defBody s_wanted_among) (rd_wanted_among K) :=
  (pss_one (ps_ret (pe_callB call_len_seq (by rfl) T.z_len PySem.boot_len (pa_cons (pe_comp (N := ["work", "works"]) (mp := [none, some 1]) rfl ⟨rfl, by decide +kernel, by rfl, rfl, by rfl⟩ (pi_list (pv 0)) (fun _ _ _ _ _ _ => (pg_name (i := 0) (by show List.Nodup (["work", "works"] : List Str); decide +kernel) rfl (Or.inl rfl))) (fun _ _ _ _ _ _ => (pifs_one (pt_cmpR op_in_seq (pv 0) (pv 1) rfl))) (fun _ _ _ _ _ _ => (pv 0))) pa_nil))))
theorem cal_wanted_among (T : Txt K mg) : Cal P w K mg base 1 "wanted_among" ["wanted", "works"] (sp_wanted_among K) := T.f_wanted_among.cal sc_wanted_among (spOf_len rfl) (fun f cdv A outer s H E hr => pf_wanted_among T hr) rk_wanted_among
theorem pf_group_of (T : Txt K mg) {f : Addr} {cdv : Value} {A : Around} {outer : List Env} {s : Shared} {H : Hp} {E : XK} (hr : Room 2 (A.deeper (PyProof.Rows.envOfC "group_of" (defScope s_group_of) s.heap.objs.size f cdv))) :
    PSs (cxOf CX0 P w K mg base ["wishes", "asked", "works"] "group_of" (defScope s_group_of) f cdv A outer s H E).nox (defBody s_group_of) (rd_group_of K) :=
  (pss_one (ps_ret (pe_comp (N := ["voter", "wishes", "works", "asked"]) (mp := [none, some 0, some 2, some 1]) rfl ⟨rfl, by decide +kernel, by rfl, rfl, by rfl⟩ (pi_list (pe_cal (cal_common_of T) (hr.mono (by decide)) (pa_cons (pv 0) (pa_cons (pv 1) pa_nil)))) (fun _ _ _ _ _ _ => (pg_name (i := 0) (by show List.Nodup (["voter", "wishes", "works", "asked"] : List Str); decide +kernel) rfl (Or.inl rfl))) (fun _ _ _ _ _ _ => (pifs_one (pt_cmpR op_ltI (pe_cal (cal_wanted_among T) (hr.mono (by decide)) (pa_cons (pe_ix ix_list (pv 1) (pv 0) (fun _ _ => rfl)) (pa_cons (pv 2) pa_nil))) (pe_callB call_len_seq (by rfl) T.z_len PySem.boot_len (pa_cons (pv 3) pa_nil)) (nomark _)))) (fun _ _ _ _ _ _ => (pv 0)))))
theorem cal_group_of (T : Txt K mg) : Cal P w K mg base 3 "group_of" ["wishes", "asked", "works"] (sp_group_of K) := T.f_group_of.cal sc_group_of (spOf_len rfl) (fun f cdv A outer s H E hr => pf_group_of T hr) rk_group_of
theorem pf_could_pay (T : Txt K mg) {f : Addr} {cdv : Value} {A : Around} {outer : List Env} {s : Shared} {H : Hp} {E : XK} (hr : Room 1 (A.deeper (PyProof.Rows.envOfC "could_pay" (defScope s_could_pay) s.heap.objs.size f cdv))) :
    PSs (cxOf CX0 P w K mg base ["coins", "costs", "wishes", "asked", "group"] "could_pay" (defScope s_could_pay) f cdv A outer s H E).nox (defBody s_could_pay) (rd_could_pay K) :=
  (pss_one (ps_ret (pe_cmpR op_geI (pe_op op_mulI (pv 0) (pe_callB call_len_seq (by rfl) T.z_len PySem.boot_len (pa_cons (pv 4) pa_nil))) (pe_op op_mulI (pe_cal (cal_cost_of T) (hr.mono (by decide)) (pa_cons (pv 1) (pa_cons (pv 3) pa_nil))) (pe_callB call_len_seq (by rfl) T.z_len PySem.boot_len (pa_cons (pv 2) pa_nil))) (nomark _))))
theorem cal_could_pay (T : Txt K mg) : Cal P w K mg base 2 "could_pay" ["coins", "costs", "wishes", "asked", "group"] (sp_could_pay K) := T.f_could_pay.cal sc_could_pay (spOf_len rfl) (fun f cdv A outer s H E hr => pf_could_pay T hr) rk_could_pay
theorem pf_wronged (T : Txt K mg) {f : Addr} {cdv : Value} {A : Around} {outer : List Env} {s : Shared} {H : Hp} {E : XK} (hr : Room 3 (A.deeper (PyProof.Rows.envOfC "wronged" (defScope s_wronged) s.heap.objs.size f cdv))) :
    PSs (cxOf CX0 P w K mg base ["coins", "costs", "wishes", "works", "asked", "group"] "wronged" (defScope s_wronged) f cdv A outer s H E).nox (defBody s_wronged) (rd_wronged K) :=
  (pss_cons (ps_for PassesOwn.never rfl (pi_list (pe_cal (cal_work_lists T) (hr.mono (by decide)) (pa_cons (pe_callB call_len_seq (by rfl) T.z_len PySem.boot_len (pa_cons (pv 1) pa_nil)) pa_nil))) (pg_name (i := 4) sc_wronged.nd rfl (Or.inl rfl)) (pss_cons (ps_set (i := 5) sc_wronged.nd rfl (Or.inl rfl) (pe_cal (cal_group_of T) (hr.mono (by decide)) (pa_cons (pv 2) (pa_cons (pv 4) (pa_cons (pv 3) pa_nil)))))
      (pss_one (ps_if (PW.pt (pw_and (pt_lst (pv 5)) (pw_and1 (pt_val (pe_cal (cal_could_pay T) (hr.mono (by decide)) (pa_cons (pv 0) (pa_cons (pv 1) (pa_cons (pv 2) (pa_cons (pv 4) (pa_cons (pv 5) pa_nil)))))))))) (pss_one (ps_ret (pe_tup (pa_cons (pv 4) (pa_cons (pv 5) pa_nil))))) pss_nil))))
      (pss_one (ps_ret pe_non)))
theorem cal_wronged (T : Txt K mg) : Cal P w K mg base 4 "wronged" ["coins", "costs", "wishes", "works"] (sp_wronged K) := T.f_wronged.cal sc_wronged (spOf_len rfl) (fun f cdv A outer s H E hr => pf_wronged T hr) rk_wronged
theorem pf__law_cell_at (T : Txt K mg) {f : Addr} {cdv : Value} {A : Around} {outer : List Env} {s : Shared} {H : Hp} {E : XK} (hr : Room 0 (A.deeper (PyProof.Rows.envOfC "_law_cell_at" (defScope s__law_cell_at) s.heap.objs.size f cdv))) :
    PSs (cxOf CX0 P w K mg base ["script", "k"] "_law_cell_at" (defScope s__law_cell_at) f cdv A outer s H E).nox (defBody s__law_cell_at) (rd__law_cell_at K) :=
  (pss_cons (ps_if (pt_cmpR op_ltI (pv 1) (pe_callB call_len_seq (by rfl) T.z_len PySem.boot_len (pa_cons (pv 0) pa_nil)) (nomark _)) (pss_one (ps_ret (pe_ix ix_list (pv 0) (pv 1) (fun _ _ => rfl)))) pss_nil)
      (pss_one (ps_ret pe_int)))
theorem cal__law_cell_at (T : Txt K mg) : Cal P w K mg base 1 "_law_cell_at" ["script", "k"] (sp__law_cell_at K) := T.f__law_cell_at.cal sc__law_cell_at (spOf_len rfl) (fun f cdv A outer s H E hr => pf__law_cell_at T hr) rk__law_cell_at
theorem pf__law_whole (T : Txt K mg) {f : Addr} {cdv : Value} {A : Around} {outer : List Env} {s : Shared} {H : Hp} {E : XK} (hr : Room 0 (A.deeper (PyProof.Rows.envOfC "_law_whole" (defScope s__law_whole) s.heap.objs.size f cdv))) :
    PSs (cxOf CX0 P w K mg base ["found"] "_law_whole" (defScope s__law_whole) f cdv A outer s H E).nox (defBody s__law_whole) (rd__law_whole K) :=
  (pss_one (ps_ret (pe_and (pe_callB call_isinst (by rfl) T.z_isinstance PyProof.Rows.boot_isinstance (pa_cons (pv 0) (pa_cons (pe_bltn (by rfl) T.z_int PyProof.Rows.boot_int rfl) pa_nil))) (pe_one (pe_not (pe_callB call_isinst (by rfl) T.z_isinstance PyProof.Rows.boot_isinstance (pa_cons (pv 0) (pa_cons (pe_bltn (by rfl) T.z_bool PyProof.Rows.boot_bool rfl) pa_nil))))))))
theorem cal__law_whole (T : Txt K mg) : Cal P w K mg base 1 "_law_whole" ["found"] (sp__law_whole K) := T.f__law_whole.cal sc__law_whole (spOf_len rfl) (fun f cdv A outer s H E hr => pf__law_whole T hr) rk__law_whole
theorem pf__law_draw (T : Txt K mg) {f : Addr} {cdv : Value} {A : Around} {outer : List Env} {s : Shared} {H : Hp} {E : XK} (hr : Room 0 (A.deeper (PyProof.Rows.envOfC "_law_draw" (defScope s__law_draw) s.heap.objs.size f cdv))) :
    PSs (cxOf CX0 P w K mg base ["cell", "place", "spot"] "_law_draw" (defScope s__law_draw) f cdv A outer s H E).nox (defBody s__law_draw) (rd__law_draw K) :=
  (pss_cons (ps_set (i := 2) sc__law_draw.nd rfl (Or.inl rfl) (pe_op op_addI (pe_op op_addI (pe_op op_modI (pv 0) pe_int) pe_int) (pe_op op_mulI pe_int (pv 1))))
      (pss_one (ps_ret (pe_op op_modI (pe_op op_mulI (pe_op op_mulI (pe_op op_mulI (pv 2) (pv 2)) (pv 2)) (pe_op op_addI (pe_op op_mulI pe_int (pv 1)) pe_int)) pe_int))))
theorem cal__law_draw (T : Txt K mg) : Cal P w K mg base 1 "_law_draw" ["cell", "place"] (sp__law_draw K) := T.f__law_draw.cal sc__law_draw (spOf_len rfl) (fun f cdv A outer s H E hr => pf__law_draw T hr) rk__law_draw
theorem pf__law_draws (T : Txt K mg) {f : Addr} {cdv : Value} {A : Around} {outer : List Env} {s : Shared} {H : Hp} {E : XK} (hr : Room 1 (A.deeper (PyProof.Rows.envOfC "_law_draws" (defScope s__law_draws) s.heap.objs.size f cdv))) :
    PSs (cxOf CX0 P w K mg base ["cell", "many"] "_law_draws" (defScope s__law_draws) f cdv A outer s H E).nox (defBody s__law_draws) (rd__law_draws K) :=
  (pss_one (ps_ret (pe_comp (N := ["place", "cell"]) (mp := [none, some 0]) rfl ⟨rfl, by decide +kernel, by rfl, rfl, by rfl⟩ (pi_range1 (by rfl) T.z_range (pa_cons (pv 1) pa_nil)) (fun _ _ _ _ _ _ => (pg_name (i := 0) (by show List.Nodup (["place", "cell"] : List Str); decide +kernel) rfl (Or.inl rfl))) (fun _ _ _ _ _ _ => pifs_nil) (fun _ _ _ _ _ _ => (pe_cal (cal__law_draw T) (hr.mono (by decide)) (pa_cons (pv 1) (pa_cons (pv 0) pa_nil)))))))
theorem cal__law_draws (T : Txt K mg) : Cal P w K mg base 2 "_law_draws" ["cell", "many"] (sp__law_draws K) := T.f__law_draws.cal sc__law_draws (spOf_len rfl) (fun f cdv A outer s H E hr => pf__law_draws T hr) rk__law_draws
theorem pf__law_wishes (T : Txt K mg) {f : Addr} {cdv : Value} {A : Around} {outer : List Env} {s : Shared} {H : Hp} {E : XK} (hr : Room 2 (A.deeper (PyProof.Rows.envOfC "_law_wishes" (defScope s__law_wishes) s.heap.objs.size f cdv))) :
    PSs (cxOf CX0 P w K mg base ["cells", "many", "usual", "found", "cell", "ys", "wanted"] "_law_wishes" (defScope s__law_wishes) f cdv A outer s H E).nox (defBody s__law_wishes) (rd__law_wishes K) :=
  (pss_cons (ps_set (i := 3) sc__law_wishes.nd rfl (Or.inl rfl) (pe_lst pa_nil))
      (pss_cons (ps_for PassesOwn.never rfl (pi_list (pv 0)) (pg_name (i := 4) sc__law_wishes.nd rfl (Or.inl rfl)) (pss_cons (ps_set (i := 5) sc__law_wishes.nd rfl (Or.inr rfl) (pe_cal (cal__law_draws T) (hr.mono (by decide)) (pa_cons (pv 4) (pa_cons pe_int pa_nil))))
      (pss_cons (ps_setC (i := 6) (N := ["k", "ys"]) (mp := [none, some 5]) sc__law_wishes.nd rfl (Or.inl rfl) rfl ⟨rfl, by decide +kernel, by rfl, rfl, by rfl⟩ (pi_range1 (by rfl) T.z_range (pa_cons (pv 1) pa_nil)) (fun _ _ _ _ _ _ => (pg_name (i := 0) (by show List.Nodup (["k", "ys"] : List Str); decide +kernel) rfl (Or.inl rfl))) (fun _ _ _ _ _ _ => (pifs_one (pt_cmpR op_gtI (pe_op op_modI (pe_ix ix_list (pv 1) (pv 0) (fun _ _ => rfl)) pe_int) pe_int (nomark _)))) (fun _ _ _ _ _ _ => (pv 0)) (by with_unfolding_all rfl))
      (pss_one (ps_expr (pe_bm PySem.F.plainAttrs_list PySem.F.slot_list_append PySem.F.type_list_append mt_append (pv 3) (pa_cons (pe_ix ix_list (pe_lst (pa_cons (pe_listRange rfl (by rfl) T.z_list (by rfl) T.z_range (pa_cons (pv 1) pa_nil)) (pa_cons (pe_callTy call_list_of (by rfl) T.z_list PyProof.Rows.boot_list (pa_cons (pv 2) pa_nil)) (pa_cons (pv 6) (pa_cons (pe_slice sl_list (pv 6) po_none (po_some pe_int)) pa_nil))))) (pe_op op_modI (pe_ix ix_list (pv 5) pe_int (fun _ _ => rfl)) pe_int) (fun _ _ => rfl)) pa_nil)))))))
      (pss_one (ps_ret (pv 3)))))
theorem cal__law_wishes (T : Txt K mg) : Cal P w K mg base 3 "_law_wishes" ["cells", "many", "usual"] (sp__law_wishes K) := T.f__law_wishes.cal sc__law_wishes (spOf_len rfl) (fun f cdv A outer s H E hr => pf__law_wishes T hr) rk__law_wishes
theorem pf__law_town (T : Txt K mg) {f : Addr} {cdv : Value} {A : Around} {outer : List Env} {s : Shared} {H : Hp} {E : XK} (hr : Room 3 (A.deeper (PyProof.Rows.envOfC "_law_town" (defScope s__law_town) s.heap.objs.size f cdv))) :
    PSs (cxOf CX0 P w K mg base ["script", "xs", "many", "costs", "usual", "wishes", "zs", "coins"] "_law_town" (defScope s__law_town) f cdv A outer s H E).nox (defBody s__law_town) (rd__law_town K) :=
  (pss_cons (ps_set (i := 1) sc__law_town.nd rfl (Or.inr rfl) (pe_cal (cal__law_draws T) (hr.mono (by decide)) (pa_cons (pe_cal (cal__law_cell_at T) (hr.mono (by decide)) (pa_cons (pv 0) (pa_cons pe_int pa_nil))) (pa_cons pe_int pa_nil))))
      (pss_cons (ps_set (i := 2) sc__law_town.nd rfl (Or.inl rfl) (pe_ix ix_list (pe_lst (pa_cons (pe_op op_modI (pe_ix ix_list (pv 1) pe_int (fun _ _ => rfl)) pe_int) (pa_cons (pe_op op_addI pe_int (pe_op op_modI (pe_op op_divI (pe_ix ix_list (pv 1) pe_int (fun _ _ => rfl)) pe_int) pe_int)) pa_nil))) (pe_callTy call_intI (by rfl) T.z_int PyProof.Rows.boot_int (pa_cons (pe_cmpR op_eq (pe_op op_modI (pe_ix ix_list (pv 1) pe_int (fun _ _ => rfl)) pe_int) pe_int (nomark _)) pa_nil)) (fun _ _ => rfl)))
      (pss_cons (ps_setC (i := 3) (N := ["k", "xs"]) (mp := [none, some 1]) sc__law_town.nd rfl (Or.inl rfl) rfl ⟨rfl, by decide +kernel, by rfl, rfl, by rfl⟩ (pi_range1 (by rfl) T.z_range (pa_cons (pv 2) pa_nil)) (fun _ _ _ _ _ _ => (pg_name (i := 0) (by show List.Nodup (["k", "xs"] : List Str); decide +kernel) rfl (Or.inl rfl))) (fun _ _ _ _ _ _ => pifs_nil) (fun _ _ _ _ _ _ => (pe_ix ix_list (pe_lst (pa_cons (pe_op op_addI pe_int (pe_op op_modI (pe_ix ix_list (pv 1) (pe_op op_addI pe_int (pv 0)) (fun _ _ => rfl)) pe_int)) (pa_cons (pe_op op_addI pe_int (pe_op op_modI (pe_op op_mulI (pe_ix ix_list (pv 1) (pe_op op_addI pe_int (pv 0)) (fun _ _ => rfl)) pe_int) (pe_op op_powI pe_int pe_int))) pa_nil))) (pe_op op_modI (pe_op op_divI (pe_ix ix_list (pv 1) pe_int (fun _ _ => rfl)) (pe_op op_addI (pv 0) pe_int)) pe_int) (fun _ _ => rfl))) (by with_unfolding_all rfl))
      (pss_cons (ps_setC (i := 4) (N := ["k", "xs"]) (mp := [none, some 1]) sc__law_town.nd rfl (Or.inl rfl) rfl ⟨rfl, by decide +kernel, by rfl, rfl, by rfl⟩ (pi_range1 (by rfl) T.z_range (pa_cons (pv 2) pa_nil)) (fun _ _ _ _ _ _ => (pg_name (i := 0) (by show List.Nodup (["k", "xs"] : List Str); decide +kernel) rfl (Or.inl rfl))) (fun _ _ _ _ _ _ => (pifs_one (pt_cmpR op_gtI (pe_op op_modI (pe_op op_divI (pe_ix ix_list (pv 1) pe_int (fun _ _ => rfl)) (pe_op op_addI (pv 0) pe_int)) pe_int) pe_int (nomark _)))) (fun _ _ _ _ _ _ => (pv 0)) (by with_unfolding_all rfl))
      (pss_cons (ps_set (i := 5) sc__law_town.nd rfl (Or.inl rfl) (pe_cal (cal__law_wishes T) (hr.mono (by decide)) (pa_cons (pe_op op_cat (pe_slice sl_list (pv 0) (po_some pe_int) (po_some pe_int)) (pe_lst (pa_cons (pe_cal (cal__law_cell_at T) (hr.mono (by decide)) (pa_cons (pv 0) (pa_cons pe_int pa_nil))) pa_nil))) (pa_cons (pv 2) (pa_cons (pv 4) pa_nil)))))
      (pss_cons (ps_set (i := 6) sc__law_town.nd rfl (Or.inl rfl) (pe_cal (cal__law_draws T) (hr.mono (by decide)) (pa_cons (pe_cal (cal__law_cell_at T) (hr.mono (by decide)) (pa_cons (pv 0) (pa_cons pe_int pa_nil))) (pa_cons pe_int pa_nil))))
      (pss_cons (ps_set (i := 7) sc__law_town.nd rfl (Or.inl rfl) (pe_ix ix_list (pe_lst (pa_cons pe_int (pa_cons (pe_op op_addI pe_int (pe_op op_modI (pe_ix ix_list (pv 6) pe_int (fun _ _ => rfl)) pe_int)) (pa_cons (pe_op op_divI (pe_callB (call_sum rfl) (by rfl) T.z_sum PyProof.Rows.boot_sum (pa_cons (pv 3) pa_nil)) pe_int) (pa_cons (pe_callB (call_sum rfl) (by rfl) T.z_sum PyProof.Rows.boot_sum (pa_cons (pv 3) pa_nil)) (pa_cons (pe_op op_modI (pe_op op_mulI (pe_ix ix_list (pv 6) pe_int (fun _ _ => rfl)) (pe_ix ix_list (pv 6) pe_int (fun _ _ => rfl))) (pe_op op_addI (pe_callB (call_sum rfl) (by rfl) T.z_sum PyProof.Rows.boot_sum (pa_cons (pv 3) pa_nil)) pe_int)) pa_nil)))))) (pe_op op_modI (pe_ix ix_list (pv 6) pe_int (fun _ _ => rfl)) pe_int) (fun _ _ => rfl)))
      (pss_one (ps_ret (pe_tup (pa_cons (pe_callB (call_min2 rfl) (by rfl) T.z_min PyProof.Rows.boot_min (pa_cons (pv 7) (pa_cons (pe_op op_powI pe_int pe_int) pa_nil))) (pa_cons (pv 3) (pa_cons (pv 5) pa_nil)))))))))))))
theorem cal__law_town (T : Txt K mg) : Cal P w K mg base 4 "_law_town" ["script"] (sp__law_town K) := T.f__law_town.cal sc__law_town (spOf_len rfl) (fun f cdv A outer s H E hr => pf__law_town T hr) rk__law_town
theorem pf__law_sets (T : Txt K mg) {f : Addr} {cdv : Value} {A : Around} {outer : List Env} {s : Shared} {H : Hp} {E : XK} (hr : Room 0 (A.deeper (PyProof.Rows.envOfC "_law_sets" (defScope s__law_sets) s.heap.objs.size f cdv))) :
    PSs (cxOf CX0 P w K mg base ["many", "found", "k"] "_law_sets" (defScope s__law_sets) f cdv A outer s H E).nox (defBody s__law_sets) (rd__law_sets K) :=
  (pss_cons (ps_set (i := 1) sc__law_sets.nd rfl (Or.inl rfl) (pe_lst (pa_cons (pe_lst pa_nil) pa_nil)))
      (pss_cons (ps_for PassesOwn.never rfl (pi_range1 (by rfl) T.z_range (pa_cons (pv 0) pa_nil)) (pg_name (i := 2) sc__law_sets.nd rfl (Or.inr rfl)) (pss_one (ps_set (i := 1) sc__law_sets.nd rfl (Or.inl rfl) (pe_op op_cat (pv 1) (pe_comp (N := ["one", "k"]) (mp := [none, some 2]) rfl ⟨rfl, by decide +kernel, by rfl, rfl, by rfl⟩ (pi_list (pv 1)) (fun _ _ _ _ _ _ => (pg_name (i := 0) (by show List.Nodup (["one", "k"] : List Str); decide +kernel) rfl (Or.inl rfl))) (fun _ _ _ _ _ _ => pifs_nil) (fun _ _ _ _ _ _ => (pe_op op_cat (pv 0) (pe_lst (pa_cons (pv 1) pa_nil)))))))))
      (pss_one (ps_ret (pe_slice sl_list (pv 1) (po_some pe_int) po_none)))))
theorem cal__law_sets (T : Txt K mg) : Cal P w K mg base 1 "_law_sets" ["many"] (sp__law_sets K) := T.f__law_sets.cal sc__law_sets (spOf_len rfl) (fun f cdv A outer s H E hr => pf__law_sets T hr) rk__law_sets
theorem pf__law_group (T : Txt K mg) {f : Addr} {cdv : Value} {A : Around} {outer : List Env} {s : Shared} {H : Hp} {E : XK} (hr : Room 0 (A.deeper (PyProof.Rows.envOfC "_law_group" (defScope s__law_group) s.heap.objs.size f cdv))) :
    PSs (cxOf CX0 P w K mg base ["wishes", "asked", "done", "found", "voter", "wanted"] "_law_group" (defScope s__law_group) f cdv A outer s H E).nox (defBody s__law_group) (rd__law_group K) :=
  (pss_cons (ps_set (i := 3) sc__law_group.nd rfl (Or.inl rfl) (pe_lst pa_nil))
      (pss_cons (ps_for PassesOwn.never rfl (pi_enum (by rfl) T.z_enumerate (pv 0)) (pg_tup rfl (pgs_cons (pg_name (i := 4) sc__law_group.nd rfl (Or.inl rfl)) (pgs_cons (pg_name (i := 5) sc__law_group.nd rfl (Or.inr rfl)) pgs_nil))) (pss_one (ps_if (pt_cmpR (op_eq_ints hr.units) (pe_comp (N := ["k", "wanted"]) (mp := [none, some 5]) rfl ⟨rfl, by decide +kernel, by rfl, rfl, by rfl⟩ (pi_list (pv 1)) (fun _ _ _ _ _ _ => (pg_name (i := 0) (by show List.Nodup (["k", "wanted"] : List Str); decide +kernel) rfl (Or.inl rfl))) (fun _ _ _ _ _ _ => (pifs_one (pt_cmpR op_notIn_seq (pv 0) (pv 1) rfl))) (fun _ _ _ _ _ _ => (pv 0))) (pe_lst pa_nil) (nomark _)) (pss_one (ps_if (pt_cmpR op_ltI (pe_callB call_len_seq (by rfl) T.z_len PySem.boot_len (pa_cons (pe_comp (N := ["k", "done"]) (mp := [none, some 2]) rfl ⟨rfl, by decide +kernel, by rfl, rfl, by rfl⟩ (pi_list (pv 5)) (fun _ _ _ _ _ _ => (pg_name (i := 0) (by show List.Nodup (["k", "done"] : List Str); decide +kernel) rfl (Or.inl rfl))) (fun _ _ _ _ _ _ => (pifs_one (pt_cmpR op_in_seq (pv 0) (pv 1) rfl))) (fun _ _ _ _ _ _ => (pv 0))) pa_nil)) (pe_callB call_len_seq (by rfl) T.z_len PySem.boot_len (pa_cons (pv 1) pa_nil)) (nomark _)) (pss_one (ps_expr (pe_bm PySem.F.plainAttrs_list PySem.F.slot_list_append PySem.F.type_list_append mt_append (pv 3) (pa_cons (pv 4) pa_nil)))) pss_nil)) pss_nil)))
      (pss_one (ps_ret (pv 3)))))
theorem cal__law_group (T : Txt K mg) : Cal P w K mg base 1 "_law_group" ["wishes", "asked", "done"] (sp__law_group K) := T.f__law_group.cal sc__law_group (spOf_len rfl) (fun f cdv A outer s H E hr => pf__law_group T hr) rk__law_group
theorem pf__law_due (T : Txt K mg) {f : Addr} {cdv : Value} {A : Around} {outer : List Env} {s : Shared} {H : Hp} {E : XK} (hr : Room 1 (A.deeper (PyProof.Rows.envOfC "_law_due" (defScope s__law_due) s.heap.objs.size f cdv))) :
    PSs (cxOf CX0 P w K mg base ["coins", "costs", "wishes", "done", "wrong", "asked", "group", "price", "size"] "_law_due" (defScope s__law_due) f cdv A outer s H E).nox (defBody s__law_due) (rd__law_due K) :=
  (pss_cons (ps_set (i := 4) sc__law_due.nd rfl (Or.inl rfl) (pe_lst pa_nil))
      (pss_cons (ps_for PassesOwn.never rfl (pi_list (pe_cal (cal__law_sets T) (hr.mono (by decide)) (pa_cons (pe_callB call_len_seq (by rfl) T.z_len PySem.boot_len (pa_cons (pv 1) pa_nil)) pa_nil))) (pg_name (i := 5) sc__law_due.nd rfl (Or.inl rfl)) (pss_cons (ps_set (i := 6) sc__law_due.nd rfl (Or.inl rfl) (pe_cal (cal__law_group T) (hr.mono (by decide)) (pa_cons (pv 2) (pa_cons (pv 5) (pa_cons (pv 3) pa_nil)))))
      (pss_cons (ps_set (i := 7) sc__law_due.nd rfl (Or.inl rfl) (pe_callB (call_sum rfl) (by rfl) T.z_sum PyProof.Rows.boot_sum (pa_cons (pe_comp (N := ["k", "costs"]) (mp := [none, some 1]) rfl ⟨rfl, by decide +kernel, by rfl, rfl, by rfl⟩ (pi_list (pv 5)) (fun _ _ _ _ _ _ => (pg_name (i := 0) (by show List.Nodup (["k", "costs"] : List Str); decide +kernel) rfl (Or.inl rfl))) (fun _ _ _ _ _ _ => pifs_nil) (fun _ _ _ _ _ _ => (pe_ix ix_list (pv 1) (pv 0) (fun _ _ => rfl)))) pa_nil)))
      (pss_one (ps_if (PW.pt (pw_and (pt_cmpR (op_ne_ints hr.units) (pv 6) (pe_lst pa_nil) (nomark _)) (pw_and1 (pt_cmpR op_geI (pe_op op_mulI (pv 0) (pe_callB call_len_seq (by rfl) T.z_len PySem.boot_len (pa_cons (pv 6) pa_nil))) (pe_op op_mulI (pv 7) (pe_callB call_len_seq (by rfl) T.z_len PySem.boot_len (pa_cons (pv 2) pa_nil))) (nomark _))))) (pss_one (ps_expr (pe_bm PySem.F.plainAttrs_list PySem.F.slot_list_append PySem.F.type_list_append mt_append (pv 4) (pa_cons (pe_tup (pa_cons (pe_callB call_len_seq (by rfl) T.z_len PySem.boot_len (pa_cons (pv 5) pa_nil)) (pa_cons (pv 5) (pa_cons (pv 6) pa_nil)))) pa_nil)))) pss_nil)))))
      (pss_cons (ps_if (pt_cmpR (op_eq_data hr.units) (pv 4) (pe_lst pa_nil) (nomark _)) (pss_one (ps_ret pe_non)) pss_nil)
      (pss_cons (ps_asg (pe_callB (call_minM rfl hr.units) (by rfl) T.z_min PyProof.Rows.boot_min (pa_cons (pv 4) pa_nil)) (pg_tup rfl (pgs_cons (pg_name (i := 8) sc__law_due.nd rfl (Or.inl rfl)) (pgs_cons (pg_name (i := 5) sc__law_due.nd rfl (Or.inl rfl)) (pgs_cons (pg_name (i := 6) sc__law_due.nd rfl (Or.inl rfl)) pgs_nil)))))
      (pss_one (ps_ret (pe_tup (pa_cons (pv 5) (pa_cons (pv 6) pa_nil)))))))))
theorem cal__law_due (T : Txt K mg) : Cal P w K mg base 2 "_law_due" ["coins", "costs", "wishes", "done"] (sp__law_due K) := T.f__law_due.cal sc__law_due (spOf_len rfl) (fun f cdv A outer s H E hr => pf__law_due T hr) rk__law_due
theorem pf__law_alike (T : Txt K mg) {f : Addr} {cdv : Value} {A : Around} {outer : List Env} {s : Shared} {H : Hp} {E : XK} (hr : Room 1 (A.deeper (PyProof.Rows.envOfC "_law_alike" (defScope s__law_alike) s.heap.objs.size f cdv))) :
    PSs (cxOf CX0 P w K mg base ["found", "due", "row"] "_law_alike" (defScope s__law_alike) f cdv A outer s H E).nox (defBody s__law_alike) (rd__law_alike K) :=
  (pss_cons (ps_if (pt_cmpR op_isN (pv 1) pe_non (nomark _)) (pss_one (ps_ret (pe_cmpR op_isN (pv 0) pe_non (nomark _)))) pss_nil)
      (pss_cons (ps_if (PW.pt (pw_or (pt_not (pt_val (pe_callB call_isinst (by rfl) T.z_isinstance PyProof.Rows.boot_isinstance (pa_cons (pv 0) (pa_cons (pe_bltn (by rfl) T.z_tuple PyProof.Rows.boot_tuple rfl) pa_nil))))) (pw_or1 (pt_cmpR op_ne (pe_callB call_len_seq (by rfl) T.z_len PySem.boot_len (pa_cons (pv 0) pa_nil)) pe_int (nomark _))))) (pss_one (ps_ret pe_bl)) pss_nil)
      (pss_cons (ps_for PassesOwn.never rfl (pi_tup (pv 0)) (pg_name (i := 2) sc__law_alike.nd rfl (Or.inl rfl)) (pss_one (ps_if (PW.pt (pw_or (pt_not (pt_val (pe_callB call_isinst (by rfl) T.z_isinstance PyProof.Rows.boot_isinstance (pa_cons (pv 2) (pa_cons (pe_bltn (by rfl) T.z_list PyProof.Rows.boot_list rfl) pa_nil))))) (pw_or1 (pt_cmpR (op_ne_ints hr.units) (pe_comp (N := ["k"]) (mp := [none]) rfl ⟨rfl, by decide +kernel, by rfl, rfl, by rfl⟩ (pi_list (pv 2)) (fun _ _ _ _ _ _ => (pg_name (i := 0) (by show List.Nodup (["k"] : List Str); decide +kernel) rfl (Or.inl rfl))) (fun _ _ _ _ _ _ => (pifs_one (pt_not (pt_val (pe_cal (cal__law_whole T) (hr.mono (by decide)) (pa_cons (pv 0) pa_nil)))))) (fun _ _ _ _ _ _ => (pv 0))) (pe_lst pa_nil) (nomark _))))) (pss_one (ps_ret pe_bl)) pss_nil)))
      (pss_one (ps_ret (pe_cmpR (op_eq_data hr.units) (pv 0) (pv 1) (nomark _)))))))
theorem cal__law_alike (T : Txt K mg) : Cal P w K mg base 2 "_law_alike" ["found", "due"] (sp__law_alike K) := T.f__law_alike.cal sc__law_alike (spOf_len rfl) (fun f cdv A outer s H E hr => pf__law_alike T hr) rk__law_alike
theorem pf_law (T : Txt K mg) {f : Addr} {cdv : Value} {A : Around} {outer : List Env} {s : Shared} {H : Hp} {E : XK} (hr : Room 4 (A.deeper (PyProof.Rows.envOfC "law" (defScope s_law) s.heap.objs.size f cdv))) :
    PSs (cxOf CX0 P w K mg base ["script", "coins", "costs", "wishes", "cell", "xs", "done", "due", "handed", "found"] "law" (defScope s_law) f cdv A outer s H E).nox (defBody s_law) (rd_law K) :=
  (pss_cons (ps_asg (pe_cal (cal__law_town T) (hr.mono (by decide)) (pa_cons (pv 0) pa_nil)) (pg_tup rfl (pgs_cons (pg_name (i := 1) sc_law.nd rfl (Or.inl rfl)) (pgs_cons (pg_name (i := 2) sc_law.nd rfl (Or.inl rfl)) (pgs_cons (pg_name (i := 3) sc_law.nd rfl (Or.inl rfl)) pgs_nil)))))
      (pss_cons (ps_set (i := 4) sc_law.nd rfl (Or.inl rfl) (pe_cal (cal__law_cell_at T) (hr.mono (by decide)) (pa_cons (pv 0) (pa_cons pe_int pa_nil))))
      (pss_cons (ps_set (i := 5) sc_law.nd rfl (Or.inr rfl) (pe_cal (cal__law_draws T) (hr.mono (by decide)) (pa_cons (pv 4) (pa_cons pe_int pa_nil))))
      (pss_cons (ps_setC (i := 6) (N := ["k", "xs"]) (mp := [none, some 5]) sc_law.nd rfl (Or.inl rfl) rfl ⟨rfl, by decide +kernel, by rfl, rfl, by rfl⟩ (pi_range1 (by rfl) T.z_range (pa_cons (pe_callB call_len_seq (by rfl) T.z_len PySem.boot_len (pa_cons (pv 2) pa_nil)) pa_nil)) (fun _ _ _ _ _ _ => (pg_name (i := 0) (by show List.Nodup (["k", "xs"] : List Str); decide +kernel) rfl (Or.inl rfl))) (fun _ _ _ _ _ _ => (pifs_one (PW.pt (pw_or (pt_cmpR op_eq (pe_op op_modI (pe_ix ix_list (pv 1) pe_int (fun _ _ => rfl)) pe_int) pe_int (nomark _)) (pw_or1 (PW.pt (pw_and (pt_cmpR op_gtI (pe_op op_modI (pe_ix ix_list (pv 1) pe_int (fun _ _ => rfl)) pe_int) pe_int (nomark _)) (pw_and1 (pt_cmpR op_eq (pe_op op_modI (pe_ix ix_list (pv 1) (pv 0) (fun _ _ => rfl)) pe_int) pe_int (nomark _)))))))))) (fun _ _ _ _ _ _ => (pv 0)) (by with_unfolding_all rfl))
      (pss_cons (ps_set (i := 7) sc_law.nd rfl (Or.inl rfl) (pe_cal (cal__law_due T) (hr.mono (by decide)) (pa_cons (pv 1) (pa_cons (pv 2) (pa_cons (pv 3) (pa_cons (pv 6) pa_nil))))))
      (pss_cons (ps_set (i := 8) sc_law.nd rfl (Or.inl rfl) (pe_lst (pa_cons (pe_callTy call_list_of (by rfl) T.z_list PyProof.Rows.boot_list (pa_cons (pv 2) pa_nil)) (pa_cons (pe_comp (N := ["wanted"]) (mp := [none]) rfl ⟨rfl, by decide +kernel, by rfl, rfl, by rfl⟩ (pi_list (pv 3)) (fun _ _ _ _ _ _ => (pg_name (i := 0) (by show List.Nodup (["wanted"] : List Str); decide +kernel) rfl (Or.inl rfl))) (fun _ _ _ _ _ _ => pifs_nil) (fun _ _ _ _ _ _ => (pe_callTy call_list_of (by rfl) T.z_list PyProof.Rows.boot_list (pa_cons (pv 0) pa_nil)))) (pa_cons (pe_callTy call_list_of (by rfl) T.z_list PyProof.Rows.boot_list (pa_cons (pv 6) pa_nil)) pa_nil)))))
      (pss_cons (ps_set (i := 9) sc_law.nd rfl (Or.inl rfl) (pe_cal (cal_wronged T) (hr.mono (by decide)) (pa_cons (pv 1) (pa_cons (pe_ix ix_list (pv 8) pe_int (fun _ _ => rfl)) (pa_cons (pe_ix ix_list (pv 8) pe_int (fun _ _ => rfl)) (pa_cons (pe_ix ix_list (pv 8) pe_int (fun _ _ => rfl)) pa_nil))))))
      (pss_cons (ps_if (PW.pt (pw_or (pt_not (pt_val (pe_cal (cal__law_alike T) (hr.mono (by decide)) (pa_cons (pv 9) (pa_cons (pv 7) pa_nil))))) (pw_or1 (pt_cmpR (op_ne_data hr.units) (pv 8) (pe_lst (pa_cons (pv 2) (pa_cons (pv 3) (pa_cons (pv 6) pa_nil)))) (nomark _))))) (pss_one (ps_ret pe_bl)) pss_nil)
      (pss_cons (ps_if (pt_cmpR op_notN (pv 9) pe_non (nomark _)) (pss_cons (ps_expr (pe_bm0 PySem.F.plainAttrs_list PySem.F.slot_list_clear PySem.F.type_list_clear mt_clear (pe_ix ix_tup (pv 9) pe_int (fun _ _ => rfl))))
      (pss_one (ps_expr (pe_bm PySem.F.plainAttrs_list PySem.F.slot_list_append PySem.F.type_list_append mt_append (pe_ix ix_tup (pv 9) pe_int (fun _ _ => rfl)) (pa_cons (pe_un un_neg pe_int) pa_nil))))) pss_nil)
      (pss_one (ps_ret (pe_and (pe_cmpR (op_eq_data hr.units) (pv 8) (pe_lst (pa_cons (pv 2) (pa_cons (pv 3) (pa_cons (pv 6) pa_nil)))) (nomark _)) (pe_one (pe_cal (cal__law_alike T) (hr.mono (by decide)) (pa_cons (pe_cal (cal_wronged T) (hr.mono (by decide)) (pa_cons (pv 1) (pa_cons (pe_ix ix_list (pv 8) pe_int (fun _ _ => rfl)) (pa_cons (pe_ix ix_list (pv 8) pe_int (fun _ _ => rfl)) (pa_cons (pe_ix ix_list (pv 8) pe_int (fun _ _ => rfl)) pa_nil))))) (pa_cons (pv 7) pa_nil))))))))))))))))
end

end My
open PySem PySem.W PyProof.Rows

set_option maxRecDepth 100000 in
set_option maxHeartbeats 0 in
theorem PySem.Challenge.cw_purse_k31_groups_found_holds : PySem.Challenge.rw_purse_k31_groups_found.Holds := by
  w_on; o_law; k_head; (case hw => w_witness2)
  k_fill
  refine L2.walk_law (l := PySem.Challenge.rw_purse_k31_groups_found) (k := 5) rfl rfl ⟨rfl, by decide, by decide⟩ (fun w h Y => PySem.W.kIn_of Y) ?F
  case F =>
    intro w mg fa h KX G hmg
    have h_wants_all : L2.FunIn (L2.KOf KX) mg "wants_all" My.s_wants_all ["wanted", "works"] := by
      dsimp only [L2.KOf]
      refine' L2.fun_in KX G ?a ?l ?c ?k ?b
      (case a => k_is); (case l => k_is); (case c => k_is); (case k => k_is); (case b => exact fun _ _ _ _ _ _ us hl => match us, hl with | [_, _], _ => rfl)
    have h_common_of : L2.FunIn (L2.KOf KX) mg "common_of" My.s_common_of ["wishes", "works"] := by
      dsimp only [L2.KOf]
      refine' L2.fun_in KX G ?a ?l ?c ?k ?b
      (case a => k_is); (case l => k_is); (case c => k_is); (case k => k_is); (case b => exact fun _ _ _ _ _ _ us hl => match us, hl with | [_, _], _ => rfl)
    have h_cost_of : L2.FunIn (L2.KOf KX) mg "cost_of" My.s_cost_of ["costs", "works"] := by
      dsimp only [L2.KOf]
      refine' L2.fun_in KX G ?a ?l ?c ?k ?b
      (case a => k_is); (case l => k_is); (case c => k_is); (case k => k_is); (case b => exact fun _ _ _ _ _ _ us hl => match us, hl with | [_, _], _ => rfl)
    have h_longer_lists : L2.FunIn (L2.KOf KX) mg "longer_lists" My.s_longer_lists ["lists", "count"] := by
      dsimp only [L2.KOf]
      refine' L2.fun_in KX G ?a ?l ?c ?k ?b
      (case a => k_is); (case l => k_is); (case c => k_is); (case k => k_is); (case b => exact fun _ _ _ _ _ _ us hl => match us, hl with | [_, _], _ => rfl)
    have h_work_lists : L2.FunIn (L2.KOf KX) mg "work_lists" My.s_work_lists ["count"] := by
      dsimp only [L2.KOf]
      refine' L2.fun_in KX G ?a ?l ?c ?k ?b
      (case a => k_is); (case l => k_is); (case c => k_is); (case k => k_is); (case b => exact fun _ _ _ _ _ _ us hl => match us, hl with | [_], _ => rfl)
    have h_wanted_among : L2.FunIn (L2.KOf KX) mg "wanted_among" My.s_wanted_among ["wanted", "works"] := by
      dsimp only [L2.KOf]
      refine' L2.fun_in KX G ?a ?l ?c ?k ?b
      (case a => k_is); (case l => k_is); (case c => k_is); (case k => k_is); (case b => exact fun _ _ _ _ _ _ us hl => match us, hl with | [_, _], _ => rfl)
    have h_group_of : L2.FunIn (L2.KOf KX) mg "group_of" My.s_group_of ["wishes", "asked", "works"] := by
      dsimp only [L2.KOf]
      refine' L2.fun_in KX G ?a ?l ?c ?k ?b
      (case a => k_is); (case l => k_is); (case c => k_is); (case k => k_is); (case b => exact fun _ _ _ _ _ _ us hl => match us, hl with | [_, _, _], _ => rfl)
    have h_could_pay : L2.FunIn (L2.KOf KX) mg "could_pay" My.s_could_pay ["coins", "costs", "wishes", "asked", "group"] := by
      dsimp only [L2.KOf]
      refine' L2.fun_in KX G ?a ?l ?c ?k ?b
      (case a => k_is); (case l => k_is); (case c => k_is); (case k => k_is); (case b => exact fun _ _ _ _ _ _ us hl => match us, hl with | [_, _, _, _, _], _ => rfl)
    have h_wronged : L2.FunIn (L2.KOf KX) mg "wronged" My.s_wronged ["coins", "costs", "wishes", "works"] := by
      dsimp only [L2.KOf]
      refine' L2.fun_in KX G ?a ?l ?c ?k ?b
      (case a => k_is); (case l => k_is); (case c => k_is); (case k => k_is); (case b => exact fun _ _ _ _ _ _ us hl => match us, hl with | [_, _, _, _], _ => rfl)
    have h__law_cell_at : L2.FunIn (L2.KOf KX) mg "_law_cell_at" My.s__law_cell_at ["script", "k"] := by
      dsimp only [L2.KOf]
      refine' L2.fun_in KX G ?a ?l ?c ?k ?b
      (case a => k_is); (case l => k_is); (case c => k_is); (case k => k_is); (case b => exact fun _ _ _ _ _ _ us hl => match us, hl with | [_, _], _ => rfl)
    have h__law_whole : L2.FunIn (L2.KOf KX) mg "_law_whole" My.s__law_whole ["found"] := by
      dsimp only [L2.KOf]
      refine' L2.fun_in KX G ?a ?l ?c ?k ?b
      (case a => k_is); (case l => k_is); (case c => k_is); (case k => k_is); (case b => exact fun _ _ _ _ _ _ us hl => match us, hl with | [_], _ => rfl)
    have h__law_draw : L2.FunIn (L2.KOf KX) mg "_law_draw" My.s__law_draw ["cell", "place"] := by
      dsimp only [L2.KOf]
      refine' L2.fun_in KX G ?a ?l ?c ?k ?b
      (case a => k_is); (case l => k_is); (case c => k_is); (case k => k_is); (case b => exact fun _ _ _ _ _ _ us hl => match us, hl with | [_, _], _ => rfl)
    have h__law_draws : L2.FunIn (L2.KOf KX) mg "_law_draws" My.s__law_draws ["cell", "many"] := by
      dsimp only [L2.KOf]
      refine' L2.fun_in KX G ?a ?l ?c ?k ?b
      (case a => k_is); (case l => k_is); (case c => k_is); (case k => k_is); (case b => exact fun _ _ _ _ _ _ us hl => match us, hl with | [_, _], _ => rfl)
    have h__law_wishes : L2.FunIn (L2.KOf KX) mg "_law_wishes" My.s__law_wishes ["cells", "many", "usual"] := by
      dsimp only [L2.KOf]
      refine' L2.fun_in KX G ?a ?l ?c ?k ?b
      (case a => k_is); (case l => k_is); (case c => k_is); (case k => k_is); (case b => exact fun _ _ _ _ _ _ us hl => match us, hl with | [_, _, _], _ => rfl)
    have h__law_town : L2.FunIn (L2.KOf KX) mg "_law_town" My.s__law_town ["script"] := by
      dsimp only [L2.KOf]
      refine' L2.fun_in KX G ?a ?l ?c ?k ?b
      (case a => k_is); (case l => k_is); (case c => k_is); (case k => k_is); (case b => exact fun _ _ _ _ _ _ us hl => match us, hl with | [_], _ => rfl)
    have h__law_sets : L2.FunIn (L2.KOf KX) mg "_law_sets" My.s__law_sets ["many"] := by
      dsimp only [L2.KOf]
      refine' L2.fun_in KX G ?a ?l ?c ?k ?b
      (case a => k_is); (case l => k_is); (case c => k_is); (case k => k_is); (case b => exact fun _ _ _ _ _ _ us hl => match us, hl with | [_], _ => rfl)
    have h__law_group : L2.FunIn (L2.KOf KX) mg "_law_group" My.s__law_group ["wishes", "asked", "done"] := by
      dsimp only [L2.KOf]
      refine' L2.fun_in KX G ?a ?l ?c ?k ?b
      (case a => k_is); (case l => k_is); (case c => k_is); (case k => k_is); (case b => exact fun _ _ _ _ _ _ us hl => match us, hl with | [_, _, _], _ => rfl)
    have h__law_due : L2.FunIn (L2.KOf KX) mg "_law_due" My.s__law_due ["coins", "costs", "wishes", "done"] := by
      dsimp only [L2.KOf]
      refine' L2.fun_in KX G ?a ?l ?c ?k ?b
      (case a => k_is); (case l => k_is); (case c => k_is); (case k => k_is); (case b => exact fun _ _ _ _ _ _ us hl => match us, hl with | [_, _, _, _], _ => rfl)
    have h__law_alike : L2.FunIn (L2.KOf KX) mg "_law_alike" My.s__law_alike ["found", "due"] := by
      dsimp only [L2.KOf]
      refine' L2.fun_in KX G ?a ?l ?c ?k ?b
      (case a => k_is); (case l => k_is); (case c => k_is); (case k => k_is); (case b => exact fun _ _ _ _ _ _ us hl => match us, hl with | [_, _], _ => rfl)
    have h_law : L2.FunIn (L2.KOf KX) mg "law" My.s_law ["script"] := by
      dsimp only [L2.KOf]
      refine' L2.fun_in KX G ?a ?l ?c ?k ?b
      (case a => k_is); (case l => k_is); (case c => k_is); (case k => k_is); (case b => exact fun _ _ _ _ _ _ us hl => match us, hl with | [_], _ => rfl)
    have z_all : mg "all" = none := by
      refine' L2.mg_name KX G ?z; (case z => k_is)
    have z_bool : mg "bool" = none := by
      refine' L2.mg_name KX G ?z; (case z => k_is)
    have z_enumerate : mg "enumerate" = none := by
      refine' L2.mg_name KX G ?z; (case z => k_is)
    have z_int : mg "int" = none := by
      refine' L2.mg_name KX G ?z; (case z => k_is)
    have z_isinstance : mg "isinstance" = none := by
      refine' L2.mg_name KX G ?z; (case z => k_is)
    have z_len : mg "len" = none := by
      refine' L2.mg_name KX G ?z; (case z => k_is)
    have z_list : mg "list" = none := by
      refine' L2.mg_name KX G ?z; (case z => k_is)
    have z_min : mg "min" = none := by
      refine' L2.mg_name KX G ?z; (case z => k_is)
    have z_range : mg "range" = none := by
      refine' L2.mg_name KX G ?z; (case z => k_is)
    have z_sum : mg "sum" = none := by
      refine' L2.mg_name KX G ?z; (case z => k_is)
    have z_tuple : mg "tuple" = none := by
      refine' L2.mg_name KX G ?z; (case z => k_is)
    exact L2.FunIn.law h_law hmg My.sc_law (L2.spOf_len rfl) (fun base f cdv A outer s H E hr => My.pf_law ⟨h_wants_all, h_common_of, h_cost_of, h_longer_lists, h_work_lists, h_wanted_among, h_group_of, h_could_pay, h_wronged, h__law_cell_at, h__law_whole, h__law_draw, h__law_draws, h__law_wishes, h__law_town, h__law_sets, h__law_group, h__law_due, h__law_alike, h_law, z_all, z_bool, z_enumerate, z_int, z_isinstance, z_len, z_list, z_min, z_range, z_sum, z_tuple⟩ hr) My.rk_law

