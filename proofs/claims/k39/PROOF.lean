import PyProof.Rows.All
import Wide.All
import OpenK.AllK
import Wide.FinOn
import Lean
import PyProof.EqAt
import PyProof.EqKinds
import PyProof.TupleCall
import KE.KSortTup
import KE.KIsAll
import KE.KTryMore
import PyProof.ExcAttrAll.ValueError
import PyProof.Rows.SetFrom
import KE.KDictSum
import PyProof.WalkInts
import PyProof.SetRoads
import PyProof.Rows.SortWalk
import PySem.Challenge.RW_purse_k39_whole_plans_wrong_nobody
set_option Elab.async false
set_option linter.all false
set_option maxRecDepth 100000
/-! THE HAND LAYER, for ints, bools, texts, own classes, LISTS and tuples (index, slices, in, append, pop ..), calls, loops. Paste it whole ahead of your own text; what your proof does not reach may be deleted. -/
namespace L2
open PySem PySem.Spec PyProof.Rows

/-- a key: an int or a str -/
noncomputable abbrev Key := Sum Int Str
noncomputable def keyIs : Key → Value → Bool
  | .inl k, v => Value.isInt k v
  | .inr x, v => Value.isStrOf x v
noncomputable def keyH (w : World) : Key → Int
  | .inl k => hashInt k
  | .inr x => hashStr w x
theorem keyIs_shape : ∀ {k : Key} {v : Value}, keyIs k v = true → (∃ i t, k = Sum.inl i ∧ v = Value.int i t) ∨ (∃ x t, k = Sum.inr x ∧ v = Value.str x t)
  | .inl i, v, h => by
    obtain ⟨t, e⟩ := Value.isInt_shape (k := i) (v := v) h
    exact .inl ⟨i, t, rfl, e⟩
  | .inr x, v, h => by
    obtain ⟨t, e⟩ := Value.isStrOf_shape (x := x) (v := v) h
    exact .inr ⟨x, t, rfl, e⟩
theorem key_ll (a b : Int) : decide ((Sum.inl a : Key) = Sum.inl b) = (a == b) := by
  by_cases e : a = b
  · subst e; simp
  · have h : ¬ (Sum.inl a : Key) = Sum.inl b := fun q => e (Sum.inl.inj q)
    rw [decide_eq_false h]
    exact (beq_eq_false_iff_ne.mpr e).symm
theorem key_rr (a b : Str) : decide ((Sum.inr a : Key) = Sum.inr b) = decide (a = b) := by
  by_cases e : a = b
  · subst e; simp
  · have h : ¬ (Sum.inr a : Key) = Sum.inr b := fun q => e (Sum.inr.inj q)
    rw [decide_eq_false h, decide_eq_false e]
theorem key_lr (a : Int) (b : Str) : decide ((Sum.inl a : Key) = Sum.inr b) = false := decide_eq_false (fun q => nomatch q)
theorem key_rl (a : Str) (b : Int) : decide ((Sum.inr a : Key) = Sum.inl b) = false := decide_eq_false (fun q => nomatch q)

noncomputable def mixKind (prog : Program) (w : World) : PySem.KeyKind prog w Key where
  is := keyIs
  hash := keyH w
  inj := fun v a b ha hb => by
    rcases keyIs_shape ha with ⟨i, t, rfl, rfl⟩ | ⟨x, t, rfl, rfl⟩
    · rcases keyIs_shape hb with ⟨j, u, rfl, e⟩ | ⟨y, u, rfl, e⟩
      · injection e with e1 _; rw [e1]
      · exact nomatch e
    · rcases keyIs_shape hb with ⟨j, u, rfl, e⟩ | ⟨y, u, rfl, e⟩
      · exact nomatch e
      · injection e with e1 _; rw [e1]
  byValue := fun k v h => by
    rcases keyIs_shape h with ⟨i, t, rfl, rfl⟩ | ⟨x, t, rfl, rfl⟩ <;> rfl
  pyHash := fun hv h => by
    rcases keyIs_shape hv with ⟨i, t, rfl, rfl⟩ | ⟨x, t, rfl, rfl⟩
    · exact wpAny_pyHash_int h
    · exact wpAny_pyHash_str h
  eqBool := fun hu hv h => by
    rcases keyIs_shape hu with ⟨i, t, rfl, rfl⟩ | ⟨x, t, rfl, rfl⟩
    · rcases keyIs_shape hv with ⟨j, u, rfl, rfl⟩ | ⟨y, u, rfl, rfl⟩
      · rw [key_ll] at h; exact wpAny_eqBool_int h
      · rw [key_lr] at h; exact SeqAt.EqAt.int_str i t y u _ _ _ _ h
    · rcases keyIs_shape hv with ⟨j, u, rfl, rfl⟩ | ⟨y, u, rfl, rfl⟩
      · rw [key_rl] at h; exact SeqAt.EqAt.str_int x t j u _ _ _ _ h
      · rw [key_rr] at h; exact wpAny_eqBool_str h
  «strs» := fun k x t v h => by
    rcases keyIs_shape h with ⟨i, u, rfl, e⟩ | ⟨y, u, rfl, e⟩
    · exact nomatch e
    · injection e with e1 _
      subst e1
      cases v <;> rfl

end L2

namespace L2
open PySem PySem.Spec PyProof.Rows

/-- a value, without the heap -/
inductive V where
  | non | bl (b : Bool) | int (i : Int) | str (x : Str) | byt (b : Array UInt8) | flt (b : UInt64) | ref (a : Addr) | ty (n : String)
  deriving DecidableEq

noncomputable def RelV : V → Value → Prop
  | .non, u => u = Value.none
  | .bl b, u => u = Value.bool b
  | .int i, u => ∃ t, u = Value.int i t
  | .str x, u => ∃ t, u = Value.str x t
  | .byt b, u => ∃ t, u = Value.bytes b t
  | .flt b, u => ∃ t, u = Value.float b t
  | .ref a, u => u = Value.ref a
  | .ty n, u => u = Value.type n

noncomputable abbrev Vals : List V → List Value → Prop := Paired RelV
theorem Vals.length {xs : List V} {us : List Value} (r : Vals xs us) : xs.length = us.length := Paired.length r
theorem Vals.get : ∀ {xs : List V} {us : List Value} {i : Nat} {x : V}, Vals xs us → xs[i]? = some x → ∃ u, us[i]? = some u ∧ RelV x u
  | _, _, _, _, .nil, e => by simp at e
  | _, _, 0, _, .cons r _, e => by simp at e; subst e; exact ⟨_, rfl, r⟩
  | _, _, i + 1, x, .cons _ t, e => by
    obtain ⟨u, h1, h2⟩ := Vals.get (i := i) (x := x) t (by simpa using e)
    exact ⟨u, by simpa using h1, h2⟩
theorem Vals.append : ∀ {xs ys : List V} {us ws : List Value}, Vals xs us → Vals ys ws → Vals (xs ++ ys) (us ++ ws)
  | _, _, _, _, .nil, s => s
  | _, _, _, _, .cons r t, s => .cons r (Vals.append t s)
theorem Vals.take : ∀ {xs : List V} {us : List Value} (n : Nat), Vals xs us → Vals (xs.take n) (us.take n)
  | _, _, 0, _ => .nil
  | _, _, _ + 1, .nil => .nil
  | _, _, n + 1, .cons r t => .cons r (Vals.take n t)
theorem Vals.drop : ∀ {xs : List V} {us : List Value} (n : Nat), Vals xs us → Vals (xs.drop n) (us.drop n)
  | _, _, 0, r => r
  | _, _, _ + 1, .nil => .nil
  | _, _, n + 1, .cons _ t => Vals.drop n t

noncomputable def RelO : Option V → Option Value → Prop
  | some v, some u => RelV v u
  | none, none => True
  | _, _ => False
noncomputable def KV {κ : Type} : List (κ × V) → List (κ × Value) → Prop := Paired fun (p : κ × V) (q : κ × Value) => p.1 = q.1 ∧ RelV p.2 q.2

/-- a key of a dict (00_mix): an int or a text -/
noncomputable def kV : Key → V
  | .inl i => .int i
  | .inr x => .str x

/-- what stands at a tracked address -/
inductive HO where
  /-- a list -/
  | lst (xs : List V)
  /-- a tuple (never changes) -/
  | tup (xs : List V)
  /-- a dict whose keys are ints and texts; one whose keys are tuples of ints and texts (the empty one is both) -/
  | dK (kvs : List (Key × V)) | dT (kvs : List (List Key × V))
  /-- a set of ints: its members, its size -/
  | set (S : Int → Bool) (n : Nat)
  /-- an instance of the class at C, its dict at dx, its attributes -/
  | ins (C dx : Addr) (fs : List (Str × V))
  /-- the dict of the instance at x -/
  | own (x : Addr)
  /-- the dict of an exception -/
  | xd (fs : List (Str × V))
  /-- a bound method, f of x -/
  | met (f x : Addr)
  /-- a range object lo, lo + 1, .. below hi -/
  | rng (lo hi : Int)
  /-- a thing that is known to the object (the script; a dict while a loop walks it): read, never written while it is so -/
  | frz (o : Obj) (u : HO)
  /-- a code object's table -/
  | tbl (ps : Array Value)
  /-- any other thing, by what is true of its one object (a def of one's own: SetO a S n := HO.ext fun h => ..) -/
  | ext (φ : Heap → Prop)

noncomputable abbrev Hp := Addr → Option HO
noncomputable def upd (H : Hp) (a : Addr) (o : HO) : Hp := fun b => if b = a then some o else H b
theorem upd_same {H : Hp} {a : Addr} {o : HO} : upd H a o a = some o := by unfold upd; rw [if_pos rfl]
theorem upd_ne {H : Hp} {a b : Addr} {o : HO} (h : b ≠ a) : upd H a o b = H b := by unfold upd; rw [if_neg h]
theorem ne_of_none {H : Hp} {a b : Addr} {o : HO} (h : H a = some o) (h' : H b = none) : a ≠ b := by
  intro e; subst e; rw [h] at h'; cases h'

section
variable (P : Program) (w : World)
noncomputable def ObjOk (H : Hp) (h : Heap) (a : Addr) : HO → Prop
  | .lst xs => xs.length ≤ sizeLine ∧ ∃ (its : List Value) (n : Nat), Vals xs its ∧ h.get? a = some { cls := .type "list", data := .seq its.toArray n }
  | .tup xs => xs.length ≤ sizeLine ∧ ∃ its : List Value, Vals xs its ∧ IsTup h a its.toArray
  | .dK kvs => kvs.length ≤ sizeLine ∧ (a == sysModules) = false ∧ ∃ vs, KV kvs vs ∧ h.DictOf (mixKind P w) a vs
  | .dT kvs => kvs.length ≤ sizeLine ∧ (a == sysModules) = false ∧ ∃ xs : List (List Key × Addr × Value),
      Paired (fun (p : List Key × V) (q : List Key × Addr × Value) => p.1 = q.1 ∧ H q.2.1 = some (.tup (p.1.map kV)) ∧ RelV p.2 q.2.2) kvs xs ∧
      ∃ o es ep, h.get? a = some o ∧ o.ExactDict ∧ o.data = .dict es ep ∧ es.toList = xs.map (entryOfKey (tupleKind (mixKind P w))) ∧ (xs.map (·.1)).Nodup
  | .set S n => h.SetOf (intKind P w) a S n
  | .ins C dx fs => H dx = some (.own a) ∧ fs.length ≤ 1000 ∧ dx ≠ a ∧ h.get? a = some (PySem.W.instObj C dx) ∧
      ∃ mA, h.Ns1 dx mA ∧ (∀ f, RelO (fs.lookup f) (mA f)) ∧ PySem.Within mA (fs.map (·.1))
  | .own _ => ∃ o, h.get? a = some o
  | .xd fs => ∃ mA, h.Ns1 a mA ∧ ∀ f, RelO (fs.lookup f) (mA f)
  | .rng lo hi => ∃ t u v, h.get? a = some { cls := .type "range", data := .fields #[.int lo t, .int hi u, .int 1 v] }
  | .frz o u => h.get? a = some o ∧ ObjOk H h a u
  | .tbl ps => h.get? a = some { cls := .none, data := .fields ps }
  | .met f x => h.get? a = some (PySem.W.methodObj (.ref f) (.ref x))
  | .ext φ => φ h ∧ (∃ o, h.get? a = some o) ∧ ∀ h1 h2 : Heap, φ h1 → (∀ o, h1.get? a = some o → h2.get? a = some o) → φ h2
/-- the abstract heap is held -/
noncomputable def HOk (H : Hp) (h : Heap) : Prop := ∀ a o, H a = some o → ObjOk P w H h a o
end

section
variable {P : Program} {w : World} {H H' : Hp} {h h' : Heap} {a : Addr} {o : HO}
theorem ObjOk.lt (x : ObjOk P w H h a o) : a < h.objs.size := by
  cases o with
  | lst xs => obtain ⟨_, _, _, _, e⟩ := x; exact Heap.lt_size e
  | tup xs => obtain ⟨_, _, _, p⟩ := x; exact p.lt
  | dK kvs => obtain ⟨_, _, _, _, o, _, _, e, _⟩ := x; exact Heap.lt_size e
  | dT kvs => obtain ⟨_, _, _, _, o, _, _, e, _⟩ := x; exact Heap.lt_size e
  | set S n => obtain ⟨o, _, _, _, e, _⟩ := x; exact Heap.lt_size e
  | ins C dx fs => obtain ⟨_, _, _, e, _⟩ := x; exact Heap.lt_size e
  | own y => obtain ⟨_, e⟩ := x; exact Heap.lt_size e
  | xd fs => obtain ⟨_, ⟨_, _, _, e, _⟩, _⟩ := x; exact Heap.lt_size e
  | rng lo hi => obtain ⟨_, _, _, e⟩ := x; exact Heap.lt_size e
  | frz ob u => obtain ⟨e, _⟩ := x; exact Heap.lt_size e
  | tbl ps => exact Heap.lt_size (show h.get? a = some _ from x)
  | met f y => exact Heap.lt_size (show h.get? a = some _ from x)
  | ext φ => obtain ⟨_, ⟨_, e⟩, _⟩ := x; exact Heap.lt_size e
theorem Paired.mapP {α β : Type} {F G : α → β → Prop} : ∀ {l₁ : List α} {l₂ : List β}, Paired F l₁ l₂ → (∀ a b, F a b → G a b) → Paired G l₁ l₂
  | _, _, .nil, _ => .nil
  | _, _, .cons r t, f => .cons (f _ _ r) (Paired.mapP t f)
/-- what an object's description leans on: its own object, its own dict, the tuples -/
theorem ObjOk.stay (x : ObjOk P w H h a o) (k : ∀ b u, (b = a ∨ H b = some (.own a)) → h.get? b = some u → h'.get? b = some u)
    (ho : ∀ b, H b = some (.own a) → H' b = some (.own a)) (ht : ∀ b xs, H b = some (.tup xs) → H' b = some (.tup xs)) : ObjOk P w H' h' a o := by
  induction o with
  | lst xs => obtain ⟨z, its, n, r, e⟩ := x; exact ⟨z, its, n, r, k _ _ (.inl rfl) e⟩
  | tup xs => obtain ⟨z, its, r, ob, e, c⟩ := x; exact ⟨z, its, r, ob, k _ _ (.inl rfl) e, c⟩
  | dK kvs => obtain ⟨z, y, vs, r, ob, es, ep, e, c⟩ := x; exact ⟨z, y, vs, r, ob, es, ep, k _ _ (.inl rfl) e, c⟩
  | dT kvs =>
    obtain ⟨z, y, xs, r, ob, es, ep, e, c⟩ := x
    exact ⟨z, y, xs, Paired.mapP r fun p q z => ⟨z.1, ht _ _ z.2.1, z.2.2⟩, ob, es, ep, k _ _ (.inl rfl) e, c⟩
  | set S n => obtain ⟨ob, es, ep, t, e, c⟩ := x; exact ⟨ob, es, ep, t, k _ _ (.inl rfl) e, c⟩
  | ins C dx fs =>
    obtain ⟨d, z, ne, e, mA, ⟨od, es, ep, e2, c⟩, r⟩ := x
    exact ⟨ho _ d, z, ne, k _ _ (.inl rfl) e, mA, ⟨od, es, ep, k _ _ (.inr d) e2, c⟩, r⟩
  | own y => obtain ⟨ob, e⟩ := x; exact ⟨ob, k _ _ (.inl rfl) e⟩
  | xd fs => obtain ⟨mA, ⟨od, es, ep, e, c⟩, r⟩ := x; exact ⟨mA, ⟨od, es, ep, k _ _ (.inl rfl) e, c⟩, r⟩
  | rng lo hi => obtain ⟨t, u, v, e⟩ := x; exact ⟨t, u, v, k _ _ (.inl rfl) e⟩
  | frz ob u ih => obtain ⟨e, q⟩ := x; exact ⟨k _ _ (.inl rfl) e, ih q⟩
  | tbl ps =>
    have e : h.get? a = some { cls := .none, data := .fields ps } := x
    show h'.get? a = some { cls := .none, data := .fields ps }
    exact k a _ (.inl rfl) e
  | met f y =>
    have e : h.get? a = some (PySem.W.methodObj (.ref f) (.ref y)) := x
    show h'.get? a = some (PySem.W.methodObj (.ref f) (.ref y))
    exact k a _ (.inl rfl) e
  | ext φ => obtain ⟨p, ⟨o, e⟩, st⟩ := x; exact ⟨st _ _ p fun o q => k _ _ (.inl rfl) q, ⟨o, k _ _ (.inl rfl) e⟩, st⟩
theorem HOk.lt (x : HOk P w H h) (e : H a = some o) : a < h.objs.size := (x a o e).lt
theorem HOk.fresh (x : HOk P w H h) (e : h.objs.size ≤ a) : H a = none := by
  cases q : H a with
  | none => rfl
  | some u => exact absurd (Nat.lt_of_lt_of_le (x.lt q) e) (Nat.lt_irrefl _)
/-- every object of the heap is kept -/
theorem HOk.kept (x : HOk P w H h) (k : ∀ b u, h.get? b = some u → h'.get? b = some u) : HOk P w H h' := fun a o e =>
  (x a o e).stay (fun b u _ q => k b u q) (fun _ q => q) fun _ _ q => q
/-- a new object is laid and tracked -/
theorem HOk.laid (x : HOk P w H h) (k : ∀ b u, h.get? b = some u → h'.get? b = some u) (hp : h.objs.size ≤ a) (new : ObjOk P w (upd H a o) h' a o) : HOk P w (upd H a o) h' := fun b u e => by
  have hn := x.fresh hp
  by_cases hb : b = a
  · subst hb; rw [upd_same] at e; cases e; exact new
  · rw [upd_ne hb] at e
    exact (x b u e).stay (fun c v _ q => k c v q) (fun c q => by rw [upd_ne (ne_of_none q hn)]; exact q) fun c xs q => by rw [upd_ne (ne_of_none q hn)]; exact q
end

/-- what may be read as u: it is u, or a known u -/
noncomputable def Rd (H : Hp) (a : Addr) (u : HO) : Prop := H a = some u ∨ ∃ o, H a = some (.frz o u)
theorem Rd.ok {P : Program} {w : World} {H : Hp} {h : Heap} {a : Addr} {u : HO} (r : Rd H a u) (x : HOk P w H h) : ObjOk P w H h a u := by
  rcases r with r | ⟨o, r⟩
  · exact x a u r
  · obtain ⟨_, q⟩ := x a _ r
    exact q
/-- what may be written -/
noncomputable def Mut : Option HO → Prop
  | some (.lst _) => True
  | some (.dK _) => True
  | some (.dT _) => True
  | some (.set _ _) => True
  | some (.ins _ _ _) => True
  | some (.ext _) => True
  | _ => False
section
variable {P : Program} {w : World} {H : Hp} {h h' : Heap} {x e : Addr} {o' : HO}
/-- the object at e is changed: x itself, or the dict of the instance x -/
theorem HOk.write (ok : HOk P w H h) (mu : Mut (H x)) (he : e = x ∨ H e = some (.own x)) (k : ∀ b u, b ≠ e → h.get? b = some u → h'.get? b = some u) (heo : ∃ u, h'.get? e = some u)
    (new : ObjOk P w (upd H x o') h' x o') : HOk P w (upd H x o') h' := fun b u q => by
  have nown : ∀ c y, H c = some (.own y) → c ≠ x := fun c y r z => by subst z; rw [r] at mu; exact mu
  have ntup : ∀ c xs, H c = some (.tup xs) → c ≠ x := fun c xs r z => by subst z; rw [r] at mu; exact mu
  by_cases hb : b = x
  · subst hb; rw [upd_same] at q; cases q; exact new
  · rw [upd_ne hb] at q
    by_cases hbe : b = e
    · have q' : H b = some (.own x) := by
        rcases he with z | z
        · exact absurd (hbe.trans z) hb
        · rw [hbe]; exact z
      rw [q] at q'; cases q'
      obtain ⟨v, hv⟩ := heo
      exact ⟨v, by rw [hbe]; exact hv⟩
    · refine (ok b u q).stay (fun c v hc r => k c v ?_ r) (fun c r => by rw [upd_ne (nown c b r)]; exact r) fun c xs r => by rw [upd_ne (ntup c xs r)]; exact r
      rcases hc with rfl | hc
      · exact hbe
      · rintro rfl
        rcases he with z | z
        · exact nown c b hc z
        · rw [hc] at z; cases z; exact hb rfl
end

/-! ### kept unless tracked; of the frames at fs (the callers') the slots may change (an exception that passes writes there); of the records at ex (iterators) nothing is said -/
structure Un (fs ex : List Addr) (H H' : Hp) (h h' : Heap) : Prop where
  keep : ∀ b o, h.get? b = some o → H b = none → b ∉ fs → b ∉ ex → h'.get? b = some o
  slot : ∀ b o, h.get? b = some o → H b = none → b ∈ fs → b ∉ ex → ∃ sl, h'.get? b = some { o with slots := sl }
  free : ∀ b o, h.get? b = some o → H b = none → b ∉ ex → H' b = none
  there : ∀ b o, h.get? b = some o → b ∉ ex → ∃ o', h'.get? b = some o'
  tups : ∀ b xs, H b = some (.tup xs) → H' b = some (.tup xs)
  frzs : ∀ b o u, H b = some (.frz o u) → H' b = some (.frz o u)
  tbls : ∀ b ps, H b = some (.tbl ps) → ∃ more, H' b = some (.tbl (ps ++ more))
section
variable {fs fs' ex ex' : List Addr} {H H1 H2 : Hp} {h h1 h2 h' : Heap} {a x e : Addr} {o : HO}
theorem Un.any (u : Un fs ex H H1 h h1) {b : Addr} {ob : Obj} (q : h.get? b = some ob) (n : H b = none) (hx : b ∉ ex) : ∃ sl, h1.get? b = some { ob with slots := sl } := by
  by_cases hb : b ∈ fs
  · exact u.slot b ob q n hb hx
  · exact ⟨ob.slots, u.keep b ob q n hb hx⟩
theorem Un.kept (k : ∀ b u, h.get? b = some u → h'.get? b = some u) : Un fs ex H H h h' :=
  ⟨fun b ob q _ _ _ => k b ob q, fun b ob q _ _ _ => ⟨ob.slots, k b ob q⟩, fun _ _ _ n _ => n, fun b ob q _ => ⟨ob, k b ob q⟩, fun _ _ q => q, fun _ _ _ q => q, fun _ ps q => ⟨#[], by rw [q]; simp⟩⟩
theorem Un.refl : Un fs ex H H h h := Un.kept fun _ _ q => q
theorem Un.laid (k : ∀ b u, h.get? b = some u → h'.get? b = some u) (hp : h.objs.size ≤ a) (hn : H a = none) : Un fs ex H (upd H a o) h h' where
  keep := fun b u q _ _ _ => k b u q
  slot := fun b u q _ _ _ => ⟨u.slots, k b u q⟩
  free := fun b u q n _ => by rw [upd_ne (Nat.ne_of_lt (Nat.lt_of_lt_of_le (Heap.lt_size q) hp))]; exact n
  there := fun b u q _ => ⟨u, k b u q⟩
  tups := fun b xs q => by rw [upd_ne (ne_of_none q hn)]; exact q
  frzs := fun b u xs q => by rw [upd_ne (ne_of_none q hn)]; exact q
  tbls := fun b ps q => ⟨#[], by rw [upd_ne (ne_of_none q hn), q]; simp⟩
theorem Un.write (mu : Mut (H x)) (he : e = x ∨ H e = some (.own x)) (k : ∀ b u, b ≠ e → h.get? b = some u → h'.get? b = some u) (heo : ∃ u, h'.get? e = some u) : Un fs ex H (upd H x o) h h' := by
  have hx : ∀ b, H b = none → b ≠ x := fun b n z => by subst z; rw [n] at mu; exact mu
  have hb : ∀ b, H b = none → b ≠ e := fun b n z => by
    subst z
    rcases he with r | r
    · exact hx b n r
    · rw [n] at r; cases r
  have hm : ∀ b u, H b = some u → ¬ Mut (some u) → b ≠ x := fun b u q nm z => by subst z; rw [q] at mu; exact nm mu
  refine ⟨fun b u q n _ _ => k b u (hb b n) q, fun b u q n _ _ => ⟨u.slots, k b u (hb b n) q⟩, fun b u q n _ => by rw [upd_ne (hx b n)]; exact n, fun b u q _ => ?_,
    fun b xs q => by rw [upd_ne (hm b _ q fun z => z)]; exact q, fun b u xs q => by rw [upd_ne (hm b _ q fun z => z)]; exact q, fun b ps q => ⟨#[], by rw [upd_ne (hm b _ q fun z => z), q]; simp⟩⟩
  by_cases hbe : b = e
  · subst hbe; exact heo
  · exact ⟨u, k b u hbe q⟩
theorem Un.mono (u : Un fs ex H H1 h h1) (hs : ∀ b ∈ fs, b ∈ fs') (hx : ∀ b ∈ ex, b ∈ ex') : Un fs' ex' H H1 h h1 :=
  ⟨fun b ob q n hb he => u.keep b ob q n (fun z => hb (hs b z)) fun z => he (hx b z), fun _ _ q n _ he => u.any q n fun z => he (hx _ z), fun b ob q n he => u.free b ob q n fun z => he (hx b z), fun b ob q he => u.there b ob q fun z => he (hx b z), u.tups, u.frzs, u.tbls⟩
end

/-! ### the heap without what is tracked -/
noncomputable def trk (h : Heap) (H : Hp) : List Addr := (List.range h.objs.size).filter fun a => (H a).isSome
noncomputable def hidT (h : Heap) (H : Hp) : Heap := PySem.W.hideAll h (trk h H)
theorem hidT_size (h : Heap) (H : Hp) : (hidT h H).objs.size = h.objs.size := PySem.W.hideAll_size _ _
theorem hidT_get {h : Heap} {H : Hp} {b : Addr} {o : Obj} (e : h.get? b = some o) (n : H b = none) : (hidT h H).get? b = some o :=
  PySem.W.hideAll_get _ e fun hm => by
    have q : (H b).isSome = true := (List.mem_filter.mp hm).2
    rw [n] at q; simp at q
theorem of_hidT {h : Heap} {H : Hp} {b : Addr} {o : Obj} (e : (hidT h H).get? b = some o) : h.get? b = some o ∧ H b = none := by
  have e' : h.get? b = some o := PySem.W.of_hideAll (trk h H) e
  refine ⟨e', ?_⟩
  cases q : H b with
  | none => rfl
  | some x =>
    have hm : b ∈ trk h H := List.mem_filter.mpr ⟨List.mem_range.mpr (Heap.lt_size e'), by simp [q]⟩
    have z : (hidT h H).get? b = none := PySem.W.hideAll_none (trk h H) hm
    rw [z] at e; cases e

/-! ### OpenK's ledger, filled with every new object but one -/
end L2

namespace L2
open PySem PySem.Spec PyProof.Rows

/-- the module's facts, over the base: the heap at the law's entry without what is tracked there -/
structure Mod (K : PySem.W.Frag) (mg : Str → Option Value) (base : Heap) : Prop where
  kin : K.In base
  glob : base.Ns mainGlobals mg
  blt : ∃ mb, base.Ns builtinsNs mb ∧ ∀ x : Str, x ≠ "__name__" → mb x = bootBuiltins x
  nolimit : base.NoLimit

/-- the context: a def's body (or a comprehension's block) running. base: fixed through the whole law; s₀, H₀: the entry; outer: the frames whose slots others may change (a def's callers); stack: all frames that run;
   ex: iterators that were made ahead of the entry and are walked here (a comprehension's); fn: the names whose cells were made at the entry (a def: all; a comprehension's block: its own); calm: not within an except suite; pn: pins that every state bears; xe: what is wanted of an exception that leaves the code -/
structure Cx where
  prog : Program
  w : World
  K : PySem.W.Frag
  mg : Str → Option Value
  base : Heap
  A : Around
  N : List Str
  s₀ : Shared
  H₀ : Hp
  env : Env
  outer : List Env
  stack : List Env
  ex : List Addr
  fn : Str → Bool
  calm : Bool
  pn : List (Addr × Obj)
  xe : Value → Shared → Prop
/-- the callers' frames -/
noncomputable def frs (l : List Env) : List Addr := l.filterMap (·.frame)
noncomputable abbrev Cx.fs (X : Cx) : List Addr := frs X.outer

noncomputable def Vis (sc : Scope) (x : Str) : Prop := sc.names.lookup x = some .local ∨ sc.names.lookup x = some .cell ∨ sc.names.lookup x = some .free
noncomputable def Loc (sc : Scope) (x : Str) : Prop := sc.names.lookup x = some .local ∨ sc.names.lookup x = some .cell
noncomputable def Look (env : Env) (h : Heap) (m : Str → Option Value) (x : Str) (u : Value) : Prop :=
  (env.kindOf x = some .local ∧ m x = some u) ∨ ((env.kindOf x = some .cell ∨ env.kindOf x = some .free) ∧ ∃ c, env.cells.lookup x = some c ∧ h.IsCell c (some u))

structure Cx.Ok (X : Cx) : Prop where
  mod : Mod X.K X.mg X.base
  kind : X.env.scope.kind = .function
  glob : X.env.globals = mainGlobals
  blt : X.env.builtins = builtinsNs
  above : X.s₀.heap.objs.size ≤ X.env.locals
  inj : ∀ x y c, X.env.cells.lookup x = some c → X.env.cells.lookup y = some c → x = y
  has : ∀ x, (X.env.kindOf x = some .cell ∨ X.env.kindOf x = some .free) → ∃ c, X.env.cells.lookup x = some c
  cab : ∀ x c, X.fn x = true → X.env.cells.lookup x = some c → X.s₀.heap.objs.size ≤ c
  hd : X.calm = true → X.A.handled = none
  frames : X.A.frames = some X.stack
  stk : X.stack = X.outer ∨ (X.stack = X.env :: X.outer ∧ X.env.frame = some X.env.locals)
  exf : ∀ b ∈ X.ex, b ≠ X.env.locals ∧ ∀ x c, X.env.cells.lookup x = some c → c ≠ b
  bs : ∀ b o, X.base.get? b = some o → X.s₀.heap.get? b = some o ∧ X.H₀ b = none
  bsz : X.base.objs.size ≤ X.s₀.heap.objs.size
  noex : ∀ b o, X.base.get? b = some o → b ∉ X.ex
  exfs : ∀ b ∈ X.ex, b ∉ X.fs
  funs : X.s₀.heap.FunFrames X.base X.outer
  frf : ∀ b ∈ X.fs, X.H₀ b = none

structure Inv (X : Cx) (pins : List (Addr × Obj)) (σ : List (Option V)) (H : Hp) (s : Shared) : Prop where
  ok : X.Ok
  os : s.os = X.s₀.os
  bare : AllBare s.gens
  base : Un X.fs X.ex X.H₀ H X.s₀.heap s.heap
  loc : ∃ m, s.heap.Ns X.env.locals m ∧ ∀ (i : Nat) (x : Str) (v : V), X.N[i]? = some x → σ[i]? = some (some v) → Vis X.env.scope x → ∃ u, RelV v u ∧ Look X.env s.heap m x u
  cell : ∀ x c, X.env.cells.lookup x = some c → ∃ v, s.heap.IsCell c v
  free : H X.env.locals = none
  freeC : ∀ x c, X.env.cells.lookup x = some c → H c = none
  pin : ∀ p ∈ X.pn ++ pins, s.heap.get? p.1 = some p.2 ∧ H p.1 = none ∧ p.1 ≠ X.env.locals ∧ p.1 ∉ X.fs ∧ ∀ v, p.2.data ≠ .cell v
  hok : HOk X.prog X.w H s.heap
  len : σ.length = X.N.length

section
variable {X : Cx} {pins : List (Addr × Obj)} {σ : List (Option V)} {H H' : Hp} {s : Shared} {h' : Heap}

theorem Cx.Ok.nofr (ok : X.Ok) {b : Addr} {o : Obj} (e : X.base.get? b = some o) : b ∉ X.fs := fun hb => by
  have := (ok.funs.mem hb).1
  rw [e] at this; cases this
theorem Inv.bs (I : Inv X pins σ H s) : ∀ b o, X.base.get? b = some o → s.heap.get? b = some o ∧ H b = none := fun b o e =>
  ⟨I.base.keep b o (I.ok.bs b o e).1 (I.ok.bs b o e).2 (I.ok.nofr e) (I.ok.noex b o e), I.base.free b o (I.ok.bs b o e).1 (I.ok.bs b o e).2 (I.ok.noex b o e)⟩
theorem Inv.bk (I : Inv X pins σ H s) : ∀ b o, X.base.get? b = some o → s.heap.get? b = some o := fun b o e => (I.bs b o e).1
theorem Inv.mod (I : Inv X pins σ H s) : Mod X.K X.mg X.base := I.ok.mod
theorem Inv.kIn (I : Inv X pins σ H s) : X.K.In s.heap := I.ok.mod.kin.keeps I.bk
theorem Inv.lt (I : Inv X pins σ H s) : X.env.locals < s.heap.objs.size := let ⟨_, hn, _⟩ := I.loc; hn.lt
theorem Inv.sz (I : Inv X pins σ H s) : X.s₀.heap.objs.size ≤ s.heap.objs.size := Nat.le_trans I.ok.above (Nat.le_of_lt I.lt)
theorem Inv.nofs (I : Inv X pins σ H s) {a : Addr} (h : s.heap.objs.size ≤ a) : a ∉ X.fs := fun hb => by
  obtain ⟨_, o, ho, _⟩ := I.ok.funs.mem hb
  exact absurd (Nat.lt_of_lt_of_le (Heap.lt_size ho) (Nat.le_trans I.sz h)) (Nat.lt_irrefl _)
theorem Inv.cne (I : Inv X pins σ H s) : ∀ x c, X.env.cells.lookup x = some c → c ≠ X.env.locals := fun x c e z => by
  obtain ⟨v, o, ho, hd⟩ := I.cell x c e
  obtain ⟨m, ⟨o', es, ep, ho', hd', _⟩, _⟩ := I.loc
  rw [z, ho'] at ho; cases ho; rw [hd'] at hd; cases hd
theorem Inv.funs (I : Inv X pins σ H s) : s.heap.FunFrames X.base X.outer := by
  have all : ∀ (l : List Env), (∀ b ∈ frs l, b ∈ X.fs) → X.s₀.heap.FunFrames X.base l → s.heap.FunFrames X.base l := by
    intro l
    induction l with
    | nil => intro _ _; trivial
    | cons env r ih =>
      intro hs hl
      obtain ⟨hk, ⟨L, o, hf, hn, ho, hd⟩, hr⟩ := hl
      have hL : L ∈ X.fs := hs L (by unfold frs; rw [List.filterMap_cons, hf]; exact List.mem_cons_self)
      obtain ⟨sl, e⟩ := I.base.slot L o ho (I.ok.frf L hL) hL fun z => I.ok.exfs L z hL
      exact ⟨hk, ⟨L, _, hf, hn, e, hd⟩, ih (fun b hb => hs b (by unfold frs; rw [List.filterMap_cons, hf]; exact List.mem_cons_of_mem _ hb)) hr⟩
  exact all X.outer (fun _ hb => hb) I.ok.funs

/-- the frames that run, for a call -/
theorem Inv.stack (I : Inv X pins σ H s) : s.heap.FunFrames X.base X.stack := by
  rcases I.ok.stk with e | ⟨e, hf⟩
  · rw [e]; exact I.funs
  · rw [e]
    obtain ⟨m, hn, _⟩ := I.loc
    refine .cons (by rw [I.ok.kind]; decide) hf hn ?_ I.funs
    exact Heap.get?_none_of_le (Nat.le_trans I.ok.bsz I.ok.above)
theorem Inv.stkSub (I : Inv X pins σ H s) : ∀ b ∈ frs X.stack, b ∈ X.env.locals :: X.fs := fun b hb => by
  rcases I.ok.stk with e | ⟨e, hf⟩
  · rw [e] at hb; exact List.mem_cons_of_mem _ hb
  · rw [e] at hb
    unfold frs at hb
    rw [List.filterMap_cons, hf] at hb
    exact hb
theorem Inv.stkFree (I : Inv X pins σ H s) : ∀ b ∈ frs X.stack, H b = none := fun b hb => by
  rcases List.mem_cons.mp (I.stkSub b hb) with e | hb
  · rw [e]; exact I.free
  · obtain ⟨_, o, ho, _⟩ := I.ok.funs.mem hb
    exact I.base.free b o ho (I.ok.frf b hb) fun z => I.ok.exfs b z hb

/-- THE STEP: the untracked objects but the frame and the records at ch are kept (the callers' frames up to slots), the frame's map is kept, the new abstract heap is held -/
theorem Inv.step {g' : Array GenState} {t' : Nat} {d' : Drawn} {ch : List Addr} (I : Inv X pins σ H s)
    (hch : ∀ b ∈ ch, (b ∈ X.ex ∨ X.s₀.heap.objs.size ≤ b) ∧ b ≠ X.env.locals ∧ (∀ x c, X.env.cells.lookup x = some c → c ≠ b) ∧ ∀ p ∈ X.pn ++ pins, p.1 ≠ b)
    (keep : ∀ b o, b ≠ X.env.locals → b ∉ X.fs → b ∉ ch → s.heap.get? b = some o → H b = none → h'.get? b = some o)
    (slot : ∀ b o, b ≠ X.env.locals → b ∈ X.fs → b ∉ ch → s.heap.get? b = some o → H b = none → ∃ sl, h'.get? b = some { o with slots := sl }) (free : ∀ b o, b ∉ ch → s.heap.get? b = some o → H b = none → H' b = none)
    (there : ∀ b o, b ∉ ch → s.heap.get? b = some o → ∃ o', h'.get? b = some o')
    (tups : ∀ b xs, H b = some (.tup xs) → H' b = some (.tup xs)) (frzs : ∀ b o u, H b = some (.frz o u) → H' b = some (.frz o u)) (tbls : ∀ b ps, H b = some (.tbl ps) → ∃ more, H' b = some (.tbl (ps ++ more)))
    (ns : ∀ m, s.heap.Ns X.env.locals m → h'.Ns X.env.locals m) (hok : HOk X.prog X.w H' h') (hg : AllBare g') :
    Inv X pins σ H' { s with heap := h', gens := g', drawn := d', toks := t' } := by
  have neL : ∀ b o, X.s₀.heap.get? b = some o → b ≠ X.env.locals := fun b o e => Nat.ne_of_lt (Nat.lt_of_lt_of_le (Heap.lt_size e) I.ok.above)
  have neC : ∀ b o, X.s₀.heap.get? b = some o → b ∉ X.ex → b ∉ ch := fun b o e hx hb => by
    rcases (hch b hb).1 with z | z
    · exact hx z
    · exact absurd (Nat.lt_of_lt_of_le (Heap.lt_size e) z) (Nat.lt_irrefl _)
  have cellK : ∀ x c, X.env.cells.lookup x = some c → ∀ v, s.heap.IsCell c v → h'.IsCell c v := fun x c e v ⟨o, ho, hd⟩ => by
    have nch : c ∉ ch := fun z => (hch c z).2.2.1 x c e rfl
    by_cases hc : c ∈ X.fs
    · obtain ⟨sl, q⟩ := slot c o (I.cne x c e) hc nch ho (I.freeC x c e)
      exact ⟨_, q, hd⟩
    · exact ⟨o, keep c o (I.cne x c e) hc nch ho (I.freeC x c e), hd⟩
  refine ⟨I.ok, I.os, hg, ⟨fun b o e n hb hx => ?_, fun b o e n hb hx => ?_, fun b o e n hx => ?_, fun b o e hx => ?_, fun b xs e => tups b xs (I.base.tups b xs e), fun b o xs e => frzs b o xs (I.base.frzs b o xs e), fun b ps e => ?_⟩, ?_, fun x c e => ?_, ?_, fun x c e => ?_, fun p hp => ?_, hok, I.len⟩
  · exact keep b o (neL b o e) hb (neC b o e hx) (I.base.keep b o e n hb hx) (I.base.free b o e n hx)
  · obtain ⟨sl, e1⟩ := I.base.slot b o e n hb hx
    obtain ⟨sl', e2⟩ := slot b _ (neL b o e) hb (neC b o e hx) e1 (I.base.free b o e n hx)
    exact ⟨sl', e2⟩
  · obtain ⟨o', e1⟩ := I.base.there b o e hx
    exact free b o' (neC b o e hx) e1 (I.base.free b o e n hx)
  · obtain ⟨o', e1⟩ := I.base.there b o e hx
    exact there b o' (neC b o e hx) e1
  · obtain ⟨m1, e1⟩ := I.base.tbls b ps e
    obtain ⟨m2, e2⟩ := tbls b _ e1
    exact ⟨m1 ++ m2, by rw [e2, Array.append_assoc]⟩
  · obtain ⟨m, hn, hl⟩ := I.loc
    refine ⟨m, ns m hn, fun i x v e1 e2 e3 => ?_⟩
    obtain ⟨u, r, l⟩ := hl i x v e1 e2 e3
    refine ⟨u, r, ?_⟩
    rcases l with l | ⟨k, c, e, z⟩
    · exact .inl l
    · exact .inr ⟨k, c, e, cellK x c e _ z⟩
  · obtain ⟨v, z⟩ := I.cell x c e
    exact ⟨v, cellK x c e v z⟩
  · obtain ⟨m, ⟨o, _, _, ho, _⟩, _⟩ := I.loc
    exact free _ o (fun z => (hch _ z).2.1 rfl) ho I.free
  · obtain ⟨v, o, ho, hd⟩ := I.cell x c e
    exact free c o (fun z => (hch c z).2.2.1 x c e rfl) ho (I.freeC x c e)
  · obtain ⟨e, n, ne, nf, d⟩ := I.pin p hp
    have nch : p.1 ∉ ch := fun z => (hch p.1 z).2.2.2 p hp rfl
    exact ⟨keep p.1 p.2 ne nf nch e n, free p.1 p.2 nch e n, ne, nf, d⟩
/-- .. where the frame's own object is kept too -/
theorem Inv.un {t' : Nat} (I : Inv X pins σ H s) (u : Un X.fs [] H H' s.heap h') (hok : HOk X.prog X.w H' h') : Inv X pins σ H' { s with heap := h', toks := t' } := by
  obtain ⟨m, ⟨o, es, ep, ho, r⟩, _⟩ := id I.loc
  obtain ⟨sl, hL⟩ := u.any ho I.free (by simp)
  exact I.step (g' := s.gens) (d' := s.drawn) (ch := []) (fun _ z => nomatch z) (fun b o _ hb _ e n => u.keep b o e n hb (by simp)) (fun b o _ hb _ e n => u.slot b o e n hb (by simp)) (fun b o _ e n => u.free b o e n (by simp)) (fun b o _ e => u.there b o e (by simp)) u.tups u.frzs u.tbls (fun m' hm => by
    obtain ⟨o', es', ep', ho', r'⟩ := hm
    rw [ho] at ho'; cases ho'
    exact ⟨_, es', ep', hL, r'⟩) hok I.bare
/-- behind a call (or a comprehension's block): the slots of this frame may have changed too, the records at ch may have turned -/
theorem Inv.call {g' : Array GenState} {t' : Nat} {d' : Drawn} {ch : List Addr} (I : Inv X pins σ H s) (u : Un (frs X.stack) ch H H' s.heap h') (hok : HOk X.prog X.w H' h') (hg : AllBare g')
    (hch : ∀ b ∈ ch, (b ∈ X.ex ∨ X.s₀.heap.objs.size ≤ b) ∧ b ≠ X.env.locals ∧ (∀ x c, X.env.cells.lookup x = some c → c ≠ b) ∧ ∀ p ∈ X.pn ++ pins, p.1 ≠ b) :
    Inv X pins σ H' { s with heap := h', gens := g', drawn := d', toks := t' } := by
  obtain ⟨m, ⟨o, es, ep, ho, r⟩, _⟩ := id I.loc
  obtain ⟨sl, hL⟩ := u.any ho I.free fun z => (hch _ z).2.1 rfl
  exact I.step (ch := ch) hch (fun b o hL hb hc e n => u.keep b o e n (fun z => (List.mem_cons.mp (I.stkSub b z)).elim hL hb) hc) (fun b o _ _ hc e n => u.any e n hc) (fun b o hc e n => u.free b o e n hc) (fun b o hc e => u.there b o e hc) u.tups u.frzs u.tbls (fun m' hm => by
    obtain ⟨o', es', ep', ho', r'⟩ := hm
    rw [ho] at ho'; cases ho'
    exact ⟨_, es', ep', hL, r'⟩) hok hg
/-- an untracked record of ours (an iterator) has turned -/
theorem Inv.turned {t' : Nat} {it : Addr} (I : Inv X pins σ H s) (k : ∀ b o, b ≠ it → s.heap.get? b = some o → h'.get? b = some o) (hn : H it = none) (hL : it ≠ X.env.locals)
    (h1 : it ∈ X.ex ∨ X.s₀.heap.objs.size ≤ it) (h2 : ∀ x c, X.env.cells.lookup x = some c → c ≠ it) (h3 : ∀ p ∈ X.pn ++ pins, p.1 ≠ it) : Inv X pins σ H { s with heap := h', toks := t' } := by
  have nit : ∀ b u, H b = some u → b ≠ it := fun b u e z => by rw [z, hn] at e; cases e
  refine I.step (g' := s.gens) (d' := s.drawn) (ch := [it]) (fun b hb => ?_) (fun b o _ _ hc e _ => k b o (fun z => hc (by simp [z])) e) (fun b o _ _ hc e _ => ⟨o.slots, k b o (fun z => hc (by simp [z])) e⟩) (fun _ _ _ _ n => n)
    (fun b o hc e => ⟨o, k b o (fun z => hc (by simp [z])) e⟩) (fun _ _ e => e) (fun _ _ _ e => e) (fun b ps e => ⟨#[], by rw [e]; simp⟩) (fun m hm => ?_) (fun b u e => ?_) I.bare
  · have e : b = it := by simpa using hb
    subst e
    exact ⟨h1, hL, h2, h3⟩
  · obtain ⟨o, es, ep, ho, r⟩ := hm
    exact ⟨o, es, ep, k _ o (Ne.symm hL) ho, r⟩
  · refine (I.hok b u e).stay (fun c v hc q => k c v ?_ q) (fun _ q => q) fun _ _ q => q
    rcases hc with z | z
    · rw [z]; exact nit b u e
    · exact nit c _ z
theorem Inv.tok (I : Inv X pins σ H s) (t : Nat) : Inv X pins σ H { s with toks := t } := I.un (h' := s.heap) (t' := t) Un.refl I.hok
/-- all objects kept -/
theorem Inv.kept {t' : Nat} (I : Inv X pins σ H s) (k : ∀ b u, s.heap.get? b = some u → h'.get? b = some u) : Inv X pins σ H { s with heap := h', toks := t' } := I.un (Un.kept k) (I.hok.kept k)
/-- a new object laid and tracked -/
theorem Inv.laid {a : Addr} {o : HO} {t' : Nat} (I : Inv X pins σ H s) (k : ∀ b u, s.heap.get? b = some u → h'.get? b = some u) (hp : s.heap.objs.size ≤ a) (new : ObjOk X.prog X.w (upd H a o) h' a o) :
    Inv X pins σ (upd H a o) { s with heap := h', toks := t' } := I.un (Un.laid k hp (I.hok.fresh hp)) (I.hok.laid k hp new)
/-- an object written -/
theorem Inv.write {x e : Addr} {o : HO} {t' : Nat} (I : Inv X pins σ H s) (mu : Mut (H x)) (he : e = x ∨ H e = some (.own x)) (k : ∀ b u, b ≠ e → s.heap.get? b = some u → h'.get? b = some u) (heo : ∃ u, h'.get? e = some u)
    (new : ObjOk X.prog X.w (upd H x o) h' x o) : Inv X pins σ (upd H x o) { s with heap := h', toks := t' } := I.un (Un.write mu he k heo) (I.hok.write mu he k heo new)
theorem Inv.pins_of {pins' : List (Addr × Obj)} (I : Inv X pins σ H s) (h : ∀ p ∈ pins', s.heap.get? p.1 = some p.2 ∧ H p.1 = none ∧ p.1 ≠ X.env.locals ∧ p.1 ∉ X.fs ∧ ∀ v, p.2.data ≠ .cell v) : Inv X pins' σ H s :=
  ⟨I.ok, I.os, I.bare, I.base, I.loc, I.cell, I.free, I.freeC, fun p hp => (List.mem_append.mp hp).elim (fun z => I.pin p (List.mem_append_left _ z)) (h p), I.hok, I.len⟩

theorem nodup_ix {N : List Str} (hN : N.Nodup) {i j : Nat} {x : Str} (a : N[i]? = some x) (b : N[j]? = some x) : i = j := by
  obtain ⟨h1, e1⟩ := List.getElem?_eq_some_iff.mp a
  obtain ⟨h2, e2⟩ := List.getElem?_eq_some_iff.mp b
  exact (List.getElem_inj hN).mp (e1.trans e2.symm)

/-- a name is stored; what changed -/
theorem store_ok2 {M : Model} {A : Around} {E : Value → Shared → Prop} {i : Nat} {x : Str} {v : V} {u : Value} {Q : Unit → Shared → Prop} (I : Inv X pins σ H s) (hN : X.N.Nodup) (hi : X.N[i]? = some x) (hx : Loc X.env.scope x) (r : RelV v u)
    (h : ∀ s', Inv X pins (σ.set i (some v)) H s' → (∃ a, Heap.SameBut a s.heap s'.heap ∧ (a = X.env.locals ∨ X.env.cells.lookup x = some a)) → Q () s') (hf : X.fn x = true ∨ X.env.scope.names.lookup x = some .local := by first | exact .inl rfl | exact .inr rfl | assumption) : wpAny M A (storeName X.env x u) Q E s := by
  obtain ⟨m, hn, hl⟩ := id I.loc
  have hcls : (X.env.scope.kind == .class || (X.env.scope.kind == .module && X.env.locals != X.env.globals)) = false := by rw [I.ok.kind]; rfl
  have hiσ : i < σ.length := by rw [I.len]; exact (List.getElem?_eq_some_iff.mp hi).1
  have cne := I.cne
  have tracked : ∀ {a : Addr} {h' : Heap}, (∃ o, s.heap.get? a = some o ∧ H a = none) → Heap.SameBut a s.heap h' → HOk X.prog X.w H h' := fun {a h'} ha hs b ob e => by
    obtain ⟨_, _, hfree⟩ := ha
    refine (I.hok b ob e).stay (fun c w' hc q => (hs.2 c ?_).trans q) (fun _ q => q) fun _ _ q => q
    rintro rfl
    rcases hc with rfl | hc
    · rw [hfree] at e; cases e
    · rw [hfree] at hc; cases hc
  rcases hx with hk | hk
  · refine wpAny_storeName_local hk hn (fun h' hn' hs => ?_) hcls
    obtain ⟨oL, _, _, hoL, _⟩ := id hn
    refine h _ ⟨I.ok, I.os, I.bare, ⟨fun b o e n hb hx => ?_, fun b o e n hb hx => ?_, I.base.free, fun b o e hx => ?_, I.base.tups, I.base.frzs, I.base.tbls⟩, ⟨_, hn', fun j y v' e1 e2 e3 => ?_⟩, fun y c e => ?_, I.free, I.freeC, fun p hp => ?_, tracked ⟨oL, hoL, I.free⟩ hs, by simpa using I.len⟩ ⟨_, hs, .inl rfl⟩
    · exact (hs.2 b (Nat.ne_of_lt (Nat.lt_of_lt_of_le (Heap.lt_size e) I.ok.above))).trans (I.base.keep b o e n hb hx)
    · obtain ⟨sl, e1⟩ := I.base.slot b o e n hb hx
      exact ⟨sl, (hs.2 b (Nat.ne_of_lt (Nat.lt_of_lt_of_le (Heap.lt_size e) I.ok.above))).trans e1⟩
    · obtain ⟨o', e1⟩ := I.base.there b o e hx
      exact ⟨o', (hs.2 b (Nat.ne_of_lt (Nat.lt_of_lt_of_le (Heap.lt_size e) I.ok.above))).trans e1⟩
    · by_cases hj : j = i
      · subst hj
        rw [hi] at e1; cases e1
        rw [List.getElem?_set_self hiσ] at e2
        cases e2
        exact ⟨u, r, .inl ⟨hk, by simp⟩⟩
      · rw [List.getElem?_set_ne (Ne.symm hj)] at e2
        obtain ⟨u', r', q⟩ := hl j y v' e1 e2 e3
        refine ⟨u', r', ?_⟩
        rcases q with ⟨k, e⟩ | ⟨k, c, e, z⟩
        · refine .inl ⟨k, ?_⟩
          have : y ≠ x := fun e => hj (nodup_ix hN e1 (e ▸ hi))
          simp [this, e]
        · exact .inr ⟨k, c, e, z.sameBut hs (cne y c e)⟩
    · obtain ⟨w', z⟩ := I.cell y c e
      exact ⟨w', z.sameBut hs (cne y c e)⟩
    · obtain ⟨e, n, ne, nf, d⟩ := I.pin p hp
      exact ⟨(hs.2 p.1 ne).trans e, n, ne, nf, d⟩
  · have hfn : X.fn x = true := by
      rcases hf with z | z
      · exact z
      · rw [z] at hk; cases hk
    obtain ⟨c, hc⟩ := I.ok.has x (.inl hk)
    obtain ⟨w', z⟩ := I.cell x c hc
    refine wpAny_storeName_cell I.ok.kind hk hc z (fun h' hc' hs => ?_)
    obtain ⟨oc, hoc, hocd⟩ := id z
    refine h { s with heap := h' } ⟨I.ok, I.os, I.bare, ⟨fun b o e n hb hx => ?_, fun b o e n hb hx => ?_, I.base.free, fun b o e hx => ?_, I.base.tups, I.base.frzs, I.base.tbls⟩, ⟨m, hn.sameBut hs (Ne.symm (cne x c hc)), fun j y v' e1 e2 e3 => ?_⟩, fun y c' e => ?_, I.free, I.freeC, fun p hp => ?_, tracked ⟨oc, hoc, I.freeC x c hc⟩ hs, by simpa using I.len⟩ ⟨c, hs, .inr hc⟩
    · exact (hs.2 b (Nat.ne_of_lt (Nat.lt_of_lt_of_le (Heap.lt_size e) (I.ok.cab x c hfn hc)))).trans (I.base.keep b o e n hb hx)
    · obtain ⟨sl, e1⟩ := I.base.slot b o e n hb hx
      exact ⟨sl, (hs.2 b (Nat.ne_of_lt (Nat.lt_of_lt_of_le (Heap.lt_size e) (I.ok.cab x c hfn hc)))).trans e1⟩
    · obtain ⟨o', e1⟩ := I.base.there b o e hx
      exact ⟨o', (hs.2 b (Nat.ne_of_lt (Nat.lt_of_lt_of_le (Heap.lt_size e) (I.ok.cab x c hfn hc)))).trans e1⟩
    · by_cases hj : j = i
      · subst hj
        rw [hi] at e1; cases e1
        rw [List.getElem?_set_self hiσ] at e2
        cases e2
        exact ⟨u, r, .inr ⟨.inl hk, c, hc, hc'⟩⟩
      · rw [List.getElem?_set_ne (Ne.symm hj)] at e2
        obtain ⟨u', r', q⟩ := hl j y v' e1 e2 e3
        refine ⟨u', r', ?_⟩
        rcases q with q | ⟨k, c', e, z'⟩
        · exact .inl q
        · refine .inr ⟨k, c', e, z'.sameBut hs ?_⟩
          rintro rfl
          exact hj (nodup_ix hN e1 (I.ok.inj _ _ _ e hc ▸ hi))
    · by_cases hcc : c' = c
      · subst hcc; exact ⟨_, hc'⟩
      · obtain ⟨w2, z2⟩ := I.cell y c' e
        exact ⟨w2, z2.sameBut hs hcc⟩
    · obtain ⟨e, n, ne, nf, d⟩ := I.pin p hp
      refine ⟨(hs.2 p.1 ?_).trans e, n, ne, nf, d⟩
      intro q
      rw [q, hoc] at e
      have q' : oc = p.2 := Option.some.inj e
      exact d w' (by rw [← q']; exact hocd)
theorem store_ok {M : Model} {A : Around} {E : Value → Shared → Prop} {i : Nat} {x : Str} {v : V} {u : Value} {Q : Unit → Shared → Prop} (I : Inv X pins σ H s) (hN : X.N.Nodup) (hi : X.N[i]? = some x) (hx : Loc X.env.scope x) (r : RelV v u)
    (h : ∀ s', Inv X pins (σ.set i (some v)) H s' → Q () s') (hf : X.fn x = true ∨ X.env.scope.names.lookup x = some .local := by first | exact .inl rfl | exact .inr rfl | assumption) : wpAny M A (storeName X.env x u) Q E s :=
  store_ok2 I hN hi hx r (fun s' I' _ => h s' I') hf
/-- behind a call or a block, the state as it is -/
theorem Inv.call' {s' : Shared} {ch : List Addr} (I : Inv X pins σ H s) (ho : s'.os = s.os) (u : Un (frs X.stack) ch H H' s.heap s'.heap) (hok : HOk X.prog X.w H' s'.heap) (hg : AllBare s'.gens)
    (hch : ∀ b ∈ ch, (b ∈ X.ex ∨ X.s₀.heap.objs.size ≤ b) ∧ b ≠ X.env.locals ∧ (∀ x c, X.env.cells.lookup x = some c → c ≠ b) ∧ ∀ p ∈ X.pn ++ pins, p.1 ≠ b) : Inv X pins σ H' s' := by
  obtain ⟨h', g', d', t', o'⟩ := s'
  have e : o' = s.os := ho
  subst e
  exact I.call (g' := g') (t' := t') (d' := d') u hok hg hch
end

/-! ### the judgements -/
/-- an exception: its class, its own dict's address (where it has one), the abstract heap behind it -/
noncomputable abbrev XK := Value → Option Addr → Hp → Prop
noncomputable abbrev St := List (Option V)
noncomputable abbrev VK := V → Hp → Prop
/-- an expression's reading; a test's; an argument list's -/
noncomputable abbrev TE := St → Hp → VK → Prop
noncomputable abbrev TT := St → Hp → (Bool → Hp → Prop) → Prop
noncomputable abbrev TA := St → Hp → (List V → Hp → Prop) → Prop
/-- what is wanted behind a statement -/
structure Ends where
  nx : St → Hp → Prop
  rt : VK
  bk : St → Hp → Prop := fun _ _ => False
  ct : St → Hp → Prop := fun _ _ => False
noncomputable abbrev TS := Ends → St → Hp → Prop

noncomputable def EP (X : Cx) (pins : List (Addr × Obj)) (σ : St) (Q : VK) (u : Value) (s' : Shared) : Prop := ∃ v H', Inv X pins σ H' s' ∧ RelV v u ∧ Q v H'
noncomputable def TP (X : Cx) (pins : List (Addr × Obj)) (σ : St) (Q : Bool → Hp → Prop) (b : Bool) (s' : Shared) : Prop := ∃ H', Inv X pins σ H' s' ∧ Q b H'
noncomputable def AP (X : Cx) (pins : List (Addr × Obj)) (σ : St) (Q : List V → Hp → Prop) (us : List Value) (s' : Shared) : Prop := ∃ vs H', Inv X pins σ H' s' ∧ Vals vs us ∧ Q vs H'
noncomputable def SP (X : Cx) (pins : List (Addr × Obj)) (D : Ends) (f : Flow) (s' : Shared) : Prop :=
  match f with
  | .next => ∃ σ' H', Inv X pins σ' H' s' ∧ D.nx σ' H'
  | .brk => ∃ σ' H', Inv X pins σ' H' s' ∧ D.bk σ' H'
  | .cont => ∃ σ' H', Inv X pins σ' H' s' ∧ D.ct σ' H'
  | .ret u => ∃ v σ' H', Inv X pins σ' H' s' ∧ RelV v u ∧ D.rt v H'

noncomputable def PE (X : Cx) (e : Expr) (t : TE) : Prop :=
  ∀ (pins : List (Addr × Obj)) (s : Shared) (σ : St) (H : Hp) (Q : VK), Inv X pins σ H s → t σ H Q → wpAny (model X.prog X.w) X.A (eval e X.env) (EP X pins σ Q) X.xe s
noncomputable def PT (X : Cx) (e : Expr) (t : TT) : Prop :=
  ∀ (pins : List (Addr × Obj)) (s : Shared) (σ : St) (H : Hp) (Q : Bool → Hp → Prop), Inv X pins σ H s → t σ H Q → wpAny (model X.prog X.w) X.A (isTrue e X.env (eval e X.env)) (TP X pins σ Q) X.xe s
/-- a test whatever its 'whole' is (and, or) -/
noncomputable def PW (X : Cx) (e : Expr) (t : TT) : Prop :=
  ∀ (whole : Sem Value) (pins : List (Addr × Obj)) (s : Shared) (σ : St) (H : Hp) (Q : Bool → Hp → Prop), Inv X pins σ H s → t σ H Q → wpAny (model X.prog X.w) X.A (isTrue e X.env whole) (TP X pins σ Q) X.xe s
theorem PW.pt {X : Cx} {e : Expr} {t : TT} (h : PW X e t) : PT X e t := h _
/-- an argument list (no star), from the left -/
noncomputable def PA (X : Cx) (es : List Expr) (t : TA) : Prop :=
  ∀ (pos : Pos) (pins : List (Addr × Obj)) (s : Shared) (σ : St) (H : Hp) (Q : List V → Hp → Prop), Inv X pins σ H s → t σ H Q → wpAny (model X.prog X.w) X.A (spliced (backTo pos (starEach es X.env))) (AP X pins σ Q) X.xe s
noncomputable def PS (X : Cx) (st : Stmt) (t : TS) : Prop :=
  ∀ (pins : List (Addr × Obj)) (s : Shared) (σ : St) (H : Hp) (D : Ends), Inv X pins σ H s → t D σ H → wpAny (model X.prog X.w) X.A (exec st X.env) (SP X pins D) X.xe s
noncomputable def PSs (X : Cx) (st : List Stmt) (t : TS) : Prop :=
  ∀ (pins : List (Addr × Obj)) (s : Shared) (σ : St) (H : Hp) (D : Ends), Inv X pins σ H s → t D σ H → wpAny (model X.prog X.w) X.A (execs st X.env) (SP X pins D) X.xe s
/-- weaken the end -/
theorem thn {α : Type} {t : Sem α} {Q Q' : α → Shared → Prop} {M : Model} {A : Around} {E : Value → Shared → Prop} {s : Shared} (h : wpAny M A t Q E s) (hQ : ∀ a s, Q a s → Q' a s) : wpAny M A t Q' E s := wpAny_mono h hQ fun _ _ x => x
end L2

namespace L2
open PySem PySem.Spec PyProof.Rows
section
variable {X : Cx}

/-- two expressions in a row -/
theorem bin {a b : Expr} {ta tb : TE} (ha : PE X a ta) (hb : PE X b tb) {pins : List (Addr × Obj)} {s : Shared} {σ : St} {H : Hp} {R : V → V → Hp → Prop} (I : Inv X pins σ H s) (h : ta σ H fun x H1 => tb σ H1 fun y H2 => R x y H2)
    {α : Type} {Q : α → Shared → Prop} {f : Value → Value → Sem α}
    (hf : ∀ v u s2 x y H2, Inv X pins σ H2 s2 → RelV x v → RelV y u → R x y H2 → wpAny (model X.prog X.w) X.A (f v u) Q X.xe s2) :
    wpAny (model X.prog X.w) X.A (eval a X.env) (fun v s₁ => wpAny (model X.prog X.w) X.A (eval b X.env) (fun u s₂ => wpAny (model X.prog X.w) X.A (f v u) Q X.xe s₂) X.xe s₁) X.xe s := by
  refine thn (ha pins s σ H _ I h) fun v s1 ⟨x, H1, I1, r1, q1⟩ => ?_
  refine thn (hb pins s1 σ H1 _ I1 q1) fun u s2 ⟨y, H2, I2, r2, q2⟩ => ?_
  exact hf v u s2 x y H2 I2 r1 r2 q2

/-! ### names and constants -/
noncomputable def tVar (i : Nat) : TE := fun σ H Q => ∃ v, σ[i]? = some (some v) ∧ Q v H
noncomputable def tC (v : V) : TE := fun _ H Q => Q v H
theorem pe_var {i : Nat} {x : Str} {pos : Pos} (hN : X.N[i]? = some x) (hv : Vis X.env.scope x) (hd : (x == ("__debug__" : Str)) = false := by decide) (hcd : (x == ("__classdict__" : Str)) = false := by decide) : PE X (.Name x pos) (tVar i) := by
  intro pins s σ H Q I h
  obtain ⟨v, e, h⟩ := h
  obtain ⟨m, hn, hl⟩ := I.loc
  obtain ⟨u, r, l⟩ := hl i x v hN e hv
  have fin : EP X pins σ Q u s := ⟨v, H, I, r, h⟩
  rcases l with ⟨hk, hm⟩ | ⟨hk, c, hc, hcell⟩
  · exact wpAny_Name (wpAny_loadName_local I.ok.kind hk hn hm fin) hd
  · rcases hk with hk | hk
    · exact wpAny_Name (wpAny_loadName_cell I.ok.kind hk hc hcell fin) hd
    · exact wpAny_Name (wpAny_loadName_free I.ok.kind hk hc hcell fin hcd) hd
theorem pe_int {i j pos} : PE X (.Constant (.int i) j pos) (tC (.int i)) := fun _ _ _ H _ I h => wpAny_Constant_int ⟨.int i, H, I.tok _, ⟨_, rfl⟩, h⟩
theorem pe_bl {b j pos} : PE X (.Constant (.bool b) j pos) (tC (.bl b)) := fun _ _ _ H _ I h => Constant_bool ⟨.bl b, H, I, rfl, h⟩
theorem pe_non {j pos} : PE X (.Constant .none j pos) (tC .non) := fun _ _ _ H _ I h => Constant_none ⟨.non, H, I, rfl, h⟩
theorem pe_str {x j pos} : PE X (.Constant (.str x) j pos) (tC (.str x)) := fun _ _ _ H _ I h => Calls.Constant_str ⟨.str x, H, I.tok _, ⟨_, rfl⟩, h⟩

/-- a global name of the def -/
noncomputable def Gl (X : Cx) (x : Str) : Prop := X.env.kindOf x = some .globalImplicit
theorem ld_glob {E : Value → Shared → Prop} {pins : List (Addr × Obj)} {s : Shared} {σ : St} {H : Hp} {x : Str} {u : Value} {pos : Pos} {Q : Value → Shared → Prop} (I : Inv X pins σ H s) (hg : Gl X x) (hm : X.mg x = some u) (h : Q u s)
    (hd : (x == ("__debug__" : Str)) = false := by decide) : wpAny (model X.prog X.w) X.A (eval (.Name x pos) X.env) Q E s :=
  Calls.Name_function_global I.ok.kind hg (Calls.loadGlobal_global (by rw [I.ok.glob]; exact I.mod.glob.keeps I.bk) hm h) hd
theorem ld_blt {E : Value → Shared → Prop} {pins : List (Addr × Obj)} {s : Shared} {σ : St} {H : Hp} {x : Str} {u : Value} {pos : Pos} {Q : Value → Shared → Prop} (I : Inv X pins σ H s) (hg : Gl X x) (hm : X.mg x = none) (hv : bootBuiltins x = some u) (h : Q u s)
    (hn : x ≠ "__name__" := by decide) (hd : (x == ("__debug__" : Str)) = false := by decide) : wpAny (model X.prog X.w) X.A (eval (.Name x pos) X.env) Q E s := by
  obtain ⟨mb, h1, h2⟩ := I.mod.blt
  exact Calls.Name_function_global I.ok.kind hg (Calls.loadGlobal_builtin (by rw [I.ok.glob]; exact I.mod.glob.keeps I.bk) hm (by rw [I.ok.blt]; exact h1.keeps I.bk) ((h2 x hn).trans hv) h) hd
theorem pe_bltn {x : Str} {v : V} {u : Value} {pos : Pos} (hg : Gl X x) (hm : X.mg x = none) (hv : bootBuiltins x = some u) (r : RelV v u) (hn : x ≠ "__name__" := by decide) (hd : (x == ("__debug__" : Str)) = false := by decide) : PE X (.Name x pos) (tC v) :=
  fun _ _ _ H _ I h => ld_blt I hg hm hv ⟨v, H, I, r, h⟩ hn hd

/-! ### arithmetic -/
variable {a b : Expr} {ta tb : TE} {pos : Pos}

/-! ### comparisons -/
noncomputable def PC (X : Cx) (op : CmpOp) (a b : Expr) (t : TE) : Prop :=
  ∀ (pins : List (Addr × Obj)) (s : Shared) (σ : St) (H : Hp) (Q : VK), Inv X pins σ H s → t σ H Q →
    wpAny (model X.prog X.w) X.A (eval a X.env) (fun v s₁ => wpAny (model X.prog X.w) X.A (eval b X.env) (fun u s₂ => wpAny (model X.prog X.w) X.A (compareOp op v u) (EP X pins σ Q) X.xe s₂) X.xe s₁) X.xe s
/-- a comparison as a value, as a test -/
noncomputable def tB (t : TE) : TT := fun σ H Q => t σ H fun x H1 => ∃ c, x = .bl c ∧ Q c H1
theorem pt_cmp {op : CmpOp} {t : TE} (h : PC X op a b t) (h1 : behindInMarks op b = false := by first | exact nobehind _ (by decide) (by decide) | rfl) : PT X (.Compare a [op] [b] pos) (tB t) := by
  intro pins s σ H Q I hw
  refine wpAny_isTrue_Compare1 (thn (h pins s σ H _ I hw) fun v s1 h1 => thn h1 fun u s2 h2 => thn h2 fun c s3 ⟨x, H1, I1, r1, q1⟩ => ?_) h1
  obtain ⟨d, rfl, q⟩ := q1
  cases r1
  exact wpAny_truthy_bool ⟨H1, I1, q⟩
/-- an expression whose value is a bool, as a test -/
theorem pt_val {e : Expr} {t : TE} (h : PE X e t) (he : ∀ whole, isTrue e X.env whole = (do let v ← whole; standAt e.pos; holding [v] (truthy v)) := by intro _; rfl) : PT X e (tB t) := by
  intro pins s σ H Q I hw
  refine isTrue_plain (thn (h pins s σ H _ I hw) fun v s1 ⟨x, H1, I1, r1, q1⟩ => ?_) (he _)
  obtain ⟨d, rfl, q⟩ := q1
  cases r1
  exact wpAny_truthy_bool ⟨H1, I1, q⟩

/-! ### and, or, not -/
variable {tA tB' : TT} {rest : List Expr}
noncomputable def tAnd (t u : TT) : TT := fun σ H Q => t σ H fun c H1 => if c = true then u σ H1 Q else Q false H1
noncomputable def tOr (t u : TT) : TT := fun σ H Q => t σ H fun c H1 => if c = true then Q true H1 else u σ H1 Q
noncomputable def tNot (t : TT) : TT := fun σ H Q => t σ H fun c H1 => Q (!c) H1
theorem pw_and1 (ha : PT X a tA) : PW X (.BoolOp .And [a] pos) tA := by
  intro wh pins s σ H Q I h
  refine isTrue_and (thn (ha pins s σ H Q I h) fun c s1 e => ?_)
  cases c with
  | true => exact isTrue_and_nil e
  | false => exact e
theorem pw_or1 (ha : PT X a tA) : PW X (.BoolOp .Or [a] pos) tA := by
  intro wh pins s σ H Q I h
  refine isTrue_or (thn (ha pins s σ H Q I h) fun c s1 e => ?_)
  cases c with
  | false => exact isTrue_or_nil e
  | true => exact e
theorem pw_and (ha : PT X a tA) (hb : PW X (.BoolOp .And (b :: rest) pos) tB') : PW X (.BoolOp .And (a :: b :: rest) pos) (tAnd tA tB') := by
  intro wh pins s σ H Q I h
  refine isTrue_and (thn (ha pins s σ H _ I h) fun c s1 ⟨H1, I1, q1⟩ => ?_)
  cases c with
  | true => exact hb wh pins s1 σ H1 Q I1 q1
  | false => exact ⟨H1, I1, q1⟩
theorem pw_or (ha : PT X a tA) (hb : PW X (.BoolOp .Or (b :: rest) pos) tB') : PW X (.BoolOp .Or (a :: b :: rest) pos) (tOr tA tB') := by
  intro wh pins s σ H Q I h
  refine isTrue_or (thn (ha pins s σ H _ I h) fun c s1 ⟨H1, I1, q1⟩ => ?_)
  cases c with
  | true => exact ⟨H1, I1, q1⟩
  | false => exact hb wh pins s1 σ H1 Q I1 q1
theorem pt_not (ha : PT X a tA) : PT X (.UnaryOp .Not a pos) (tNot tA) := by
  intro pins s σ H Q I h
  exact isTrue_not (ha pins s σ H (fun c H1 => Q (!c) H1) I h)
/-- .. as values (bools) -/
noncomputable def tAndV (ta tb : TE) : TE := fun σ H Q => ta σ H fun x H1 => ∃ c, x = .bl c ∧ if c = true then tb σ H1 Q else Q (.bl false) H1
noncomputable def tNotV (ta : TE) : TE := fun σ H Q => ta σ H fun x H1 => ∃ c, x = .bl c ∧ Q (.bl (!c)) H1
theorem pe_one {op} {t : TE} (h : PE X a t) : PE X (.BoolOp op [a] pos) t := fun pins s σ H Q I hw => BoolOp_one (h pins s σ H Q I hw)
theorem pe_and (ha : PE X a ta) (hb : PE X (.BoolOp .And (b :: rest) pos) tb) : PE X (.BoolOp .And (a :: b :: rest) pos) (tAndV ta tb) := by
  intro pins s σ H Q I h
  refine BoolOp_and (thn (ha pins s σ H _ I h) fun v s1 ⟨x, H1, I1, r1, q1⟩ => ?_)
  obtain ⟨c, rfl, q1⟩ := q1
  cases r1
  refine wpAny_truthy_bool ?_
  cases c with
  | true => exact hb pins s1 σ H1 Q I1 q1
  | false => exact ⟨.bl false, H1, I1, rfl, q1⟩
theorem pe_not (ha : PE X a ta) : PE X (.UnaryOp .Not a pos) (tNotV ta) := by
  intro pins s σ H Q I h
  refine UnaryOp_ (thn (ha pins s σ H _ I h) fun v s1 ⟨x, H1, I1, r1, q1⟩ => ?_)
  obtain ⟨c, rfl, q1⟩ := q1
  cases r1
  exact not_of (wpAny_truthy_bool ⟨.bl (!c), H1, I1, rfl, q1⟩)
/-- a if t else b -/
noncomputable def tIf (t : TT) (ta tb : TE) : TE := fun σ H Q => t σ H fun c H1 => if c = true then ta σ H1 Q else tb σ H1 Q
theorem pe_ifExp {c : Expr} (hc : PT X c tA) (ha : PE X a ta) (hb : PE X b tb) : PE X (.IfExp c a b pos) (tIf tA ta tb) := by
  intro pins s σ H Q I h
  refine wpAny_IfExp (thn (hc pins s σ H _ I h) fun d s1 ⟨H1, I1, q1⟩ => ?_)
  cases d with
  | true => exact ha pins s1 σ H1 Q I1 q1
  | false => exact hb pins s1 σ H1 Q I1 q1
end
end L2

namespace L2
open PySem PySem.Spec PyProof.Rows

/-! ### a list, a tuple that is read: tracked, frozen, or an object of the module -/
noncomputable def SqL (K : PySem.W.Frag) (H : Hp) (a : Addr) (xs : List V) : Prop :=
  Rd H a (.lst xs) ∨
    ∃ (o : Obj) (its : Array Value) (n : Nat), K.lookup a = some o ∧ o.cls = .type "list" ∧ o.dict = none ∧ o.data = .seq its n ∧ its.size ≤ sizeLine ∧ Vals xs its.toList
noncomputable def SqT (K : PySem.W.Frag) (H : Hp) (a : Addr) (xs : List V) : Prop :=
  Rd H a (.tup xs) ∨
    ∃ (o : Obj) (its : Array Value) (n : Nat), K.lookup a = some o ∧ o.cls = .type "tuple" ∧ o.data = .seq its n ∧ its.size ≤ sizeLine ∧ Vals xs its.toList
noncomputable def absV : Value → Option V
  | .none => some .non
  | .bool b => some (.bl b)
  | .int i _ => some (.int i)
  | .str x _ => some (.str x)
  | .bytes b _ => some (.byt b)
  | .float b _ => some (.flt b)
  | .ref a => some (.ref a)
  | .type n => some (.ty n)
  | _ => none
theorem RelV.abs {x : V} {u : Value} (r : RelV x u) : absV u = some x := by
  cases x with
  | non => cases r; rfl
  | bl _ => cases r; rfl
  | int _ => obtain ⟨t, rfl⟩ := r; rfl
  | str _ => obtain ⟨t, rfl⟩ := r; rfl
  | byt _ => obtain ⟨t, rfl⟩ := r; rfl
  | flt _ => obtain ⟨t, rfl⟩ := r; rfl
  | ref _ => cases r; rfl
  | ty _ => cases r; rfl
theorem RelV.inj {x y : V} {u : Value} (r : RelV x u) (q : RelV y u) : x = y := Option.some.inj (r.abs.symm.trans q.abs)
theorem Vals.inj : ∀ {xs ys : List V} {us : List Value}, Vals xs us → Vals ys us → xs = ys
  | _, _, _, .nil, .nil => rfl
  | _, _, _, .cons r t, .cons r' t' => by rw [r.inj r', Vals.inj t t']
section
variable {X : Cx} {pins : List (Addr × Obj)} {σ : St} {H : Hp} {s : Shared} {a : Addr} {xs ys : List V}
theorem SqL.of {K : PySem.W.Frag} (h : H a = some (.lst xs)) : SqL K H a xs := .inl (.inl h)
theorem SqT.of {K : PySem.W.Frag} (h : H a = some (.tup xs)) : SqT K H a xs := .inl (.inl h)
theorem Inv.list (I : Inv X pins σ H s) (h : SqL X.K H a xs) : ∃ its : List Value, Vals xs its ∧ PlainL s.heap a its.toArray ∧ xs.length ≤ sizeLine := by
  rcases h with h | ⟨o, its, n, hk, hc, hd, hs, hz, r⟩
  · obtain ⟨z, its, n, r, e⟩ := h.ok I.hok
    exact ⟨its, r, ⟨_, n, e, rfl, rfl, rfl⟩, z⟩
  · refine ⟨its.toList, r, ⟨o, n, I.kIn a o hk, hc, hd, by simpa using hs⟩, ?_⟩
    have e := r.length
    simp only [Array.length_toList] at e
    omega
theorem Inv.tuple (I : Inv X pins σ H s) (h : SqT X.K H a xs) : ∃ its : List Value, Vals xs its ∧ IsTup s.heap a its.toArray ∧ xs.length ≤ sizeLine := by
  rcases h with h | ⟨o, its, n, hk, hc, hs, hz, r⟩
  · obtain ⟨z, its, r, p⟩ := h.ok I.hok
    exact ⟨its, r, p, z⟩
  · refine ⟨its.toList, r, ⟨o, I.kIn a o hk, hc, n, by simpa using hs⟩, ?_⟩
    have e := r.length
    simp only [Array.length_toList] at e
    omega
theorem Inv.list_inj (I : Inv X pins σ H s) (h : SqL X.K H a xs) (h' : SqL X.K H a ys) : xs = ys := by
  obtain ⟨its, r, ⟨o, n, e, _, _, d⟩, _⟩ := I.list h
  obtain ⟨its', r', ⟨o', n', e', _, _, d'⟩, _⟩ := I.list h'
  rw [e] at e'; cases e'
  rw [d] at d'
  injection d' with d1 _
  have : its = its' := by simpa using congrArg Array.toList d1
  subst this
  exact r.inj r'
end

/-! ### another wish about exceptions -/
noncomputable abbrev Cx.wish (X : Cx) (E : Value → Shared → Prop) : Cx := { X with xe := E }
/-- no exception leaves -/
noncomputable abbrev Cx.nox (X : Cx) : Cx := X.wish fun _ _ => False
theorem Cx.Ok.wish {X : Cx} (ok : X.Ok) (E : Value → Shared → Prop) : (X.wish E).Ok :=
  ⟨ok.mod, ok.kind, ok.glob, ok.blt, ok.above, ok.inj, ok.has, ok.cab, ok.hd, ok.frames, ok.stk, ok.exf, ok.bs, ok.bsz, ok.noex, ok.exfs, ok.funs, ok.frf⟩
theorem Cx.Ok.unwish {X : Cx} {E : Value → Shared → Prop} (ok : (X.wish E).Ok) : X.Ok :=
  ⟨ok.mod, ok.kind, ok.glob, ok.blt, ok.above, ok.inj, ok.has, ok.cab, ok.hd, ok.frames, ok.stk, ok.exf, ok.bs, ok.bsz, ok.noex, ok.exfs, ok.funs, ok.frf⟩
section
variable {X : Cx} {pins : List (Addr × Obj)} {σ : St} {H : Hp} {s : Shared} {E : Value → Shared → Prop}
theorem Inv.wish (I : Inv X pins σ H s) (E : Value → Shared → Prop) : Inv (X.wish E) pins σ H s := ⟨I.ok.wish E, I.os, I.bare, I.base, I.loc, I.cell, I.free, I.freeC, I.pin, I.hok, I.len⟩
theorem Inv.unwish (I : Inv (X.wish E) pins σ H s) : Inv X pins σ H s := ⟨I.ok.unwish, I.os, I.bare, I.base, I.loc, I.cell, I.free, I.freeC, I.pin, I.hok, I.len⟩
theorem SP.unwish {D : Ends} {f : Flow} {s' : Shared} (h : SP (X.wish E) pins D f s') : SP X pins D f s' := by
  cases f with
  | next => obtain ⟨σ', H', I, q⟩ := h; exact ⟨σ', H', I.unwish, q⟩
  | brk => obtain ⟨σ', H', I, q⟩ := h; exact ⟨σ', H', I.unwish, q⟩
  | cont => obtain ⟨σ', H', I, q⟩ := h; exact ⟨σ', H', I.unwish, q⟩
  | ret u => obtain ⟨v, σ', H', I, r, q⟩ := h; exact ⟨v, σ', H', I.unwish, r, q⟩
theorem PSs.nox {st : List Stmt} {t : TS} (h : PSs X.nox st t) : PSs X st t := fun pins s σ H D I hw =>
  wpAny_mono (h pins s σ H D (I.wish _) hw) (fun _ _ q => q.unwish) fun _ _ z => False.elim z
end

/-! ### blocks and small statements -/
section
variable {X : Cx} {st : Stmt} {rest : List Stmt} {t u : TS} {e : Expr} {te : TE} {pos : Pos}
noncomputable def tNext : TS := fun D σ H => D.nx σ H
noncomputable def tSeq (t u : TS) : TS := fun D σ H => t { D with nx := u D } σ H
theorem pss_nil : PSs X [] tNext := fun _ _ σ H _ I h => wpAny_execs_nil ⟨σ, H, I, h⟩
theorem pss_cons (h1 : PS X st t) (h2 : PSs X rest u) : PSs X (st :: rest) (tSeq t u) := by
  intro pins s σ H D I h
  refine wpAny_execs_cons (thn (h1 pins s σ H { D with nx := u D } I h) fun f s1 q => ?_)
  cases f with
  | next =>
    obtain ⟨σ', H', I', q⟩ := q
    exact h2 pins s1 σ' H' D I' q
  | ret v => exact q
  | brk => exact q
  | cont => exact q
theorem pss_one (h1 : PS X st t) : PSs X [st] t := by
  intro pins s σ H D I h
  refine wpAny_execs_cons (thn (h1 pins s σ H D I h) fun f s1 q => ?_)
  cases f with
  | next => exact wpAny_execs_nil q
  | ret v => exact q
  | brk => exact q
  | cont => exact q
/-- in a def's body nothing is shown -/
theorem Inv.quiet {pins : List (Addr × Obj)} {σ : St} {H : Hp} {s : Shared} (I : Inv X pins σ H s) : interactive X.env = false := by simp [interactive, I.ok.kind]
/-- an expression whose value is dropped -/
noncomputable def tDrop (te : TE) : TS := fun D σ H => te σ H fun _ H1 => D.nx σ H1
theorem ps_expr (he : PE X e te) (hs : swapsWith e none pos.line X.env = pure false := by rfl) : PS X (.Expr e pos) (tDrop te) := by
  intro pins s σ H D I h
  exact wpAny_Expr_any (thn (he pins s σ H _ I h) fun v s1 ⟨x, H1, I1, r1, q1⟩ => ⟨σ, H1, I1, q1⟩) I.quiet hs
noncomputable def tRet (te : TE) : TS := fun D σ H => te σ H D.rt
theorem ps_ret (he : PE X e te) : PS X (.Return (some e) pos) (tRet te) := by
  intro pins s σ H D I h
  exact wpAny_Return_some (thn (he pins s σ H _ I h) fun v s1 ⟨x, H1, I1, r1, q1⟩ => ⟨x, σ, H1, I1, r1, q1⟩)
noncomputable def tIfS (c : TT) (t u : TS) : TS := fun D σ H => c σ H fun b H1 => if b = true then t D σ H1 else u D σ H1
theorem ps_if {c : Expr} {a b : List Stmt} {tc : TT} (hc : PT X c tc) (ha : PSs X a t) (hb : PSs X b u) : PS X (.If c a b pos) (tIfS tc t u) := by
  intro pins s σ H D I h
  refine wpAny_If (thn (hc pins s σ H _ I h) fun d s1 ⟨H1, I1, q1⟩ => ?_)
  cases d with
  | true => exact ha pins s1 σ H1 D I1 q1
  | false => exact hb pins s1 σ H1 D I1 q1
end

/-! ### targets -/
noncomputable abbrev TG := V → St → Hp → (St → Hp → Prop) → Prop
noncomputable abbrev TGs := List V → St → Hp → (St → Hp → Prop) → Prop
noncomputable def PG (X : Cx) (target : Expr) (t : TG) : Prop :=
  ∀ (pins : List (Addr × Obj)) (s : Shared) (σ : St) (H : Hp) (v : V) (u : Value) (Q : St → Hp → Prop), Inv X pins σ H s → RelV v u → t v σ H Q →
    wpAny (model X.prog X.w) X.A (assign target X.env u) (fun _ s' => ∃ σ' H', Inv X pins σ' H' s' ∧ Q σ' H') X.xe s
/-- several targets, one after another -/
noncomputable def PGs (X : Cx) (ts : List Expr) (t : TGs) : Prop :=
  ∀ (pins : List (Addr × Obj)) (s : Shared) (σ : St) (H : Hp) (vs : List V) (us : List Value) (Q : St → Hp → Prop), Inv X pins σ H s → Vals vs us → t vs σ H Q →
    wpAny (model X.prog X.w) X.A (assignInOrder ((assignEach ts X.env).map (·.2)) us) (fun _ s' => ∃ σ' H', Inv X pins σ' H' s' ∧ Q σ' H') X.xe s
/-- a op= b, by values -/
noncomputable abbrev TIp := V → V → Hp → VK → Prop
noncomputable def PIp (X : Cx) (op : Operator) (t : TIp) : Prop :=
  ∀ (pins : List (Addr × Obj)) (s : Shared) (σ : St) (H : Hp) (x y : V) (v u : Value) (Q : VK), Inv X pins σ H s → RelV x v → RelV y u → t x y H Q →
    wpAny (model X.prog X.w) X.A (inplaceOp op v u) (EP X pins σ Q) X.xe s
section
variable {X : Cx} {pos : Pos}
noncomputable def gName (i : Nat) : TG := fun v σ H Q => Q (σ.set i (some v)) H
theorem pg_name {i : Nat} {x : Str} (hN : X.N.Nodup) (hi : X.N[i]? = some x) (hx : Loc X.env.scope x) (hf : X.fn x = true ∨ X.env.scope.names.lookup x = some .local := by first | exact .inl rfl | exact .inr rfl | assumption) : PG X (.Name x pos) (gName i) := by
  intro pins s σ H v u Q I r h
  exact wpAny_assign_Name (store_ok I hN hi hx r (fun s' I' => ⟨_, H, I', h⟩) hf)
noncomputable def gNil : TGs := fun vs σ H Q => vs = [] ∧ Q σ H
noncomputable def gCons (t : TG) (u : TGs) : TGs := fun vs σ H Q => ∃ v r, vs = v :: r ∧ t v σ H fun σ' H' => u r σ' H' Q
theorem pgs_nil : PGs X [] gNil := by
  intro pins s σ H vs us Q I r h
  obtain ⟨e, h⟩ := h
  subst e
  cases r
  exact assignInOrder_nil ⟨σ, H, I, h⟩
theorem pgs_cons {e : Expr} {es : List Expr} {t : TG} {u : TGs} (h1 : PG X e t) (h2 : PGs X es u)
    (hs : (assignEach (e :: es) X.env).map (·.2) = assign e X.env :: (assignEach es X.env).map (·.2) := by rfl) : PGs X (e :: es) (gCons t u) := by
  intro pins s σ H vs us Q I r h
  obtain ⟨v, vr, e1, h⟩ := h
  subst e1
  cases r with
  | cons r rr =>
    rw [hs]
    refine assignInOrder_cons (thn (h1 pins s σ H _ _ _ I r h) fun _ s1 ⟨σ1, H1, I1, q1⟩ => ?_)
    exact h2 pins s1 σ1 H1 _ _ Q I1 rr q1
/-- (a, b, ..) = a tuple of that length -/
noncomputable def gTup (K : PySem.W.Frag) (n : Nat) (t : TGs) : TG := fun v σ H Q => ∃ a xs, v = .ref a ∧ SqT K H a xs ∧ xs.length = n ∧ t xs σ H Q
theorem pg_tup {es : List Expr} {k : Nat} {t : TGs} {n : Nat} (hc : X.calm = true) (h : PGs X es t)
    (hn : (assignEach es X.env).length = n := by rfl) (hst : (assignEach es X.env).findIdx? (·.1) = none := by rfl) : PG X (.Tuple es k pos) (gTup X.K n t) := by
  intro pins s σ H v u Q I r hw
  obtain ⟨a, xs, e1, hq, hl, hw⟩ := hw
  subst e1
  cases r
  obtain ⟨its, rv, ht, hz⟩ := I.tuple hq
  refine assign_Tuple_tuple (I.ok.hd hc) ht (by simp [hn, ← hl, rv.length]) hst fun h' hx => ?_
  have I1 : Inv X pins σ H { s with heap := h' } := I.kept (t' := s.toks) fun b o e => hx b o (Nat.ne_of_lt (Heap.lt_size e)) e
  exact h pins _ σ H xs _ Q I1 (by simpa using rv) hw
/-- target = value -/
noncomputable def tAsg (te : TE) (g : TG) : TS := fun D σ H => te σ H fun x H1 => g x σ H1 D.nx
theorem ps_asg {tg e : Expr} {te : TE} {g : TG} (he : PE X e te) (hg : PG X tg g) (hs : swapsWithSole [tg] e pos.line X.env = pure false := by rfl) (hw : swappedStores [tg] e X.env = pure none := by rfl)
    (h1 : (assignEach [tg] X.env).map (·.2) = [assign tg X.env] := by rfl) : PS X (.Assign [tg] e pos) (tAsg te g) := by
  intro pins s σ H D I h
  refine wpAny_Assign_stores (thn (he pins s σ H _ I h) fun v s1 ⟨x, H1, I1, r1, q1⟩ => ?_) hs hw
  rw [h1]
  exact thn (hg pins s1 σ H1 x v _ I1 r1 q1) fun _ s2 q => q
/-- name = value -/
theorem ps_set {i : Nat} {x : Str} {e : Expr} {te : TE} {pos' : Pos} (hN : X.N.Nodup) (hi : X.N[i]? = some x) (hx : Loc X.env.scope x) (he : PE X e te) (hs : swapsWith e (some (.Name x pos')) pos.line X.env = pure false := by rfl) (hf : X.fn x = true ∨ X.env.scope.names.lookup x = some .local := by first | exact .inl rfl | exact .inr rfl | assumption) :
    PS X (.Assign [.Name x pos'] e pos) (tAsg te (gName i)) := by
  intro pins s σ H D I h
  refine wpAny_Assign_Name (thn (he pins s σ H _ I h) fun v s1 ⟨y, H1, I1, r1, q1⟩ => ?_) hs
  exact store_ok I1 hN hi hx r1 (fun s2 I2 => ⟨_, H1, I2, q1⟩) hf
/-- name op= e -/
noncomputable def tAug (i : Nat) (te : TE) (ti : TIp) : TS := fun D σ H => ∃ x, σ[i]? = some (some x) ∧ te σ H fun y H1 => ti x y H1 fun z H2 => D.nx (σ.set i (some z)) H2
theorem ps_aug {i : Nat} {x : Str} {e : Expr} {te : TE} {op : Operator} {ti : TIp} {pos' : Pos} (hN : X.N.Nodup) (hi : X.N[i]? = some x) (hx : Loc X.env.scope x) (he : PE X e te) (ho : PIp X op ti) (hf : X.fn x = true ∨ X.env.scope.names.lookup x = some .local := by first | exact .inl rfl | exact .inr rfl | assumption) :
    PS X (.AugAssign (.Name x pos') op e pos) (tAug i te ti) := by
  intro pins s σ H D I h
  obtain ⟨v, e1, h⟩ := h
  obtain ⟨m, hn, hl⟩ := I.loc
  have vis : Vis X.env.scope x := by rcases hx with k | k; exact .inl k; exact .inr (.inl k)
  obtain ⟨u, r, l⟩ := hl i x v hi e1 vis
  refine wpAny_AugAssign_Name ?_
  have go : wpAny (model X.prog X.w) X.A (eval e X.env) (fun w s₂ => wpAny (model X.prog X.w) X.A (inplaceOp op u w) (fun r s₃ => wpAny (model X.prog X.w) X.A (storeName X.env x r) (fun _ => SP X pins D .next) X.xe s₃) X.xe s₂) X.xe s := by
    refine thn (he pins s σ H _ I h) fun w s1 ⟨y, H1, I1, r1, q1⟩ => ?_
    refine thn (ho pins s1 σ H1 v y u w _ I1 r r1 q1) fun z s2 ⟨zv, H2, I2, r2, q2⟩ => ?_
    exact store_ok I2 hN hi hx r2 (fun s3 I3 => ⟨_, H2, I3, q2⟩) hf
  rcases l with ⟨hk, hm⟩ | ⟨hk, c, hc, hcell⟩
  · exact wpAny_loadName_local I.ok.kind hk hn hm go
  · rcases hk with hk | hk
    · exact wpAny_loadName_cell I.ok.kind hk hc hcell go
    · rcases hx with k | k
      · have : X.env.scope.names.lookup x = some .free := hk
        rw [k] at this; cases this
      · have : X.env.scope.names.lookup x = some .free := hk
        rw [k] at this; cases this
end

/-! ### while -/
section
variable {X : Cx} {pos : Pos}
/-- the invariant W with its measure -/
noncomputable def tWhile (c : TT) (tb : TS) : TS := fun D σ H => ∃ W : Nat → St → Hp → Prop, (∃ m, W m σ H) ∧ ∀ m σ H, W m σ H →
  c σ H fun b H1 => if b = true then ∃ N : St → Hp → Prop, (∀ σ' H', N σ' H' → ∃ m', m' < m ∧ W m' σ' H') ∧ tb { D with nx := N, ct := N, bk := D.nx } σ H1 else D.nx σ H1
theorem ps_while {c : Expr} {body : List Stmt} {tc : TT} {tb : TS} (hp : PassesOwn (model X.prog X.w) X.A X.env X.xe) (hc : PT X c tc) (hb : PSs X body tb) : PS X (.While c body [] pos) (tWhile tc tb) := by
  intro pins s σ H D I h
  obtain ⟨W, ⟨m0, w0⟩, turn⟩ := h
  refine wpAny_While (codeAny_whileLoop (fun n s' => ∃ σ' H', Inv X pins σ' H' s' ∧ W n σ' H') ?_ m0 ⟨σ, H, I, w0⟩)
  rintro n s1 ⟨σ1, H1, I1, w1⟩
  refine wpAny_passesOwn hp (thn (hc pins s1 σ1 H1 _ I1 (turn n σ1 H1 w1)) fun b s2 ⟨H2, I2, q2⟩ => ?_)
  cases b with
  | true =>
    obtain ⟨N, hN, q2⟩ := q2
    rw [if_pos rfl]
    refine wpAny_passesOwn hp (thn (hb pins s2 σ1 H2 _ I2 q2) fun f s3 q3 => ?_)
    cases f with
    | next =>
      obtain ⟨σ3, H3, I3, n3⟩ := q3
      obtain ⟨m', hm, w3⟩ := hN σ3 H3 n3
      exact ⟨m', hm, σ3, H3, I3, w3⟩
    | cont =>
      obtain ⟨σ3, H3, I3, n3⟩ := q3
      obtain ⟨m', hm, w3⟩ := hN σ3 H3 n3
      exact ⟨m', hm, σ3, H3, I3, w3⟩
    | brk => exact q3
    | ret v => exact q3
  | false =>
    rw [if_neg Bool.false_ne_true]
    exact wpAny_execs_nil ⟨σ1, H2, I2, q2⟩
end

/-! ### what a loop or a comprehension walks -/
/-- at turn i: it yields x (the heap may grow), or it stops -/
structure It where
  go : Nat → Hp → Prop
  yld : Nat → Hp → V → Hp → Prop
  stop : Nat → Hp → Prop
/-- the iterator's own objects may turn: they are not the frame's, not pinned, younger than the entry (or a comprehension's own) -/
noncomputable def FpOk (X : Cx) (pins : List (Addr × Obj)) (H : Hp) (b : Addr) : Prop :=
  H b = none ∧ b ≠ X.env.locals ∧ b ∉ X.fs ∧ (b ∈ X.ex ∨ X.s₀.heap.objs.size ≤ b) ∧ (∀ x c, X.env.cells.lookup x = some c → c ≠ b) ∧ ∀ p ∈ X.pn ++ pins, p.1 ≠ b
theorem Inv.fpOk {X : Cx} {pins : List (Addr × Obj)} {σ : St} {H H' : Hp} {s : Shared} {b : Addr} (I : Inv X pins σ H s) (hb : s.heap.objs.size ≤ b) (hn : H' b = none) : FpOk X pins H' b := by
  refine ⟨hn, Nat.ne_of_gt (Nat.lt_of_lt_of_le I.lt hb), I.nofs hb, .inr (Nat.le_trans I.sz hb), fun x c e z => ?_, fun p hp z => ?_⟩
  · obtain ⟨v, q⟩ := I.cell x c e
    exact absurd (Nat.lt_of_lt_of_le q.lt (by rw [z]; exact hb)) (Nat.lt_irrefl _)
  · exact absurd (Nat.lt_of_lt_of_le (Heap.lt_size (I.pin p hp).1) (by rw [z]; exact hb)) (Nat.lt_irrefl _)
structure Turn (P : Program) (w : World) (K : PySem.W.Frag) (tg : Expr) (J : It) (fp : List Addr) (it : Addr) (tn : Nat → Heap → Prop) : Prop where
  mem : it ∈ fp
  obj : ∀ i h, tn i h → ∀ b ∈ fp, ∃ o, h.get? b = some o ∧ ∀ v, o.data ≠ .cell v
  keep : ∀ i h h', tn i h → (∀ b ∈ fp, ∀ o, h.get? b = some o → h'.get? b = some o) → tn i h'
  item : ∀ (X : Cx), X.prog = P → X.w = w → X.K = K → X.calm = true → ∀ (i : Nat) (pins : List (Addr × Obj)) (s : Shared) (σ : St) (H : Hp) (E : Value → Shared → Prop), Inv X pins σ H s → (∀ b ∈ fp, FpOk X pins H b) → tn i s.heap → J.go i H →
    wpAny (model P w) X.A (pyNext (.ref it)) (fun r s1 => ∃ u, r = some u ∧
      wpAny (model P w) X.A (letOwnedTupleGo tg (.ref it) u) (fun _ s2 => ∃ x H', Inv X pins σ H' s2 ∧ RelV x u ∧ J.yld i H x H' ∧ tn (i + 1) s2.heap ∧ ∀ b ∈ fp, H' b = none) E s1) E s
  done : ∀ (X : Cx), X.prog = P → X.w = w → X.K = K → X.calm = true → ∀ (i : Nat) (pins : List (Addr × Obj)) (s : Shared) (σ : St) (H : Hp) (E : Value → Shared → Prop), Inv X pins σ H s → (∀ b ∈ fp, FpOk X pins H b) → tn i s.heap → J.stop i H →
    wpAny (model P w) X.A (pyNext (.ref it)) (fun r s1 => r = none ∧ Inv X pins σ H s1) E s
  self : ∀ (A : Around) (i : Nat) (s : Shared) (Q : Value → Shared → Prop) (E : Value → Shared → Prop), tn i s.heap → Q (.ref it) s → wpAny (model P w) A (pyIter (.ref it)) Q E s
noncomputable abbrev TI := St → Hp → (It → Hp → Prop) → Prop
/-- an iterator has come -/
noncomputable def PIE (X : Cx) (pins : List (Addr × Obj)) (σ : St) (tg : Expr) (R : It → Hp → Prop) (itv : Value) (s2 : Shared) : Prop :=
  ∃ (it : Addr) (fp : List Addr) (tn : Nat → Heap → Prop) (J : It) (H' : Hp), itv = .ref it ∧ Inv X pins σ H' s2 ∧ Turn X.prog X.w X.K tg J fp it tn ∧ tn 0 s2.heap ∧ (∀ b ∈ fp, FpOk X pins H' b) ∧ R J H'
noncomputable def PI (X : Cx) (tg iter : Expr) (wi : TI) : Prop :=
  ∀ (pins : List (Addr × Obj)) (s : Shared) (σ : St) (H : Hp) (R : It → Hp → Prop), Inv X pins σ H s → wi σ H R →
    wpAny (model X.prog X.w) X.A (eval iter X.env) (fun v s1 => wpAny (model X.prog X.w) X.A (pyIter v) (PIE X pins σ tg R) X.xe s1) X.xe s

/-- the step ahead of the store is nothing for an iterator that keeps no tuple -/
theorem go_of {M : Model} {A : Around} {E : Value → Shared → Prop} {s : Shared} {tg : Expr} {it : Addr} {u : Value} {o : Obj} {n : String} {vs : Array Value} {Q : Unit → Shared → Prop} (ho : s.heap.get? it = some o) (hc : o.cls = .type n) (hd : o.data = .fields vs)
    (hn : ["enumerate", "zip", "dict_itemiterator", "dict_reverseitemiterator", "odict_iterator", "itertools.zip_longest", "itertools.pairwise"].contains n = false) (hQ : Q () s) : wpAny M A (letOwnedTupleGo tg (.ref it) u) Q E s := by
  unfold letOwnedTupleGo
  cases tg <;> first
    | exact wpAny_pure hQ
    | (cases u <;> first
        | exact wpAny_pure hQ
        | (refine wpAny_bind (wpAny_load ho ?_)
           rw [hc, hd]
           show wpAny M A (if (["enumerate", "zip", "dict_itemiterator", "dict_reverseitemiterator", "odict_iterator", "itertools.zip_longest", "itertools.pairwise"].contains n && vs[0]? == some (rawInt _)) = true then _ else _) Q E s
           rw [if_neg (by intro h; rw [hn, Bool.false_and] at h; cases h)]
           exact wpAny_pure hQ))

/-- the list at a, as it stands at each turn (a loop may append to it) -/
noncomputable def Itl (K : PySem.W.Frag) (a : Addr) : It :=
  ⟨fun i H => ∃ xs x, SqL K H a xs ∧ xs[i]? = some x, fun i H x H' => H' = H ∧ ∀ xs, SqL K H a xs → xs[i]? = some x, fun i H => ∃ xs, SqL K H a xs ∧ xs.length ≤ i⟩
/-- lo, lo + 1, .. (n of them) -/
noncomputable def Itr (lo : Int) (n : Nat) : It := ⟨fun i _ => i < n, fun i H x H' => H' = H ∧ x = .int (lo + i), fun i _ => n ≤ i⟩
theorem turn_list {P : Program} {w : World} {K : PySem.W.Frag} {tg : Expr} (a it : Addr) : Turn P w K tg (Itl K a) [it] it (fun i h => h.IsListIter it a i) where
  mem := by simp
  obj := fun i h st b hb => by
    have e : b = it := by simpa using hb
    subst e
    obtain ⟨o, e, c, d⟩ := st
    exact ⟨o, e, fun v z => by rw [d] at z; cases z⟩
  keep := fun i h h' st k => st.at fun o e => k it (by simp) o e
  item := by
    intro X hP hw hK hc i pins s σ H E I hf st hg
    subst hP hw hK
    obtain ⟨xs, x, hq, hx⟩ := hg
    obtain ⟨its, rv, p, hz⟩ := I.list hq
    obtain ⟨u, hu, ru⟩ := rv.get hx
    obtain ⟨f0, f1, f2, f3, f4, f5⟩ := hf it (by simp)
    refine wpAny_pyNext_list_item st p.isList (x := u) (by simpa using hu) fun h' st' sb => ?_
    have I1 : Inv X pins σ H { s with heap := h' } := I.turned (t' := s.toks) (fun b o hb e => (sb.2 b hb).trans e) f0 f1 f3 f4 f5
    obtain ⟨o, e, c, d⟩ := id st'
    exact ⟨u, rfl, go_of (s := { s with heap := h' }) e c d (by decide) ⟨x, H, I1, ru, ⟨rfl, fun ys hy => by rw [I.list_inj hy hq]; exact hx⟩, st', fun b hb => (hf b hb).1⟩⟩
  done := by
    intro X hP hw hK hc i pins s σ H E I hf st hg
    subst hP hw hK
    obtain ⟨xs, hq, hx⟩ := hg
    obtain ⟨its, rv, p, hz⟩ := I.list hq
    obtain ⟨f0, f1, f2, f3, f4, f5⟩ := hf it (by simp)
    have hl := rv.length
    exact wpAny_pyNext_list_end (I.ok.hd hc) st p.isList (by simp; omega) fun h' eb => ⟨rfl, I.turned (t' := s.toks) (fun b o hb e => eb b o hb e) f0 f1 f3 f4 f5⟩
  self := fun _ _ _ _ _ st h => wpAny_pyIter_listiter st h
theorem turn_range {P : Program} {w : World} {K : PySem.W.Frag} {tg : Expr} (it : Addr) (lo : Int) (n : Nat) : Turn P w K tg (Itr lo n) [it] it (fun i h => IsRangeIter h it (lo + (i : Nat) * 1) ((n : Int) - (i : Nat)) 1) where
  mem := by simp
  obj := fun i h st b hb => by
    have e : b = it := by simpa using hb
    subst e
    exact ⟨_, st, fun v z => by
      have z' : Data.fields _ = Data.cell v := z
      cases z'⟩
  keep := fun i h h' st k => k it (by simp) _ st
  item := by
    intro X hP hw hK hc i pins s σ H E I hf st hg
    subst hP hw hK
    obtain ⟨f0, f1, f2, f3, f4, f5⟩ := hf it (by simp)
    have W := Walks.range (prog := X.prog) (w := X.w) (I.ok.hd hc) it lo 1 n
    refine W.item i s _ _ hg st fun v h' tk hv st' kk => ?_
    obtain ⟨t, rfl⟩ := hv
    have I1 : Inv X pins σ H { s with heap := h', toks := tk } := I.turned (fun b o hb e => kk b o (by simpa using hb) e) f0 f1 f3 f4 f5
    refine ⟨_, rfl, go_of (s := { s with heap := h', toks := tk }) (n := "range_iterator") st' rfl rfl (by decide) ⟨.int (lo + i), H, I1, ⟨t, ?_⟩, ⟨rfl, rfl⟩, st', fun b hb => (hf b hb).1⟩⟩
    rw [Int.mul_one]
  done := by
    intro X hP hw hK hc i pins s σ H E I hf st hg
    subst hP hw hK
    obtain ⟨f0, f1, f2, f3, f4, f5⟩ := hf it (by simp)
    exact wpAny_pyNext_range_end (I.ok.hd hc) st (by have : n ≤ i := hg; omega) fun h' eb => ⟨rfl, I.turned (t' := s.toks) (fun b o hb e => eb b o hb e) f0 f1 f3 f4 f5⟩
  self := fun _ _ _ _ _ st h => wpAny_pyIter_rangeiter st h
end L2

namespace L2
open PySem PySem.Spec PyProof.Rows
section
variable {X : Cx} {tg : Expr}
noncomputable def iList (K : PySem.W.Frag) (tl : TE) : TI := fun σ H R => tl σ H fun x H1 => ∃ a, x = .ref a ∧ (∃ xs, SqL K H1 a xs) ∧ R (Itl K a) H1
theorem pi_list {l : Expr} {tl : TE} (hl : PE X l tl) : PI X tg l (iList X.K tl) := by
  intro pins s σ H R I h
  refine thn (hl pins s σ H _ I h) fun v s1 ⟨x, H1, I1, r1, q1⟩ => ?_
  obtain ⟨a, e, ⟨xs, hq⟩, q⟩ := q1
  subst e
  cases r1
  obtain ⟨its, rv, p, hz⟩ := I1.list hq
  refine wpAny_pyIter_list p.isList ?_
  refine ⟨s1.heap.objs.size, [s1.heap.objs.size], _, _, H1, rfl, I1.kept (t' := s1.toks) fun b o e => Heap.get?_push_of_some _ e, turn_list a _, ⟨_, Heap.get?_push_size _ rfl, rfl, rfl⟩, fun b hb => ?_, q⟩
  have e : b = s1.heap.objs.size := by simpa using hb
  subst e
  exact I1.fpOk (Nat.le_refl _) (I1.hok.fresh (Nat.le_refl _))
/-- a range object just made, walked -/
theorem range_it {pins : List (Addr × Obj)} {σ : St} {H : Hp} {s : Shared} {R : It → Hp → Prop} {E : Value → Shared → Prop} {lo hi : Int} {t u v : Tok} {tk : Nat} (I : Inv X pins σ H s) (h1 : -(2 ^ 62) ≤ lo) (h2 : lo < 2 ^ 62) (h3 : -(2 ^ 62) ≤ hi) (h4 : hi < 2 ^ 62)
    (q : R (Itr lo (hi - lo).toNat) H) : wpAny (model X.prog X.w) X.A (pyIter (.ref s.heap.objs.size)) (PIE X pins σ tg R) E { s with heap := s.heap.push { cls := .type "range", data := .fields #[.int lo t, .int hi u, .int 1 v] }, toks := tk } := by
  refine wpAny_pyIter_range (IsRange.new ..) (small_one h1 h2 h3 h4) ?_
  have I1 : Inv X pins σ H { s with heap := s.heap.push { cls := .type "range", data := .fields #[.int lo t, .int hi u, .int 1 v] }, toks := tk } := I.kept fun b o e => Heap.get?_push_of_some _ e
  refine ⟨(s.heap.push { cls := .type "range", data := .fields #[.int lo t, .int hi u, .int 1 v] }).objs.size, [(s.heap.push { cls := .type "range", data := .fields #[.int lo t, .int hi u, .int 1 v] }).objs.size], _, _, H, rfl,
    I1.kept (t' := tk) fun b o e => Heap.get?_push_of_some _ e, turn_range _ lo (hi - lo).toNat, ?_, fun b hb => ?_, q⟩
  · have e1 : lo + ((0 : Nat) : Int) * 1 = lo := by simp
    have e2 : (((hi - lo).toNat : Nat) : Int) - ((0 : Nat) : Int) = Builtin.Range.rangeSize lo hi 1 := by rw [rangeSize_one]; split <;> omega
    show IsRangeIter _ _ (lo + ((0 : Nat) : Int) * 1) ((((hi - lo).toNat : Nat) : Int) - ((0 : Nat) : Int)) 1
    rw [e1, e2]
    exact Heap.get?_push_size _ rfl
  · have e : b = (s.heap.push { cls := .type "range", data := .fields #[.int lo t, .int hi u, .int 1 v] }).objs.size := by simpa using hb
    subst e
    exact I1.fpOk (Nat.le_refl _) (I1.hok.fresh (Nat.le_refl _))
noncomputable def iRng1 (ta : TA) : TI := fun σ H R => ta σ H fun vs H1 => ∃ j : Int, vs = [.int j] ∧ -(2 ^ 62) ≤ j ∧ j < 2 ^ 62 ∧ R (Itr 0 j.toNat) H1
noncomputable def iRng2 (ta : TA) : TI := fun σ H R => ta σ H fun vs H1 => ∃ i j : Int, vs = [.int i, .int j] ∧ (-(2 ^ 62) ≤ i ∧ i < 2 ^ 62 ∧ -(2 ^ 62) ≤ j ∧ j < 2 ^ 62) ∧ R (Itr i (j - i).toNat) H1
theorem pi_range1 {a : Expr} {ta : TA} {p pos : Pos} (hg : Gl X "range") (hm : X.mg "range" = none) (ha : PA X [a] ta) (hs : starEach [a] X.env = [(false, eval a X.env)] := by rfl) : PI X tg (.Call (.Name "range" p) [a] [] pos) (iRng1 ta) := by
  intro pins s σ H R I h
  refine Call_ (ld_blt I hg hm boot_range (PyProof.Rows.callWith_type1 (thn (ha pos pins s σ H _ I h) fun us s1 ⟨vs, H1, I1, r1, q1⟩ => ?_) hs rfl))
  obtain ⟨j, e, q1, q2, q⟩ := q1
  subst e
  cases r1 with
  | cons r rr =>
    cases rr
    obtain ⟨t, rfl⟩ := r
    exact call_range_1 (range_it I1 (by omega) (by omega) q1 q2 (by simpa using q))
theorem pi_range2 {a b : Expr} {ta : TA} {p pos : Pos} (hg : Gl X "range") (hm : X.mg "range" = none) (ha : PA X [a, b] ta) (hs : starEach [a, b] X.env = [(false, eval a X.env), (false, eval b X.env)] := by rfl) (hs2 : starEach [b] X.env = [(false, eval b X.env)] := by rfl) :
    PI X tg (.Call (.Name "range" p) [a, b] [] pos) (iRng2 ta) := by
  intro pins s σ H R I h
  refine Call_ (ld_blt I hg hm boot_range (PyProof.Rows.callWith_type1 (thn (ha pos pins s σ H _ I h) fun us s1 ⟨vs, H1, I1, r1, q1⟩ => ?_) (by rw [hs, hs2]) (by rw [hs2]; rfl)))
  obtain ⟨i, j, e, ⟨q1, q2, q3, q4⟩, q⟩ := q1
  subst e
  cases r1 with
  | cons r rr =>
    cases rr with
    | cons r' rr =>
      cases rr
      obtain ⟨t, rfl⟩ := r
      obtain ⟨t', rfl⟩ := r'
      exact call_range_2 (range_it I1 q1 q2 q3 q4 q)

/-! ### for -/
/-- W: the invariant by the turn and a measure; N: what the body is to reach -/
noncomputable def tFor (wi : TI) (g : TG) (tb : TS) : TS := fun D σ H => wi σ H fun J H1 => ∃ W : Nat → Nat → St → Hp → Prop, (∃ m, W 0 m σ H1) ∧ ∀ i m σ H, W i m σ H →
  (J.stop i H ∧ D.nx σ H) ∨ (J.go i H ∧ ∃ N : St → Hp → Prop, (∀ σ' H', N σ' H' → ∃ m', m' < m ∧ W (i + 1) m' σ' H') ∧ ∀ x H', J.yld i H x H' → g x σ H' fun σ2 H2 => tb { D with nx := N, ct := N, bk := D.nx } σ2 H2)
/-- the records at fp as they stand -/
noncomputable def pinsAt (fp : List Addr) (h : Heap) : List (Addr × Obj) := fp.filterMap fun b => (h.get? b).map fun o => (b, o)
theorem mem_pinsAt {fp : List Addr} {h : Heap} {b : Addr} {o : Obj} (hb : b ∈ fp) (e : h.get? b = some o) : (b, o) ∈ pinsAt fp h := List.mem_filterMap.mpr ⟨b, hb, by rw [e]; rfl⟩
theorem of_pinsAt {fp : List Addr} {h : Heap} {p : Addr × Obj} (hp : p ∈ pinsAt fp h) : p.1 ∈ fp ∧ h.get? p.1 = some p.2 := by
  obtain ⟨b, hb, e⟩ := List.mem_filterMap.mp hp
  cases q : h.get? b with
  | none => rw [q] at e; cases e
  | some o =>
    rw [q] at e
    have e' : (b, o) = p := Option.some.inj e
    subst e'
    exact ⟨hb, q⟩
theorem Inv.pinned {pins : List (Addr × Obj)} {σ : St} {H : Hp} {s : Shared} {fp : List Addr} (I : Inv X pins σ H s) (hf : ∀ b ∈ fp, FpOk X pins H b) (ho : ∀ b ∈ fp, ∃ o, s.heap.get? b = some o ∧ ∀ v, o.data ≠ .cell v) : Inv X (pins ++ pinsAt fp s.heap) σ H s :=
  I.pins_of fun p hp => (List.mem_append.mp hp).elim (fun z => I.pin p (List.mem_append_right _ z)) fun z => by
    obtain ⟨hb, e⟩ := of_pinsAt z
    obtain ⟨f0, f1, f2, _⟩ := hf p.1 hb
    obtain ⟨o, e', d⟩ := ho p.1 hb
    rw [e] at e'; cases e'
    exact ⟨e, f0, f1, f2, d⟩
theorem Inv.unpinned {pins pl : List (Addr × Obj)} {σ : St} {H : Hp} {s : Shared} (I : Inv X (pins ++ pl) σ H s) : Inv X pins σ H s := I.pins_of fun p hp => I.pin p (List.mem_append_right _ (List.mem_append_left _ hp))
theorem ps_for {iter : Expr} {body : List Stmt} {wi : TI} {g : TG} {tb : TS} {pos : Pos} (hp : PassesOwn (model X.prog X.w) X.A X.env X.xe) (hc : X.calm = true) (hi : PI X tg iter wi) (hg : PG X tg g) (hb : PSs X body tb)
    (hs : ∀ x, foldedSetIterable iter X.env x = pure x := by intro _; rfl) : PS X (.For tg iter body [] pos) (tFor wi g tb) := by
  intro pins s σ H D I h
  refine wpAny_For (thn (hi pins s σ H _ I h) fun v s1 h1 => thn h1 fun itv s2 h2 => ?_) hs
  obtain ⟨it, fp, tn, J, H2, e, I2, T, st2, f2, W, ⟨m0, w0⟩, turn⟩ := h2
  subst e
  -- what stays true of the iterator's objects through the loop
  have stat : ∀ {H' : Hp}, (∀ b ∈ fp, H' b = none) → ∀ b ∈ fp, FpOk X pins H' b := fun hn b hb => ⟨hn b hb, (f2 b hb).2⟩
  refine codeAny_forLoop_any (fun n s' => ∃ i σ' H', Inv X pins σ' H' s' ∧ tn i s'.heap ∧ (∀ b ∈ fp, H' b = none) ∧ W i n σ' H') ?_ m0 ⟨0, σ, H2, I2, st2, fun b hb => (f2 b hb).1, w0⟩
  rintro n s3 ⟨i, σ3, H3, I3, st3, fr3, w3⟩
  rcases turn i n σ3 H3 w3 with ⟨stop, qn⟩ | ⟨go, N, hN, step⟩
  · refine wpAny_passesOwn hp (thn (T.done X rfl rfl rfl hc i pins s3 σ3 H3 X.xe I3 (stat fr3) st3 stop) fun r s4 ⟨hr, I4⟩ => ?_)
    subst hr
    exact wpAny_execs_nil ⟨σ3, H3, I4, qn⟩
  · refine wpAny_passesOwn hp (thn (T.item X rfl rfl rfl hc i pins s3 σ3 H3 X.xe I3 (stat fr3) st3 go) fun r s4 ⟨u, hr, h4⟩ => ?_)
    subst hr
    refine wpAny_passesOwn hp (thn h4 fun _ s5 ⟨x, H5, I5, r5, y5, st5, fr5⟩ => ?_)
    have I5' := I5.pinned (stat fr5) (T.obj _ _ st5)
    refine wpAny_passesOwn hp (thn (hg _ s5 σ3 H5 x u _ I5' r5 (step x H5 y5)) fun _ s6 ⟨σ6, H6, I6, q6⟩ => ?_)
    refine wpAny_passesOwn hp (thn (hb _ s6 σ6 H6 _ I6 q6) fun f s7 q7 => ?_)
    have again : ∀ {σ7 : St} {H7 : Hp}, Inv X (pins ++ pinsAt fp s5.heap) σ7 H7 s7 → N σ7 H7 → ∃ m, m < n ∧ ∃ i σ' H', Inv X pins σ' H' s7 ∧ tn i s7.heap ∧ (∀ b ∈ fp, H' b = none) ∧ W i m σ' H' := fun {σ7 H7} I7 n7 => by
      obtain ⟨m', hm, w7⟩ := hN σ7 H7 n7
      refine ⟨m', hm, i + 1, σ7, H7, I7.unpinned, T.keep _ _ _ st5 fun b hb o e => (I7.pin (b, o) (List.mem_append_right _ (List.mem_append_right _ (mem_pinsAt hb e)))).1, fun b hb => ?_, w7⟩
      obtain ⟨o, e, d⟩ := T.obj _ _ st5 b hb
      exact (I7.pin (b, o) (List.mem_append_right _ (List.mem_append_right _ (mem_pinsAt hb e)))).2.1
    cases f with
    | next => obtain ⟨σ7, H7, I7, n7⟩ := q7; exact again I7 n7
    | cont => obtain ⟨σ7, H7, I7, n7⟩ := q7; exact again I7 n7
    | brk => obtain ⟨σ7, H7, I7, q7⟩ := q7; exact ⟨σ7, H7, I7.unpinned, q7⟩
    | ret v => obtain ⟨x7, σ7, H7, I7, r7, q7⟩ := q7; exact ⟨x7, σ7, H7, I7.unpinned, r7, q7⟩
end

/-! ### the forms one uses -/
/-- over a list that the body leaves as it is -/
theorem for_list {K : PySem.W.Frag} {a : Addr} {xs : List V} {g : TG} {tb : TS} {D : Ends} {σ : St} {H : Hp} (Pv : Nat → St → Hp → Prop) (h0 : Pv 0 σ H) (hl : ∀ i σ H, i ≤ xs.length → Pv i σ H → SqL K H a xs)
    (hs : ∀ i x σ H, xs[i]? = some x → Pv i σ H → g x σ H fun σ2 H2 => tb { D with nx := Pv (i + 1), ct := Pv (i + 1), bk := D.nx } σ2 H2) (hd : ∀ σ H, Pv xs.length σ H → D.nx σ H) :
    ∃ W : Nat → Nat → St → Hp → Prop, (∃ m, W 0 m σ H) ∧ ∀ i m σ H, W i m σ H →
      ((Itl K a).stop i H ∧ D.nx σ H) ∨ ((Itl K a).go i H ∧ ∃ N : St → Hp → Prop, (∀ σ' H', N σ' H' → ∃ m', m' < m ∧ W (i + 1) m' σ' H') ∧ ∀ x H', (Itl K a).yld i H x H' → g x σ H' fun σ2 H2 => tb { D with nx := N, ct := N, bk := D.nx } σ2 H2) := by
  refine ⟨fun i m σ H => m = xs.length - i ∧ i ≤ xs.length ∧ Pv i σ H, ⟨xs.length, by simp, Nat.zero_le _, h0⟩, ?_⟩
  rintro i m σ H ⟨rfl, hi, p⟩
  have q := hl i σ H hi p
  by_cases hlt : i < xs.length
  · refine .inr ⟨⟨xs, xs[i], q, by simp [hlt]⟩, Pv (i + 1), fun σ' H' p' => ⟨xs.length - (i + 1), by omega, rfl, hlt, p'⟩, fun x H' y => ?_⟩
    obtain ⟨e, y⟩ := y
    subst e
    exact hs i x σ _ (y xs q) p
  · have e : i = xs.length := by omega
    subst e
    exact .inl ⟨⟨xs, q, Nat.le_refl _⟩, hd σ H p⟩
theorem for_range {lo : Int} {n : Nat} {g : TG} {tb : TS} {D : Ends} {σ : St} {H : Hp} (Pv : Nat → St → Hp → Prop) (h0 : Pv 0 σ H)
    (hs : ∀ i σ H, i < n → Pv i σ H → g (.int (lo + i)) σ H fun σ2 H2 => tb { D with nx := Pv (i + 1), ct := Pv (i + 1), bk := D.nx } σ2 H2) (hd : ∀ σ H, Pv n σ H → D.nx σ H) :
    ∃ W : Nat → Nat → St → Hp → Prop, (∃ m, W 0 m σ H) ∧ ∀ i m σ H, W i m σ H →
      ((Itr lo n).stop i H ∧ D.nx σ H) ∨ ((Itr lo n).go i H ∧ ∃ N : St → Hp → Prop, (∀ σ' H', N σ' H' → ∃ m', m' < m ∧ W (i + 1) m' σ' H') ∧ ∀ x H', (Itr lo n).yld i H x H' → g x σ H' fun σ2 H2 => tb { D with nx := N, ct := N, bk := D.nx } σ2 H2) := by
  refine ⟨fun i m σ H => m = n - i ∧ i ≤ n ∧ Pv i σ H, ⟨n, by simp, Nat.zero_le _, h0⟩, ?_⟩
  rintro i m σ H ⟨rfl, hi, p⟩
  by_cases hlt : i < n
  · refine .inr ⟨hlt, Pv (i + 1), fun σ' H' p' => ⟨n - (i + 1), by omega, rfl, hlt, p'⟩, fun x H' y => ?_⟩
    obtain ⟨e, y⟩ := y
    subst e y
    exact hs i σ _ hlt p
  · have e : i = n := by omega
    subst e
    exact .inl ⟨Nat.le_refl _, hd σ H p⟩
end L2

namespace L2
open PySem PySem.Spec PyProof.Rows

noncomputable abbrev R2 := V → V → Hp → VK → Prop
/-- a two-place operation on values: f is binaryOp op, inplaceOp op or compareOp op -/
noncomputable def OpR (X : Cx) (f : Value → Value → Sem Value) (r : R2) : Prop :=
  ∀ (pins : List (Addr × Obj)) (s : Shared) (σ : St) (H : Hp) (x y : V) (v u : Value) (Q : VK), Inv X pins σ H s → RelV x v → RelV y u → r x y H Q →
    wpAny (model X.prog X.w) X.A (f v u) (EP X pins σ Q) X.xe s
/-- a one-place operation -/
noncomputable def UnR (X : Cx) (f : Value → Sem Value) (r : V → Hp → VK → Prop) : Prop :=
  ∀ (pins : List (Addr × Obj)) (s : Shared) (σ : St) (H : Hp) (x : V) (v : Value) (Q : VK), Inv X pins σ H s → RelV x v → r x H Q →
    wpAny (model X.prog X.w) X.A (f v) (EP X pins σ Q) X.xe s
/-- a call of a value that is known (a builtin, a type) with values -/
noncomputable def CallR (X : Cx) (f : Value) (r : List V → Hp → VK → Prop) : Prop :=
  ∀ (pins : List (Addr × Obj)) (s : Shared) (σ : St) (H : Hp) (xs : List V) (us : List Value) (Q : VK), Inv X pins σ H s → Vals xs us → r xs H Q →
    wpAny (model X.prog X.w) X.A (call f us) (EP X pins σ Q) X.xe s

noncomputable def tOp (r : R2) (ta tb : TE) : TE := fun σ H Q => ta σ H fun x H1 => tb σ H1 fun y H2 => r x y H2 Q
noncomputable def tUn (r : V → Hp → VK → Prop) (ta : TE) : TE := fun σ H Q => ta σ H fun x H1 => r x H1 Q
/-- ints in, under C, and a value out -/
noncomputable def rI (C : Int → Int → Prop) (g : Int → Int → V) : R2 := fun x y H Q => ∃ i j, x = .int i ∧ y = .int j ∧ C i j ∧ Q (g i j) H
noncomputable def rI0 (g : Int → Int → V) : R2 := fun x y H Q => ∃ i j, x = .int i ∧ y = .int j ∧ Q (g i j) H
noncomputable def rU (g : Int → V) : V → Hp → VK → Prop := fun x H Q => ∃ i, x = .int i ∧ Q (g i) H

section
variable {X : Cx} {a b c : Expr} {ta tb tc : TE} {pos : Pos}

theorem binT (ha : PE X a ta) (hb : PE X b tb) {pins : List (Addr × Obj)} {s : Shared} {σ : St} {H : Hp} {R : V → V → Hp → Prop} (I : Inv X pins σ H s)
    (h : ta σ H fun x H1 => tb σ H1 fun y H2 => R x y H2) {Q : Value → Shared → Prop} {f : Value → Value → Sem Value}
    (hf : ∀ v u s2 x y H2, Inv X pins σ H2 s2 → RelV x v → RelV y u → R x y H2 → wpAny (model X.prog X.w) X.A (f v u) Q X.xe s2) :
    wpAny (model X.prog X.w) X.A (eval a X.env) (fun v s₁ => wpAny (model X.prog X.w) X.A (eval b X.env) (fun u s₂ => wpAny (model X.prog X.w) X.A (f v u) Q X.xe s₂) X.xe s₁) X.xe s := by
  refine thn (ha pins s σ H _ I h) fun v s1 ⟨x, H1, I1, r1, q1⟩ => ?_
  refine thn (hb pins s1 σ H1 _ I1 q1) fun u s2 ⟨y, H2, I2, r2, q2⟩ => ?_
  exact hf v u s2 x y H2 I2 r1 r2 q2

theorem pe_op {op : Operator} {r : R2} (ho : OpR X (binaryOp op) r) (ha : PE X a ta) (hb : PE X b tb) : PE X (.BinOp a op b pos) (tOp r ta tb) := by
  intro pins s σ H Q I h
  exact wpAny_BinOp (binT ha hb I h fun v u s2 x y H2 I2 rx ry q => ho pins s2 σ H2 x y v u Q I2 rx ry q)
theorem pe_un {op : UnaryOp} {r : V → Hp → VK → Prop} (ho : UnR X (unaryOp op) r) (ha : PE X a ta) : PE X (.UnaryOp op a pos) (tUn r ta) := by
  intro pins s σ H Q I h
  exact UnaryOp_ (thn (ha pins s σ H _ I h) fun v s1 ⟨x, H1, I1, r1, q1⟩ => ho pins s1 σ H1 x v Q I1 r1 q1)

/-! ### ints -/
theorem opI {f : Value → Value → Sem Value} {C : Int → Int → Prop} {g : Int → Int → Int}
    (rule : ∀ (i j : Int) (t u : Tok) (s : Shared) (Q : Value → Shared → Prop) (E : Value → Shared → Prop), C i j → Q (.int (g i j) s.toks) { s with toks := s.toks + 1 } → wpAny (model X.prog X.w) X.A (f (.int i t) (.int j u)) Q E s) :
    OpR X f (rI C fun i j => .int (g i j)) := by
  intro pins s σ H x y v u Q I rx ry h
  obtain ⟨i, j, rfl, rfl, hc, q⟩ := h
  obtain ⟨t, rfl⟩ := rx
  obtain ⟨t', rfl⟩ := ry
  exact rule i j t t' s _ _ hc ⟨.int (g i j), H, I.tok _, ⟨_, rfl⟩, q⟩
theorem opI0 {f : Value → Value → Sem Value} {g : Int → Int → Int}
    (rule : ∀ (i j : Int) (t u : Tok) (s : Shared) (Q : Value → Shared → Prop) (E : Value → Shared → Prop), Q (.int (g i j) s.toks) { s with toks := s.toks + 1 } → wpAny (model X.prog X.w) X.A (f (.int i t) (.int j u)) Q E s) :
    OpR X f (rI0 fun i j => .int (g i j)) := by
  intro pins s σ H x y v u Q I rx ry h
  obtain ⟨i, j, rfl, rfl, q⟩ := h
  obtain ⟨t, rfl⟩ := rx
  obtain ⟨t', rfl⟩ := ry
  exact rule i j t t' s _ _ ⟨.int (g i j), H, I.tok _, ⟨_, rfl⟩, q⟩
theorem opB0 {f : Value → Value → Sem Value} {g : Int → Int → Bool}
    (rule : ∀ (i j : Int) (t u : Tok) (s : Shared) (Q : Value → Shared → Prop) (E : Value → Shared → Prop), Q (.bool (g i j)) s → wpAny (model X.prog X.w) X.A (f (.int i t) (.int j u)) Q E s) :
    OpR X f (rI0 fun i j => .bl (g i j)) := by
  intro pins s σ H x y v u Q I rx ry h
  obtain ⟨i, j, rfl, rfl, q⟩ := h
  obtain ⟨t, rfl⟩ := rx
  obtain ⟨t', rfl⟩ := ry
  exact rule i j t t' s _ _ ⟨.bl (g i j), H, I, rfl, q⟩

noncomputable def CPow (i j : Int) : Prop := 0 ≤ j ∧ j ≤ 1000000 ∧ i.natAbs < 2 ^ 64
noncomputable def CMul (i j : Int) : Prop := (-(2 ^ 64) < i ∧ i < 2 ^ 64) ∨ (-(2 ^ 64) < j ∧ j < 2 ^ 64)
theorem CMul.ok {i j : Int} (h : CMul i j) : IntMulOk i j := by
  rcases h with ⟨h1, h2⟩ | ⟨h1, h2⟩
  · exact .of_left (intBits_le_64 h1 h2)
  · exact .of_right (intBits_le_64 h1 h2)

theorem op_add : OpR X (binaryOp .Add) (rI0 fun i j => .int (i + j)) := opI0 fun _ _ _ _ _ _ _ q => add_int q
theorem op_sub : OpR X (binaryOp .Sub) (rI0 fun i j => .int (i - j)) := opI0 fun _ _ _ _ _ _ _ q => sub_int q
/-- % by a positive divisor of any size -/
theorem op_mod : OpR X (binaryOp .Mod) (rI (fun _ j => 0 < j) fun i j => .int (i % j)) := opI fun i j _ _ _ _ _ hc q => by
  have h1 : (0 : Int) < j := hc
  exact mod_int' (by omega) (by rw [Int.fmod_eq_emod_of_nonneg i (by omega)]; exact q)

theorem iop_add : OpR X (inplaceOp .Add) (rI0 fun i j => .int (i + j)) := opI0 fun _ _ _ _ _ _ _ q => iadd_int q
theorem iop_sub : OpR X (inplaceOp .Sub) (rI0 fun i j => .int (i - j)) := opI0 fun _ _ _ _ _ _ _ q => isub_int q

theorem unI {f : Value → Sem Value} {g : Int → Int}
    (rule : ∀ (i : Int) (t : Tok) (s : Shared) (Q : Value → Shared → Prop) (E : Value → Shared → Prop), Q (.int (g i) s.toks) { s with toks := s.toks + 1 } → wpAny (model X.prog X.w) X.A (f (.int i t)) Q E s) :
    UnR X f (rU fun i => .int (g i)) := by
  intro pins s σ H x v Q I rx h
  obtain ⟨i, rfl, q⟩ := h
  obtain ⟨t, rfl⟩ := rx
  exact rule i t s _ _ ⟨.int (g i), H, I.tok _, ⟨_, rfl⟩, q⟩
theorem un_neg : UnR X (unaryOp .USub) (rU fun i => .int (-i)) := unI fun _ _ _ _ _ q => neg_int q

/-! ### bools among ints: n += (a < b) -/
end

/-! ### comparisons -/
/-- the scalars that == tells apart as data does -/
noncomputable def scal : V → V → Bool
  | .non, .non => true | .non, .int _ => true | .int _, .non => true | .non, .bl _ => true | .bl _, .non => true | .non, .str _ => true | .str _, .non => true
  | .int _, .int _ => true | .bl _, .bl _ => true | .str _, .str _ => true | .byt _, .byt _ => true
  | .int _, .str _ => true | .str _, .int _ => true | .bl _, .str _ => true | .str _, .bl _ => true
  | _, _ => false
noncomputable def rEq : R2 := fun x y H Q => scal x y = true ∧ Q (.bl (decide (x = y))) H
noncomputable def rNe : R2 := fun x y H Q => scal x y = true ∧ Q (.bl (!decide (x = y))) H

theorem dec_int {i j : Int} : decide (V.int i = V.int j) = (i == j) := by
  rw [Bool.eq_iff_iff]
  simp
theorem dec_bl {i j : Bool} : decide (V.bl i = V.bl j) = (i == j) := by
  rw [Bool.eq_iff_iff]
  simp
theorem dec_str {i j : Str} : decide (V.str i = V.str j) = (i == j) := by
  rw [Bool.eq_iff_iff]
  simp
theorem dec_byt {i j : Array UInt8} : decide (V.byt i = V.byt j) = (i.toList == j.toList) := by
  rw [Bool.eq_iff_iff]
  cases i
  cases j
  simp

section
variable {X : Cx} {a b c : Expr} {ta tb tc : TE} {pos : Pos}
theorem fin_bl {pins : List (Addr × Obj)} {σ : St} {H : Hp} {s : Shared} {Q : VK} {k k' : Bool} (I : Inv X pins σ H s) (q : Q (.bl k) H) (e : k = k') : EP X pins σ Q (.bool k') s := by
  subst e
  exact ⟨.bl k, H, I, rfl, q⟩
theorem op_eq : OpR X (compareOp .Eq) rEq := by
  intro pins s σ H x y v u Q I rx ry h
  obtain ⟨hs, q⟩ := h
  cases x with
  | non =>
    cases rx
    cases y with
    | non => cases ry; exact PySem.EqNone.eq_none_none (fin_bl I q (by simp))
    | bl j => cases ry; exact PySem.EqNone.eq_none_bool (fin_bl I q (by simp))
    | int j => obtain ⟨t', rfl⟩ := ry; exact PySem.EqNone.eq_none_int (fin_bl I q (by simp))
    | str j => obtain ⟨t', rfl⟩ := ry; exact PySem.EqNone.eq_none_str (fin_bl I q (by simp))
    | _ => exact absurd (show false = true from hs) Bool.false_ne_true
  | bl i =>
    cases rx
    cases y with
    | non => cases ry; exact PySem.EqNone.eq_bool_none (fin_bl I q (by simp))
    | bl j => cases ry; exact eq_bool (fin_bl I q dec_bl)
    | str j => obtain ⟨t', rfl⟩ := ry; exact PySem.EqMixed.eq_bool_str (fin_bl I q (by simp))
    | _ => exact absurd (show false = true from hs) Bool.false_ne_true
  | int i =>
    obtain ⟨t, rfl⟩ := rx
    cases y with
    | non => cases ry; exact PySem.EqNone.eq_int_none (fin_bl I q (by simp))
    | int j => obtain ⟨t', rfl⟩ := ry; exact eq_int (fin_bl I q dec_int)
    | str j => obtain ⟨t', rfl⟩ := ry; exact PySem.EqMixed.eq_int_str (fin_bl I q (by simp))
    | _ => exact absurd (show false = true from hs) Bool.false_ne_true
  | str i =>
    obtain ⟨t, rfl⟩ := rx
    cases y with
    | non => cases ry; exact PySem.EqNone.eq_str_none (fin_bl I q (by simp))
    | bl j => cases ry; exact PySem.EqMixed.eq_str_bool (fin_bl I q (by simp))
    | int j => obtain ⟨t', rfl⟩ := ry; exact PySem.EqMixed.eq_str_int (fin_bl I q (by simp))
    | str j => obtain ⟨t', rfl⟩ := ry; exact eq_str (fin_bl I q dec_str)
    | _ => exact absurd (show false = true from hs) Bool.false_ne_true
  | byt i =>
    obtain ⟨t, rfl⟩ := rx
    cases y with
    | byt j => obtain ⟨t', rfl⟩ := ry; exact PySem.W.eq_bytes (fin_bl I q dec_byt)
    | _ => exact absurd (show false = true from hs) Bool.false_ne_true
  | _ => cases y <;> exact absurd (show false = true from hs) Bool.false_ne_true
theorem op_ne : OpR X (compareOp .NotEq) rNe := by
  intro pins s σ H x y v u Q I rx ry h
  obtain ⟨hs, q⟩ := h
  cases x with
  | non =>
    cases rx
    cases y with
    | non => cases ry; exact PySem.EqNone.ne_none_none (fin_bl I q (by simp))
    | bl j => cases ry; exact PySem.EqNone.ne_none_bool (fin_bl I q (by simp))
    | int j => obtain ⟨t', rfl⟩ := ry; exact PySem.EqNone.ne_none_int (fin_bl I q (by simp))
    | str j => obtain ⟨t', rfl⟩ := ry; exact PySem.EqNone.ne_none_str (fin_bl I q (by simp))
    | _ => exact absurd (show false = true from hs) Bool.false_ne_true
  | bl i =>
    cases rx
    cases y with
    | non => cases ry; exact PySem.EqNone.ne_bool_none (fin_bl I q (by simp))
    | bl j => cases ry; exact ne_bool (fin_bl I q (congrArg not dec_bl))
    | str j => obtain ⟨t', rfl⟩ := ry; exact PySem.EqMixed.ne_bool_str (fin_bl I q (by simp))
    | _ => exact absurd (show false = true from hs) Bool.false_ne_true
  | int i =>
    obtain ⟨t, rfl⟩ := rx
    cases y with
    | non => cases ry; exact PySem.EqNone.ne_int_none (fin_bl I q (by simp))
    | int j => obtain ⟨t', rfl⟩ := ry; exact ne_int (fin_bl I q (congrArg not dec_int))
    | str j => obtain ⟨t', rfl⟩ := ry; exact PySem.EqMixed.ne_int_str (fin_bl I q (by simp))
    | _ => exact absurd (show false = true from hs) Bool.false_ne_true
  | str i =>
    obtain ⟨t, rfl⟩ := rx
    cases y with
    | non => cases ry; exact PySem.EqNone.ne_str_none (fin_bl I q (by simp))
    | bl j => cases ry; exact PySem.EqMixed.ne_str_bool (fin_bl I q (by simp))
    | int j => obtain ⟨t', rfl⟩ := ry; exact PySem.EqMixed.ne_str_int (fin_bl I q (by simp))
    | str j => obtain ⟨t', rfl⟩ := ry; exact ne_str (fin_bl I q (congrArg not dec_str))
    | _ => exact absurd (show false = true from hs) Bool.false_ne_true
  | byt i =>
    obtain ⟨t, rfl⟩ := rx
    cases y with
    | byt j => obtain ⟨t', rfl⟩ := ry; exact PySem.W.ne_bytes (fin_bl I q (congrArg not dec_byt))
    | _ => exact absurd (show false = true from hs) Bool.false_ne_true
  | _ => cases y <;> exact absurd (show false = true from hs) Bool.false_ne_true

theorem op_lt : OpR X (compareOp .Lt) (rI0 fun i j => .bl (decide (i < j))) := opB0 fun _ _ _ _ _ _ _ q => lt_int q
theorem op_le : OpR X (compareOp .LtE) (rI0 fun i j => .bl (decide (i ≤ j))) := opB0 fun _ _ _ _ _ _ _ q => le_int q
theorem op_gt : OpR X (compareOp .Gt) (rI0 fun i j => .bl (decide (j < i))) := opB0 fun _ _ _ _ _ _ _ q => gt_int q
theorem op_ge : OpR X (compareOp .GtE) (rI0 fun i j => .bl (decide (j ≤ i))) := opB0 fun _ _ _ _ _ _ _ q => ge_int q

/-- is None, is not None: the right side a value none -/
theorem op_isN : OpR X (compareOp .Is) (fun x y H Q => y = .non ∧ Q (.bl (decide (x = .non))) H) := by
  intro pins s σ H x y v u Q I rx ry h
  obtain ⟨rfl, q⟩ := h
  cases ry
  refine is_none_gen (fin_bl I q ?_)
  cases x <;> first
    | (cases rx; rfl)
    | (obtain ⟨t, rfl⟩ := rx; rfl)
theorem op_notN : OpR X (compareOp .IsNot) (fun x y H Q => y = .non ∧ Q (.bl (!decide (x = .non))) H) := by
  intro pins s σ H x y v u Q I rx ry h
  obtain ⟨rfl, q⟩ := h
  cases ry
  refine isnot_none_gen (fin_bl I q ?_)
  cases x <;> first
    | (cases rx; rfl)
    | (obtain ⟨t, rfl⟩ := rx; rfl)



theorem nomark (b : Expr) {op : CmpOp} (h : op ≠ .In := by decide) (h2 : op ≠ .NotIn := by decide) : behindInMarks op b = false := by
  have e1 : (op == CmpOp.In) = false := by cases op <;> first | rfl | exact absurd rfl h
  have e2 : (op == CmpOp.NotIn) = false := by cases op <;> first | rfl | exact absurd rfl h2
  cases b <;> simp [behindInMarks, e1, e2]
/-- a comparison as a value; hm: nomark b, or (for in, not in) by with_unfolding_all rfl -/
theorem pe_cmpR {op : CmpOp} {r : R2} (ho : OpR X (compareOp op) r) (ha : PE X a ta) (hb : PE X b tb) (hm : behindInMarks op b = false) : PE X (.Compare a [op] [b] pos) (tOp r ta tb) := by
  intro pins s σ H Q I h
  exact wpAny_Compare1 (binT ha hb I h fun v u s2 x y H2 I2 rx ry q => ho pins s2 σ H2 x y v u Q I2 rx ry q) hm
/-- a reading of a value as a test -/
noncomputable def tTest (t : TE) : TT := fun σ H Q => t σ H fun x H' => ∃ k, x = .bl k ∧ Q k H'
theorem pt_cmpR {op : CmpOp} {r : R2} (ho : OpR X (compareOp op) r) (ha : PE X a ta) (hb : PE X b tb) (hm : behindInMarks op b = false) : PT X (.Compare a [op] [b] pos) (tTest (tOp r ta tb)) := by
  intro pins s σ H Q I h
  refine wpAny_isTrue_Compare1 (thn (ha pins s σ H _ I h) fun v s1 ⟨x, H1, I1, r1, q1⟩ => thn (hb pins s1 σ H1 _ I1 q1) fun u s2 ⟨y, H2, I2, r2, q2⟩ =>
    thn (ho pins s2 σ H2 x y v u _ I2 r1 r2 q2) fun c s3 ⟨z, H3, I3, r3, k, e, q3⟩ => ?_) hm
  subst e
  cases r3
  exact wpAny_truthy_bool ⟨H3, I3, q3⟩

/-! ### truth -/
theorem line63 : (sizeLine : Nat) < 2 ^ 63 := by rw [sizeLine_eq]; decide

/-! ### strs and bytes -/


/-! ### scalar builtins, by CallR -/
theorem vals1 {x : V} {us : List Value} (r : Vals [x] us) : ∃ u, us = [u] ∧ RelV x u := by
  cases r with
  | cons r1 r2 => cases r2; exact ⟨_, rfl, r1⟩
theorem vals2 {x y : V} {us : List Value} (r : Vals [x, y] us) : ∃ u w', us = [u, w'] ∧ RelV x u ∧ RelV y w' := by
  cases r with
  | cons r1 r2 =>
    cases r2 with
    | cons r3 r4 => cases r4; exact ⟨_, _, rfl, r1, r3⟩
theorem call_min2 (hc : X.calm = true) : CallR X (.builtin "min") (fun xs H Q => ∃ i j, xs = [.int i, .int j] ∧ Q (.int (if j < i then j else i)) H) := by
  intro pins s σ H xs us Q I r h
  obtain ⟨i, j, rfl, q⟩ := h
  obtain ⟨u, w', rfl, ⟨t, rfl⟩, ⟨t', rfl⟩⟩ := vals2 r
  refine min_two_ints (I.ok.hd hc) fun h' tk k => ⟨_, H, I.kept k, ?_, q⟩
  by_cases hj : j < i
  · rw [if_pos hj, if_pos hj]; exact ⟨_, rfl⟩
  · rw [if_neg hj, if_neg hj]; exact ⟨_, rfl⟩
theorem call_int1 : CallR X (.type "int") (fun xs H Q => (∃ i, xs = [.int i] ∧ Q (.int i) H) ∨ ∃ k, xs = [.bl k] ∧ Q (.int (if k then 1 else 0)) H) := by
  intro pins s σ H xs us Q I r h
  rcases h with ⟨i, rfl, q⟩ | ⟨k, rfl, q⟩
  · obtain ⟨u, rfl, t, rfl⟩ := vals1 r
    exact call_int_int ⟨.int i, H, I, ⟨_, rfl⟩, q⟩
  · obtain ⟨u, rfl, r1⟩ := vals1 r
    cases r1
    exact call_int_bool ⟨.int (if k then 1 else 0), H, I.tok _, ⟨_, rfl⟩, q⟩
end
end L2

namespace L2
open PySem PySem.Spec PyProof.Rows

/-! ### an instance, its attributes a map -/
structure ObjM (h : Heap) (x dx C : Addr) (mA : Str → Option Value) : Prop where
  obj : h.get? x = some (PySem.W.instObj C dx)
  ns : h.Ns1 dx mA
  ne : dx ≠ x

theorem lookIn_ns {h : Heap} {dx : Addr} {mA : Str → Option Value} (n : h.Ns1 dx mA) : ∃ od, h.get? dx = some od ∧ ∀ name, PySem.W.lookIn name od = some (mA name) := by
  obtain ⟨o, es, ep, ho, hd, hk, _, hm⟩ := n
  refine ⟨o, ho, fun name => ?_⟩
  have e := hm name
  unfold nsFind findBy at e
  rw [← Array.find?_toList] at e
  unfold PySem.W.lookIn
  rw [hd]
  dsimp only
  split
  · rename_i y q
    rw [q] at e
    exact congrArg some e
  · rename_i q
    rw [q] at e
    have a : es.toList.any (·.refKey) = false := by
      rw [List.any_eq_false]
      intro y hy
      obtain ⟨z, t, hkey⟩ := hk y (Array.mem_toList_iff.mp hy)
      simp [DictEntry.refKey, hkey]
    have a' : ¬ es.toList.any (·.refKey) = true := by rw [a]; exact Bool.false_ne_true
    rw [if_neg a']
    exact congrArg some e

theorem ObjM.look {h : Heap} {x dx C : Addr} {mA : Str → Option Value} (I : ObjM h x dx C mA) : ∃ od, PySem.W.InstAt h x (PySem.W.instObj C dx) C (some od) ∧ ∀ name, PySem.W.lookIn name od = some (mA name) :=
  let ⟨od, ho, hl⟩ := lookIn_ns I.ns
  ⟨od, ⟨I.obj, rfl, rfl, ho⟩, hl⟩

section
variable {prog : Program} {w : World} {A : Around} {E : Value → Shared → Prop} {s : Shared} {K : PySem.W.Frag} {x dx C f : Addr} {mA : Str → Option Value} {name : Str} {v : Value}





end

/-! ### the attributes as a list of pairs -/


section
variable {P : Program} {w : World} {H H' : Hp} {h h' : Heap} {a C dx : Addr} {fs fs' : List (Str × V)}
theorem ins_get (hok : HOk P w H h) (e : H a = some (.ins C dx fs)) : ∃ mA, ObjM h a dx C mA ∧ (∀ f, RelO (fs.lookup f) (mA f)) ∧ PySem.Within mA (fs.map (·.1)) ∧ fs.length ≤ 1000 ∧ H dx = some (.own a) := by
  obtain ⟨d, z, ne, ob, mA, n, r, q⟩ := (show ObjOk P w H h a (.ins C dx fs) from hok a _ e)
  exact ⟨mA, ⟨ob, n, ne⟩, r, q, z, d⟩
end

/-! ### what of the text a class must have -/
structure Cls (K : PySem.W.Frag) (C : Addr) : Prop where
  pg : PySem.W.plainGet K C Str.empty = true
  hd : PySem.W.hasDictIn K C = true
  po : PySem.W.plainOver K C = true
  sa : PySem.W.findIn K (.ref C) "__setattr__" = some (some (.builtin "object.__setattr__"))
theorem Cls.get {K : PySem.W.Frag} {C : Addr} (c : Cls K C) (f : Str) : PySem.W.plainGet K C f = true := c.pg

section
variable {X : Cx} {pins : List (Addr × Obj)} {σ : St} {H : Hp} {s : Shared} {a C dx : Addr} {fs : List (Str × V)} {f : Str} {v : V} {A : Around} {E : Value → Shared → Prop}






end

/-! ### readings and rules -/

section
variable {X : Cx} {o e value : Expr} {f : Str} {pos pos' tpos : Pos} {ta tv : TE}

end

/-! ### isinstance -/
section
variable {X : Cx} {pins : List (Addr × Obj)} {σ : St} {H : Hp} {s : Shared} {A : Around} {E : Value → Shared → Prop} {Q : Value → Shared → Prop} {c : Value} {b : Bool}
/-- the type of a value, as the fragment's deciders take it; for an instance its class -/
inductive TyOf (K : PySem.W.Frag) (H : Hp) : V → Value → Prop where
  | non : TyOf K H .non (.type "NoneType")
  | bl (x : Bool) : TyOf K H (.bl x) (.type "bool")
  | int (i : Int) : TyOf K H (.int i) (.type "int")
  | str (x : Str) : TyOf K H (.str x) (.type "str")
  | flt (x : UInt64) : TyOf K H (.flt x) (.type "float")
  | lst {a : Addr} {xs : List V} (e : H a = some (.lst xs)) : TyOf K H (.ref a) (.type "list")
  | frz {a : Addr} {o : Obj} {xs : List V} (e : H a = some (.frz o (.lst xs))) : TyOf K H (.ref a) (.type "list")
  | tup {a : Addr} {xs : List V} (e : H a = some (.tup xs)) : TyOf K H (.ref a) (.type "tuple")
  | dK {a : Addr} {kvs : List (Key × V)} (e : H a = some (.dK kvs)) : TyOf K H (.ref a) (.type "dict")
  | dT {a : Addr} {kvs : List (List Key × V)} (e : H a = some (.dT kvs)) : TyOf K H (.ref a) (.type "dict")
  | ins {a C dx : Addr} {fs : List (Str × V)} (e : H a = some (.ins C dx fs)) (cl : Cls K C) (ha : PySem.W.findIn K (.ref C) "__class__" = some (some (.builtin "object.__class__")))
      (hn : PySem.W.specialIn K (.builtin "object.__class__") "__get__" = some (some (.builtin "getset_descriptor.__get__"))) (htk : PySem.W.takesIn K (.builtin "object.__class__") = some true)
      (hm : PySem.W.mroIn K C (.type "object") = some true) : TyOf K H (.ref a) (.ref C)
/-- isinstance(x, c) for one class c, a built-in or an own one: kitOne's answer -/
theorem isinst_ok {x : V} {u t : Value} (I : Inv X pins σ H s) (rx : RelV x u) (ty : TyOf X.K H x t) (e : PySem.W.kitOne X.K t c = some b) (h : ∀ tk, Q (.bool b) { s with toks := tk }) :
    wpAny (model X.prog X.w) A (call (.builtin "isinstance") [u, c]) Q E s := by
  cases ty with
  | non => cases (show u = Value.none from rx); exact PySem.W.kia_one PySem.W.kitx_none I.kIn True.intro e (fun z => nomatch z) h
  | bl y => cases (show u = Value.bool y from rx); exact PySem.W.kia_one PySem.W.kitx_bool I.kIn True.intro e (fun z => nomatch z) h
  | int i => obtain ⟨t, q⟩ := (show ∃ t, u = Value.int i t from rx); cases q; exact PySem.W.kia_one PySem.W.kitx_int I.kIn True.intro e (fun z => nomatch z) h
  | str y => obtain ⟨t, q⟩ := (show ∃ t, u = Value.str y t from rx); cases q; exact PySem.W.kia_one PySem.W.kitx_str I.kIn True.intro e (fun z => nomatch z) h
  | flt y => obtain ⟨t, q⟩ := (show ∃ t, u = Value.float y t from rx); cases q; exact PySem.W.kia_one PySem.W.kitx_float I.kIn True.intro e (fun z => nomatch z) h
  | @lst a xs ea =>
    cases (show u = Value.ref a from rx)
    obtain ⟨_, _, n, _, h1⟩ := (show ObjOk X.prog X.w H s.heap a (.lst xs) from I.hok a _ ea)
    exact PySem.W.kia_one PySem.W.kitx_list I.kIn ⟨_, h1, rfl⟩ e (fun z => nomatch z) h
  | @frz a ob xs ea =>
    cases (show u = Value.ref a from rx)
    obtain ⟨_, _, _, n, _, h1⟩ := (show ObjOk X.prog X.w H s.heap a (.frz ob (.lst xs)) from I.hok a _ ea)
    exact PySem.W.kia_one PySem.W.kitx_list I.kIn ⟨_, h1, rfl⟩ e (fun z => nomatch z) h
  | @tup a xs ea =>
    cases (show u = Value.ref a from rx)
    obtain ⟨_, _, _, p⟩ := (show ObjOk X.prog X.w H s.heap a (.tup xs) from I.hok a _ ea)
    obtain ⟨o, h1, h2, _⟩ := p
    exact PySem.W.kia_one PySem.W.kitx_tuple I.kIn ⟨o, h1, h2⟩ e (fun z => nomatch z) h
  | @dK a kvs ea =>
    cases (show u = Value.ref a from rx)
    obtain ⟨_, _, vs, _, p⟩ := (show ObjOk X.prog X.w H s.heap a (.dK kvs) from I.hok a _ ea)
    obtain ⟨o, es, ep, h1, h2, _⟩ := p
    exact PySem.W.kia_one PySem.W.kitx_dict I.kIn ⟨o, h1, h2.1⟩ e (fun z => nomatch z) h
  | @dT a kvs ea =>
    cases (show u = Value.ref a from rx)
    obtain ⟨_, _, xs, _, o, es, ep, h1, h2, _⟩ := (show ObjOk X.prog X.w H s.heap a (.dT kvs) from I.hok a _ ea)
    exact PySem.W.kia_one PySem.W.kitx_dict I.kIn ⟨o, h1, h2.1⟩ e (fun z => nomatch z) h
  | @ins a C dx fs ea cl ha hn htk hm =>
    cases (show u = Value.ref a from rx)
    obtain ⟨mA, O, _⟩ := ins_get I.hok ea
    obtain ⟨od, J, _⟩ := O.look
    exact PySem.W.kia_one (PySem.W.kitx_own (cl.get _) cl.hd ha hn htk hm) I.kIn J e (fun z => nomatch z) h
end
end L2

namespace L2
open PySem PySem.Spec PyProof.Rows

/-! ### room -/
structure Room (k : Nat) (A : Around) : Prop where
  hd : A.handled = none
  dp : A.depth + 3 * k + 5 < recursionLimit
  un : A.units + 16 * k + 200 < cLine
theorem Room.mono {j k : Nat} {A : Around} (r : Room k A) (h : j ≤ k) : Room j A := ⟨r.hd, by have := r.dp; omega, by have := r.un; omega⟩
theorem Room.deeper {k : Nat} {A : Around} (r : Room (k + 1) A) (env : Env) : Room k (A.deeper env) :=
  ⟨r.hd, by have := r.dp; show A.depth + 1 + 3 * k + 5 < _; omega, by have := r.un; show A.units + 3 + 16 * k + 200 < _; omega⟩
theorem Room.depth {k : Nat} {A : Around} (r : Room k A) : A.depth < recursionLimit := by have := r.dp; omega
theorem Room.units {k : Nat} {A : Around} (r : Room k A) : A.units + 64 < cLine := by have := r.un; omega

/-! ### argument lists and displays -/
noncomputable def tNil : TA := fun _ H Q => Q [] H
noncomputable def tCons (ta : TE) (tr : TA) : TA := fun σ H Q => ta σ H fun x H1 => tr σ H1 fun xs H2 => Q (x :: xs) H2
section
variable {X : Cx} {e : Expr} {es : List Expr} {te : TE} {t : TA} {pos : Pos}
theorem pa_nil : PA X [] tNil := fun _ _ _ _ H Q I h => Calls.spliced_nil ⟨[], H, I, .nil, h⟩
theorem pa_cons (ha : PE X e te) (hr : PA X es t) (hs : starEach (e :: es) X.env = (false, eval e X.env) :: starEach es X.env := by rfl) : PA X (e :: es) (tCons te t) := by
  intro pos pins s σ H Q I h
  rw [hs]
  show wpAny _ _ (spliced ((false, eval e X.env) :: backTo pos (starEach es X.env))) _ _ s
  refine Calls.spliced_cons (thn (ha pins s σ H _ I h) fun u s1 ⟨x, H1, I1, r1, q1⟩ => ?_)
  exact thn (hr pos pins s1 σ H1 _ I1 q1) fun us s2 ⟨xs, H2, I2, r2, q2⟩ => ⟨x :: xs, H2, I2, .cons r1 r2, q2⟩

/-- a tuple, a list of written items -/
noncomputable def tTup (t : TA) : TE := fun σ H Q => t σ H fun xs H1 => xs.length ≤ sizeLine ∧ ∀ p, H1 p = none → Q (.ref p) (upd H1 p (.tup xs))
noncomputable def tLst (t : TA) : TE := fun σ H Q => t σ H fun xs H1 => xs.length ≤ sizeLine ∧ ∀ p, H1 p = none → Q (.ref p) (upd H1 p (.lst xs))
theorem pe_tup {x1} (h : PA X es t) : PE X (.Tuple es x1 pos) (tTup t) := by
  intro pins s σ H Q I hq
  refine wpAny_Tuple_spliced (thn (h pos pins s σ H _ I hq) fun us s1 ⟨xs, H1, I1, r, z, q⟩ => ⟨by rw [← r.length]; exact z, ?_⟩)
  have hf : H1 s1.heap.objs.size = none := I1.hok.fresh (Nat.le_refl _)
  refine ⟨.ref s1.heap.objs.size, upd H1 s1.heap.objs.size (.tup xs), I1.laid (t' := s1.toks) (fun b u e => Heap.get?_push_of_some _ e) (Nat.le_refl _) ?_, rfl, q _ hf⟩
  exact ⟨z, us, r, ⟨_, Heap.get?_push_size _ rfl, rfl, _, rfl⟩⟩
theorem pe_lst (h : PA X es t) : PE X (.List es pos) (tLst t) := by
  intro pins s σ H Q I hq
  refine wpAny_List_spliced (thn (h pos pins s σ H _ I hq) fun us s1 ⟨xs, H1, I1, r, z, q⟩ => ⟨by rw [← r.length]; exact z, ?_⟩)
  have hf : H1 s1.heap.objs.size = none := I1.hok.fresh (Nat.le_refl _)
  refine ⟨.ref s1.heap.objs.size, upd H1 s1.heap.objs.size (.lst xs), I1.laid (t' := s1.toks) (fun b u e => Heap.get?_push_of_some _ e) (Nat.le_refl _) ?_, rfl, q _ hf⟩
  exact ⟨z, us, 0, r, Heap.get?_push_size _ rfl⟩
end

/-! ### what a def promises -/
/-- a def's promise: the bound arguments in the parameters' order, the heap, the wanted end, the wanted exception -/
noncomputable abbrev Sp := List V → Hp → VK → XK → Prop
/-- how an exception lies behind a call (file 08 gives it): the callers' frames, abstract heap and state ahead of the call, the wish, the exception, the state -/
noncomputable abbrev CXT := List Env → Hp → Shared → XK → Value → Shared → Prop

/-- the state at a call -/
structure Env0 (P : Program) (w : World) (K : PySem.W.Frag) (mg : Str → Option Value) (base : Heap) (A : Around) (outer : List Env) (s : Shared) (H : Hp) : Prop where
  frames : A.frames = some outer
  mod : Mod K mg base
  bs : ∀ b o, base.get? b = some o → s.heap.get? b = some o ∧ H b = none
  bsz : base.objs.size ≤ s.heap.objs.size
  funs : s.heap.FunFrames base outer
  frf : ∀ b ∈ frs outer, H b = none
  hok : HOk P w H s.heap
  bare : AllBare s.gens
/-- a call's end -/
noncomputable def CE (outer : List Env) (P : Program) (w : World) (H : Hp) (s : Shared) (Q : VK) (u : Value) (s' : Shared) : Prop :=
  ∃ v H', s'.os = s.os ∧ AllBare s'.gens ∧ Un (frs outer) [] H H' s.heap s'.heap ∧ HOk P w H' s'.heap ∧ RelV v u ∧ Q v H'
noncomputable def CR (CX : CXT) (outer : List Env) (P : Program) (w : World) (H : Hp) (s : Shared) (Q : VK) (E : XK) (r : Result) (s' : Shared) : Prop :=
  match r with
  | .ok (.ret u) => CE outer P w H s Q u s'
  | .ok _ => False
  | .error e => CX outer H s E e s'
structure FnOk (P : Program) (w : World) (K : PySem.W.Frag) (mg : Str → Option Value) (base : Heap) (CX : CXT) (k : Nat) (f : Addr) (fd : FuncData) (ps : List Str) (sp : Sp) : Prop where
  len : ∀ vs H Q E, sp vs H Q E → vs.length = ps.length
  run : ∀ (A : Around) (outer : List Env) (s : Shared) (H : Hp) (args : Args) (us : List Value) (vs : List V) (Q : VK) (E : XK), Room k A → Env0 P w K mg base A outer s H → BindsTo s fd args (ps.zip us) → Vals vs us → sp vs H Q E →
    codeAny (model P w) A (.call (.ref f) args) (CR CX outer P w H s Q E) s


section
variable {X : Cx} {pins : List (Addr × Obj)} {σ : St} {H : Hp} {s s' : Shared}
/-- from a body: what a callee wants -/
theorem Inv.env0 (I : Inv X pins σ H s) : Env0 X.prog X.w X.K X.mg X.base X.A X.stack s H :=
  ⟨I.ok.frames, I.ok.mod, I.bs, Nat.le_trans I.ok.bsz I.sz, I.stack, I.stkFree, I.hok, I.bare⟩
/-- behind a call -/
theorem Inv.after {Q : VK} {u : Value} (I : Inv X pins σ H s) (h : CE X.stack X.prog X.w H s Q u s') : EP X pins σ Q u s' := by
  obtain ⟨v, H', os, bare, un, hok, r, q⟩ := h
  obtain ⟨hh, g, d, t, os'⟩ := s'
  obtain rfl : os' = s.os := os
  exact ⟨v, H', I.call (h' := hh) (g' := g) (d' := d) (t' := t) (ch := []) un hok bare (fun b z => absurd z (by simp)), r, q⟩
end

/-! ### calls -/
/-- f(..): the written arguments, then the defaults dvs; E: what is wanted of an exception -/
noncomputable def tCall (sp : Sp) (dvs : List V) (E : XK) (t : TA) : TE := fun σ H Q => t σ H fun vs H1 => sp (vs ++ dvs) H1 Q E

/-- how the parameters are bound: us the positional arguments, kw the keywords' values by name, ds the defaults that fill up -/
noncomputable def Binds (K : PySem.W.Frag) (fd : FuncData) (ps : List Str) (ds : List Value) : Prop :=
  ∀ (s : Shared) (us : List Value), K.In s.heap → (us ++ ds).length = ps.length → BindsTo s fd ⟨us, []⟩ (ps.zip (us ++ ds))
/-- every parameter is given -/
theorem Binds.all {K : PySem.W.Frag} {fd : FuncData} {ps : List Str} (h : ∀ us : List Value, us.length = ps.length → bindArgs fd ⟨us, []⟩ = pure (ps.zip us)) : Binds K fd ps [] := fun s us _ hl => by
  rw [List.append_nil] at hl ⊢
  exact .of_eq (h us hl)

/-- an exception of a callee reaches what this body wants of exceptions -/
noncomputable def Passes (CX : CXT) (X : Cx) (E : XK) : Prop := ∀ (pins : List (Addr × Obj)) (σ : St) (H : Hp) (s : Shared) (e : Value) (s' : Shared), Inv X pins σ H s → CX X.stack H s E e s' → X.xe e s'

section
variable {X : Cx} {CX : CXT} {k : Nat} {f C : Addr} {fd : FuncData} {ps : List Str} {sp : Sp} {dvs : List V} {ds : List Value} {E : XK} {x m : Str} {p pos apos : Pos} {e o : Expr} {es : List Expr} {ta : TE} {t : TA}

/-- the callee runs -/
theorem run_fn {pins : List (Addr × Obj)} {σ : St} {H : Hp} {s : Shared} {Q : VK} {us : List Value} {vs : List V} (F : FnOk X.prog X.w X.K X.mg X.base CX k f fd ps sp) (hr : Room k X.A) (hb : Binds X.K fd ps ds) (hd : Vals dvs ds) (hx : Passes CX X E)
    (I : Inv X pins σ H s) (r : Vals vs us) (h : sp (vs ++ dvs) H Q E) : wpAny (model X.prog X.w) X.A (call (.ref f) us) (EP X pins σ Q) X.xe s := by
  have r2 : Vals (vs ++ dvs) (us ++ ds) := r.append hd
  have hl : (us ++ ds).length = ps.length := by rw [← r2.length]; exact F.len _ _ _ _ h
  refine wpAny_call (codeAny_mono (F.run X.A X.stack s H ⟨us, []⟩ (us ++ ds) (vs ++ dvs) Q E hr I.env0 (hb s us I.kIn hl) r2 h) fun r s' hq => ?_)
  cases r with
  | error e => exact hx pins σ H s e s' I hq
  | ok fl =>
    cases fl with
    | ret u => exact I.after hq
    | next => exact False.elim hq
    | brk => exact False.elim hq
    | cont => exact False.elim hq

theorem pe_call (F : FnOk X.prog X.w X.K X.mg X.base CX k f fd ps sp) (hr : Room k X.A) (hg : Gl X x) (hm : X.mg x = some (.ref f)) (hk : PySem.W.keepIn X.K (.ref f) = true) (hb : Binds X.K fd ps ds) (hd : Vals dvs ds) (hx : Passes CX X E)
    (ha : PA X (e :: es) t) (hdb : (x == ("__debug__" : Str)) = false := by decide) (he : starEach (e :: es) X.env = (false, eval e X.env) :: starEach es X.env := by rfl) (hpl : (backTo pos (starEach es X.env)).any (·.1) = false := by rfl) :
    PE X (.Call (.Name x p) (e :: es) [] pos) (tCall sp dvs E t) := by
  intro pins s σ H Q I h
  refine wpAny_Call_Name_kw (ld_glob I hg hm ?_ hdb)
  refine PySem.W.callWith_K (h₀ := X.base) I.ok.mod.kin hk (thn (ha pos pins s σ H _ I h) fun us s1 ⟨vs, H1, I1, r, q⟩ => ⟨I1.kIn, ?_⟩) he hpl
  exact run_fn F hr hb hd hx I1 r q



end

/-! ### keywords -/
section
variable {X : Cx} {CX : CXT} {k : Nat} {f C : Addr} {fd : FuncData} {ps ks : List Str} {sp : Sp} {E : XK} {x m : Str} {p pos apos kpos : Pos} {e o : Expr} {es : List Expr} {kws : List Keyword} {te ta : TE} {t tk : TA} {nm : Option Str}

variable {g : List Value → List Value → List Value} {gV : List V → List V → List V}
end

/-! ### a def's body keeps its promise -/
/-- names: the parameters first -/
structure FnScope (N P : List Str) (sc : Scope) : Prop where
  kind : sc.kind = .function
  co : sc.isCoroutine = false
  gen : sc.isGenerator = false
  nd : N.Nodup
  pre : N.take P.length = P
  par : ∀ x ∈ P, sc.names.lookup x = some .local ∨ sc.names.lookup x = some .cell
  nofree : ∀ y ∈ sc.names, y.2 ≠ .free

theorem bindL_out {kindOf : Str → Option NameKind} {x : Str} : ∀ {binds : List (Str × Value)} {m : Str → Option Value}, (∀ v, (x, v) ∉ binds) → bindL kindOf binds m x = m x
  | [], _, _ => rfl
  | (n, v) :: r, m, h => by
    unfold bindL
    rw [bindL_out fun w hw => h w (List.mem_cons_of_mem _ hw)]
    split
    · have : x ≠ n := by rintro rfl; exact h v List.mem_cons_self
      simp [this]
    · rfl
theorem bindC_out {kindOf : Str → Option NameKind} {x : Str} : ∀ {binds : List (Str × Value)} {m : Str → Option Value}, (∀ v, (x, v) ∉ binds) → bindC kindOf binds m x = m x
  | [], _, _ => rfl
  | (n, v) :: r, m, h => by
    unfold bindC
    rw [bindC_out fun w hw => h w (List.mem_cons_of_mem _ hw)]
    split
    · rfl
    · have : x ≠ n := by rintro rfl; exact h v List.mem_cons_self
      simp [this]
theorem bindL_get {kindOf : Str → Option NameKind} {x : Str} {v : Value} : ∀ {P : List Str} {vs : List Value} {i : Nat} {m : Str → Option Value}, P.Nodup → P[i]? = some x → vs[i]? = some v → kindOf x = some .local →
    bindL kindOf (P.zip vs) m x = some v
  | [], _, _, _, _, h, _, _ => by simp at h
  | _ :: _, [], _, _, _, _, h, _ => by simp at h
  | p :: P, w :: vs, 0, m, nd, h1, h2, hk => by
    simp at h1 h2; subst h1; subst h2
    show bindL kindOf ((p, w) :: P.zip vs) m p = _
    unfold bindL
    rw [bindL_out fun v hv => (List.nodup_cons.mp nd).1 (List.of_mem_zip hv).1, if_pos hk]
    simp
  | p :: P, w :: vs, i + 1, m, nd, h1, h2, hk => by
    show bindL kindOf ((p, w) :: P.zip vs) m x = _
    unfold bindL
    exact bindL_get (i := i) (List.nodup_cons.mp nd).2 (by simpa using h1) (by simpa using h2) hk
theorem bindC_get {kindOf : Str → Option NameKind} {x : Str} {v : Value} : ∀ {P : List Str} {vs : List Value} {i : Nat} {m : Str → Option Value}, P.Nodup → P[i]? = some x → vs[i]? = some v → kindOf x ≠ some .local →
    bindC kindOf (P.zip vs) m x = some v
  | [], _, _, _, _, h, _, _ => by simp at h
  | _ :: _, [], _, _, _, _, h, _ => by simp at h
  | p :: P, w :: vs, 0, m, nd, h1, h2, hk => by
    simp at h1 h2; subst h1; subst h2
    show bindC kindOf ((p, w) :: P.zip vs) m p = _
    unfold bindC
    rw [bindC_out fun v hv => (List.nodup_cons.mp nd).1 (List.of_mem_zip hv).1, if_neg hk]
    simp
  | p :: P, w :: vs, i + 1, m, nd, h1, h2, hk => by
    show bindC kindOf ((p, w) :: P.zip vs) m x = _
    unfold bindC
    exact bindC_get (i := i) (List.nodup_cons.mp nd).2 (by simpa using h1) (by simpa using h2) hk

/-- the names' values at the entry -/
noncomputable def start (N : List Str) (vs : List V) : St := vs.map some ++ List.replicate (N.length - vs.length) none

/-- the context of a def's body, at its entry; an exception leaves the frame, then lies as CX says -/
noncomputable def cxOf (CX : CXT) (P : Program) (w : World) (K : PySem.W.Frag) (mg : Str → Option Value) (base : Heap) (N : List Str) (qual : Str) (scope : Scope) (f : Addr) (cd : Value) (A : Around) (outer : List Env) (s : Shared) (H : Hp) (E : XK) : Cx where
  prog := P
  w := w
  K := K
  mg := mg
  base := base
  A := A.deeper (envOfC qual scope s.heap.objs.size f cd)
  N := N
  s₀ := s
  H₀ := H
  env := envOfC qual scope s.heap.objs.size f cd
  outer := outer
  stack := envOfC qual scope s.heap.objs.size f cd :: outer
  ex := []
  calm := true
  fn := fun _ => true
  pn := []
  xe := fun e s' => wpAny (model P w) (A.deeper (envOfC qual scope s.heap.objs.size f cd)) (leaving (envOfC qual scope s.heap.objs.size f cd) e) (fun _ s'' => CX outer H s E e s'') (fun e' s'' => CX outer H s E e' s'') s'

theorem cell_has {sc : Scope} {n : Nat} {x : Str} (h : sc.names.lookup x = some .cell) : ∃ c, (cellsFrom n sc.names []).lookup x = some c := by
  have q := PySem.W.cellsFrom_some sc.names n [] (.inl h)
  exact Option.isSome_iff_exists.mp q

theorem inv_start {CX : CXT} {P : Program} {w : World} {K : PySem.W.Frag} {mg : Str → Option Value} {base : Heap} {N ps : List Str} {qual : Str} {scope : Scope} {f : Addr} {cd : Value} {A : Around} {outer : List Env} {s s1 : Shared} {H : Hp} {E : XK} {us : List Value} {vs : List V}
    (S : FnScope N ps scope) (hd : A.handled = none) (e0 : Env0 P w K mg base A outer s H) (hl : vs.length = ps.length) (r : Vals vs us)
    (x : InCallC s s.heap.objs.size (bindL (envOfC qual scope s.heap.objs.size f cd).kindOf (ps.zip us) fun _ => none) (cellsFrom (s.heap.objs.size + 1) scope.names []) (bindC (envOfC qual scope s.heap.objs.size f cd).kindOf (ps.zip us) fun _ => none) s1) :
    Inv (cxOf CX P w K mg base N qual scope f cd A outer s H E) [] (start N vs) H s1 := by
  have hpl : ps.length ≤ N.length := by have := congrArg List.length S.pre; rw [List.length_take] at this; omega
  obtain ⟨h1, tk, rfl, hk⟩ := x.done
  have noA : ∀ b : Addr, b ∉ (cxOf CX P w K mg base N qual scope f cd A outer s H E).ex := fun b z => absurd (show b ∈ ([] : List Addr) from z) (by simp)
  refine ⟨⟨e0.mod, S.kind, rfl, rfl, Nat.le_refl _, fun y z c h1 h2 => ?_, fun y hy => ?_, fun y c _ h => ?_, fun _ => hd, Around.frames_deeper e0.frames, .inr ⟨rfl, rfl⟩, fun b z => absurd z (noA b), e0.bs, e0.bsz, fun b _ _ => noA b, fun b z => absurd z (noA b), e0.funs, e0.frf⟩,
    rfl, e0.bare, Un.kept hk, ⟨_, x.toInCall.ns, fun i y v h1 h2 h3 => ?_⟩, fun y c h => ⟨_, x.cell y c h⟩, e0.hok.fresh (Nat.le_refl _), fun y c h => ?_, fun p hp => absurd (show p ∈ ([] : List (Addr × Obj)) from hp) (by simp), e0.hok.kept hk, ?_⟩
  · exact name_of_addr x.apart (PySem.mem_of_lookup h1) (PySem.mem_of_lookup h2)
  · have hy : scope.names.lookup y = some .cell ∨ scope.names.lookup y = some .free := hy
    rcases hy with hy | hy
    · exact cell_has hy
    · exact absurd rfl (S.nofree _ (PySem.mem_of_lookup hy))
  · exact Nat.le_of_lt (x.above y c (PySem.mem_of_lookup h))
  · have hi : i < vs.length := by
      unfold start at h2
      by_cases hi : i < vs.length
      · exact hi
      · rw [List.getElem?_append_right (by simpa using hi)] at h2
        rw [List.getElem?_replicate] at h2
        split at h2 <;> cases h2
    have ha : vs[i]? = some v := by
      unfold start at h2
      rw [List.getElem?_append_left (by simpa using hi), List.getElem?_map] at h2
      cases e : vs[i]? with
      | none => rw [e] at h2; cases h2
      | some a => rw [e] at h2; cases h2; rfl
    obtain ⟨u, hu, rv⟩ := r.get ha
    have hp : ps[i]? = some y := by
      rw [← S.pre, List.getElem?_take_of_lt (by omega)]; exact h1
    have ndP : ps.Nodup := by rw [← S.pre]; exact S.nd.sublist (List.take_sublist _ _)
    refine ⟨u, rv, ?_⟩
    rcases S.par y (List.mem_of_getElem? hp) with k | k
    · exact .inl ⟨k, bindL_get ndP hp hu k⟩
    · obtain ⟨c, e⟩ := cell_has (n := s.heap.objs.size + 1) k
      refine .inr ⟨.inl k, c, e, ?_⟩
      have q := x.cell y c e
      rw [bindC_get ndP hp hu (by show scope.names.lookup y ≠ _; rw [k]; decide)] at q
      exact q
  · exact e0.hok.fresh (Nat.le_of_lt (x.above y c (PySem.mem_of_lookup h)))
  · unfold start
    show _ = N.length
    rw [List.length_append, List.length_map, List.length_replicate]
    omega

/-- THE RULE: a def (or a method) of the text, by its body. The body's reading t is chosen for each entry; it is run at the parameters' values -/
theorem fn_of {CX : CXT} {P : Program} {w : World} {K : PySem.W.Frag} {mg : Str → Option Value} {base : Heap} {k : Nat} {f : Addr} {name qual : Str} {params : Arguments} {body : List Stmt} {scope : Scope} {dV kV doc pm cdv ct oc : Value} {an od : Option Addr}
    {osl : Array (Option Value)} {N ps : List Str} {sp : Sp} (lk : K.lookup f = some ⟨oc, od, .func (PySem.W.fnOf name qual params body scope dV kV doc pm an cdv ct), osl⟩) (hcd : PySem.W.codeIn K cdv qual = true) (S : FnScope N ps scope)
    (len : ∀ vs H Q E, sp vs H Q E → vs.length = ps.length)
    (hbody : ∀ (A : Around) (outer : List Env) (s : Shared) (H : Hp) (vs : List V) (Q : VK) (E : XK), Room k (A.deeper (envOfC qual scope s.heap.objs.size f cdv)) → sp vs H Q E →
      ∃ t, PSs (cxOf CX P w K mg base N qual scope f cdv A outer s H E) body t ∧ t { nx := fun _ H' => Q .non H', rt := Q } (start N vs) H) :
    FnOk P w K mg base CX (k + 1) f (PySem.W.fnOf name qual params body scope dV kV doc pm an cdv ct) ps sp := by
  refine ⟨len, fun A outer s H args us vs Q E hr e0 hb r hsp => ?_⟩
  have hl := len _ _ _ _ hsp
  have KX : K.In s.heap := e0.mod.kin.keeps fun b o e => (e0.bs b o e).1
  have lim : s.heap.NoLimit := e0.mod.nolimit.keeps fun b o e => (e0.bs b o e).1
  have hkind : ∀ y ∈ ps.zip us, scope.names.lookup y.1 = some .local ∨ (scope.names.lookup y.1 = some .cell ∧ ((cellsFrom (s.heap.objs.size + 1) scope.names []).lookup y.1).isSome = true) := fun ⟨n, v⟩ hy => by
    rcases S.par n (List.of_mem_zip hy).1 with q | q
    · exact .inl q
    · exact .inr ⟨q, PySem.W.cellsFrom_some _ _ _ (.inl q)⟩
  refine codeAny_call_function hr.depth (KX _ _ lk) rfl S.co S.gen rfl (PySem.W.codeRec_of KX hcd) (hb _ _ _ _ ?_)
  refine wpAny_newFunctionEnv_cells S.kind hkind fun env he s1 x => ?_
  subst he
  refine ⟨lim.keeps x.toInCall.keep, codeAny_func ?_⟩
  obtain ⟨t, ht, hq⟩ := hbody A outer s H vs Q E (hr.deeper _) hsp
  have I : Inv (cxOf CX P w K mg base N qual scope f cdv A outer s H E) [] (start N vs) H s1 := inv_start S hr.hd e0 hl r x
  refine wpAny_mono (ht [] s1 (start N vs) H _ I hq) (fun fl s' hs => ?_) fun e s' hs => hs
  have fin : ∀ {σ' : St} {H' : Hp} {v : V} {u : Value}, Inv (cxOf CX P w K mg base N qual scope f cdv A outer s H E) [] σ' H' s' → RelV v u → Q v H' → CE outer P w H s Q u s' :=
    fun {σ' H' v u} J rv q => ⟨v, H', J.os, J.bare, J.base, J.hok, rv, q⟩
  cases fl with
  | ret u =>
    obtain ⟨v, σ', H', J, rv, q⟩ := hs
    exact fin J rv q
  | next =>
    obtain ⟨σ', H', J, q⟩ := hs
    exact fin (v := V.non) (u := Value.none) J rfl q
  | brk =>
    obtain ⟨_, _, _, q⟩ := hs
    exact False.elim q
  | cont =>
    obtain ⟨_, _, _, q⟩ := hs
    exact False.elim q
end L2

namespace L2
open PySem PySem.Spec PyProof.Rows
section
variable {X : Cx} {x : Str} {p pos : Pos} {e : Expr} {es : List Expr} {t : TA} {id T : String} {r : List V → Hp → VK → Prop}

noncomputable def tCB (r : List V → Hp → VK → Prop) (t : TA) : TE := fun σ H Q => t σ H fun vs H1 => r vs H1 Q
/-- f(e, ..), f a built-in function -/
theorem pe_callB (hc : CallR X (.builtin id) r) (hg : Gl X x) (hm : X.mg x = none) (hv : bootBuiltins x = some (.builtin id)) (ha : PA X (e :: es) t) (hn : x ≠ "__name__" := by decide) (hdb : (x == ("__debug__" : Str)) = false := by decide)
    (he : starEach (e :: es) X.env = (false, eval e X.env) :: starEach es X.env := by rfl) (hpl : (backTo pos (starEach es X.env)).any (·.1) = false := by rfl) : PE X (.Call (.Name x p) (e :: es) [] pos) (tCB r t) := by
  intro pins s σ H Q I h
  refine wpAny_Call_Name_kw (ld_blt I hg hm hv ?_ hn hdb)
  exact PyProof.Rows.callWith_builtin1 (thn (ha pos pins s σ H _ I h) fun us s1 ⟨vs, H1, I1, r1, q1⟩ => hc pins s1 σ H1 vs us Q I1 r1 q1) he hpl
/-- T(e, ..), T a built-in type -/
theorem pe_callTy (hc : CallR X (.type T) r) (hg : Gl X x) (hm : X.mg x = none) (hv : bootBuiltins x = some (.type T)) (ha : PA X (e :: es) t) (hn : x ≠ "__name__" := by decide) (hdb : (x == ("__debug__" : Str)) = false := by decide)
    (he : starEach (e :: es) X.env = (false, eval e X.env) :: starEach es X.env := by rfl) (hpl : (backTo pos (starEach es X.env)).any (·.1) = false := by rfl) : PE X (.Call (.Name x p) (e :: es) [] pos) (tCB r t) := by
  intro pins s σ H Q I h
  refine wpAny_Call_Name_kw (ld_blt I hg hm hv ?_ hn hdb)
  exact PyProof.Rows.callWith_type1 (thn (ha pos pins s σ H _ I h) fun us s1 ⟨vs, H1, I1, r1, q1⟩ => hc pins s1 σ H1 vs us Q I1 r1 q1) he hpl
end
end L2

namespace HT
open PySem PyProof.Rows

/-- t < u of tuples of ints -/
noncomputable def lexLt : List Int → List Int → Bool
  | [], [] => false
  | [], _ :: _ => true
  | _ :: _, [] => false
  | x :: xs, y :: ys => if x = y then lexLt xs ys else decide (x < y)
theorem lexLt_cons (x y : Int) (xs ys : List Int) : lexLt (x :: xs) (y :: ys) = if x = y then lexLt xs ys else decide (x < y) := rfl


section
open PySem.SeqAt
open PySem.AutoSeq1 (wpAny_loadPart')
open PySem.MeetsSeq PySem.MeetsSeq2 PySem.MeetsSeq3

end

section
variable {prog : Program} {w : World} {A : Around} {E : Value → Shared → Prop} {s : Shared}



/-! ### t[a:b], not the whole -/
/-- a slice's bound as a place among n (d where it is left out) -/
noncomputable def sIx (n d : Nat) : Option Int → Nat
  | none => d
  | some v => if v < 0 then (v + (n : Int)).toNat else min v.toNat n
theorem sIx_none (n d : Nat) : sIx n d none = d := rfl
theorem sIx_nat (n d k : Nat) : sIx n d (some (k : Int)) = min k n := by
  show (if (k : Int) < 0 then ((k : Int) + (n : Int)).toNat else min (k : Int).toNat n) = min k n
  rw [if_neg (by omega), Int.toNat_natCast]

end
end HT

namespace L2
open PySem PySem.Spec PyProof.Rows

/-! ### the parts of a slice -/
noncomputable abbrev TO := St → Hp → (Option Int → Hp → Prop) → Prop
/-- a slice's part (left out, or an int) -/
noncomputable def PO (X : Cx) (e : Option Expr) (t : TO) : Prop :=
  ∀ (pins : List (Addr × Obj)) (s : Shared) (σ : St) (H : Hp) (Q : Option Int → Hp → Prop), Inv X pins σ H s → t σ H Q →
    wpAny (model X.prog X.w) X.A (evalPart e X.env) (fun u s' => ∃ o H', Inv X pins σ H' s' ∧ IsPart u o ∧ Q o H') X.xe s
noncomputable def tNoPart : TO := fun _ H Q => Q none H
noncomputable def tPart (t : TE) : TO := fun σ H Q => t σ H fun x H1 => ∃ i, x = .int i ∧ Q (some i) H1

theorem intsAre_of {ns : List Int} : ∀ {us : List Value}, Vals (ns.map V.int) us → IntsAre us ns := by
  induction ns with
  | nil => intro us r; rw [List.map_nil] at r; cases r; exact .nil
  | cons n ns ih =>
    intro us r
    rw [List.map_cons] at r
    cases r with
    | cons r1 r2 =>
      obtain ⟨t, e⟩ := r1
      subst e
      exact .cons n t (ih r2)

section
variable {X : Cx} {e : Expr} {te : TE} {lo hi : Option Expr} {tl th : TO} {pos p2 : Pos}

theorem po_none : PO X none tNoPart := by
  intro pins s σ H Q I h
  rw [evalPart_none]
  exact wpAny_pure ⟨none, H, I, .none, h⟩
theorem po_some (h : PE X e te) : PO X (some e) (tPart te) := by
  intro pins s σ H Q I hw
  rw [evalPart_some]
  refine thn (h pins s σ H _ I hw) fun u s1 ⟨x, H1, I1, r1, q1⟩ => ?_
  obtain ⟨i, rfl, q⟩ := q1
  obtain ⟨t, rfl⟩ := r1
  exact ⟨some i, H1, I1, .int i t, q⟩

/-- what a slice of a value is, by values: the slice object stands at sl -/
noncomputable def SlR (X : Cx) (r : V → Option Int → Option Int → Hp → VK → Prop) : Prop :=
  ∀ (pins : List (Addr × Obj)) (s : Shared) (σ : St) (H : Hp) (x : V) (v vl vu : Value) (lo hi : Option Int) (sl : Addr) (Q : VK), Inv X pins σ H s → RelV x v → s.heap.IsSliceOf sl vl vu .none → IsPart vl lo → IsPart vu hi → r x lo hi H Q →
    ∃ T id, typeLookup (.type T) "__getitem__" = pure (some (.builtin id)) ∧ s.TypeIs v T ∧ wpAny (model X.prog X.w) X.A (getItem v (.ref sl)) (EP X pins σ Q) X.xe s
noncomputable def tSl (r : V → Option Int → Option Int → Hp → VK → Prop) (te : TE) (tl th : TO) : TE := fun σ H Q => te σ H fun x H1 => tl σ H1 fun l H2 => th σ H2 fun u H3 => r x l u H3 Q
/-- a[lo:hi], any a -/
theorem pe_slice {r : V → Option Int → Option Int → Hp → VK → Prop} (hr : SlR X r) (he : PE X e te) (hl : PO X lo tl) (hu : PO X hi th) : PE X (.Subscript e (.Slice lo hi none p2) pos) (tSl r te tl th) := by
  intro pins s σ H Q I h
  refine Subscript_ (thn (he pins s σ H _ I h) fun v s1 ⟨x, H1, I1, r1, q1⟩ => ?_)
  refine wpAny_Slice (thn (hl pins s1 σ H1 _ I1 q1) fun vl s2 ⟨l, H2, I2, pl, q2⟩ => thn (hu pins s2 σ H2 _ I2 q2) fun vu s3 ⟨u, H3, I3, pu, q3⟩ => ?_)
  rw [evalPart_none]
  refine wpAny_pure ?_
  have I4 : Inv X pins σ H3 { s3 with heap := s3.heap.push { cls := .type "slice", data := .fields #[vl, vu, .none] } } := I3.kept (t' := s3.toks) fun b ob q => Heap.get?_push_of_some _ q
  obtain ⟨T, id, hT, ht, hg⟩ := hr pins { s3 with heap := s3.heap.push { cls := .type "slice", data := .fields #[vl, vu, .none] } } σ H3 x v vl vu l u s3.heap.objs.size Q I4 r1 (Heap.IsSliceOf.new ..) pl pu q3
  show wpAny (model X.prog X.w) X.A (subscriptTail e (.Slice lo hi none p2) v (.ref s3.heap.objs.size)) (EP X pins σ Q) X.xe { s3 with heap := s3.heap.push { cls := .type "slice", data := .fields #[vl, vu, .none] } }
  exact tail_any (ops := [.ref s3.heap.objs.size, v]) ht hT hg (by with_unfolding_all rfl)

/-- the items of xs[lo:hi] -/
noncomputable def cutV (xs : List V) (lo hi : Option Int) : List V := (xs.drop (HT.sIx xs.length 0 lo)).take (HT.sIx xs.length xs.length hi - HT.sIx xs.length 0 lo)
theorem cutV_length (xs : List V) (lo hi : Option Int) : (cutV xs lo hi).length ≤ xs.length := by
  unfold cutV
  rw [List.length_take, List.length_drop]
  omega

/-! ### t < u, t + u -/
end
end L2

namespace L2
open PySem PySem.Spec PyProof.Rows

/-! ### places -/
/-- the place that an index of any sign means -/
noncomputable def ixN (n : Nat) (i : Int) : Option Nat := if 0 ≤ i then (if i < n then some i.toNat else none) else if -(n : Int) ≤ i then some (i + n).toNat else none
noncomputable def atI {α : Type} (xs : List α) (i : Int) : Option α := (ixN xs.length i).bind fun j => xs[j]?
theorem ixN_seq {n : Nat} {i : Int} {j : Nat} (h : ixN n i = some j) : seqIndex? i n = some j ∧ j < n ∧ -(n : Int) ≤ i ∧ i < n := by
  unfold ixN at h
  by_cases h0 : 0 ≤ i
  · rw [if_pos h0] at h
    by_cases h1 : i < n
    · rw [if_pos h1] at h
      have e : i.toNat = j := Option.some.inj h
      exact ⟨by rw [seqIndex_of h0 h1, e], by omega, by omega, h1⟩
    · rw [if_neg h1] at h; cases h
  · rw [if_neg h0] at h
    by_cases h1 : -(n : Int) ≤ i
    · rw [if_pos h1] at h
      have e : (i + n).toNat = j := Option.some.inj h
      exact ⟨by rw [seqIndex_neg (by omega) h1, e], by omega, h1, by omega⟩
    · rw [if_neg h1] at h; cases h
theorem atI_get {α : Type} {xs : List α} {i : Int} {v : α} (h : atI xs i = some v) : ∃ j, seqIndex? i xs.length = some j ∧ xs[j]? = some v ∧ j < xs.length ∧ -(xs.length : Int) ≤ i ∧ i < xs.length := by
  unfold atI at h
  cases e : ixN xs.length i with
  | none => rw [e] at h; cases h
  | some j =>
    rw [e] at h
    obtain ⟨h1, h2, h3, h4⟩ := ixN_seq e
    exact ⟨j, h1, h, h2, h3, h4⟩
theorem atI_nat {α : Type} {xs : List α} {j : Nat} {v : α} (h : xs[j]? = some v) : atI xs (j : Int) = some v := by
  have hj : j < xs.length := (List.getElem?_eq_some_iff.mp h).1
  have e : ixN xs.length (j : Int) = some j := by
    unfold ixN
    rw [if_pos (by omega), if_pos (by omega)]; simp
  unfold atI; rw [e]; exact h

/-! ### what may be subscripted -/
/-- what stands as an index of a plain subscript -/
noncomputable def PlainIx (b : Expr) : Prop := ∀ o i, subscripted b false o i = operate [o, i] (getItem o i)
/-- a subscript by values -/
noncomputable def IxR (X : Cx) (r : R2) : Prop :=
  ∀ (value slice : Expr) (pins : List (Addr × Obj)) (s : Shared) (σ : St) (H : Hp) (x y : V) (v u : Value) (Q : VK), Inv X pins σ H s → RelV x v → RelV y u → r x y H Q →
    subscripted slice false v u = operate [v, u] (getItem v u) → wpAny (model X.prog X.w) X.A (subscriptTail value slice v u) (EP X pins σ Q) X.xe s
/-- a call of a builtin's method by values: the receiver, the arguments -/
noncomputable def MtR (X : Cx) (id : String) (r : V → List V → Hp → VK → Prop) : Prop :=
  ∀ (pins : List (Addr × Obj)) (s : Shared) (σ : St) (H : Hp) (x : V) (xs : List V) (v : Value) (us : List Value) (Q : VK), Inv X pins σ H s → RelV x v → Vals xs us → r x xs H Q →
    wpAny (model X.prog X.w) X.A (call (.builtin id) (v :: us)) (EP X pins σ Q) X.xe s
section
variable {X : Cx} {a b : Expr} {ta tb : TE} {pos : Pos}
/-- a[b] -/
theorem pe_ix {r : R2} (hr : IxR X r) (ha : PE X a ta) (hb : PE X b tb) (hs : PlainIx b) : PE X (.Subscript a b pos) (tOp r ta tb) := by
  intro pins s σ H Q I h
  exact Subscript_ (binT ha hb I h fun v u s2 x y H2 I2 rx ry q => hr a b pins s2 σ H2 x y v u Q I2 rx ry q (hs _ _))

noncomputable def rIxL (K : PySem.W.Frag) : R2 := fun x y H Q => ∃ p xs i v, x = .ref p ∧ y = .int i ∧ SqL K H p xs ∧ atI xs i = some v ∧ Q v H
noncomputable def rIxT (K : PySem.W.Frag) : R2 := fun x y H Q => ∃ p xs i v, x = .ref p ∧ y = .int i ∧ SqT K H p xs ∧ atI xs i = some v ∧ Q v H
theorem ix_list : IxR X (rIxL X.K) := by
  intro value slice pins s σ H x y v u Q I rx ry h hs
  obtain ⟨p, xs, i, z, rfl, rfl, hq, he, q⟩ := h
  cases rx
  obtain ⟨t, rfl⟩ := ry
  obtain ⟨its, r, pl, hz⟩ := I.list hq
  obtain ⟨j, h1, h2, h3, h4, h5⟩ := atI_get he
  obtain ⟨w, ew, rw'⟩ := r.get h2
  have hl := r.length
  have hn := line63
  have fin : EP X pins σ Q w s := ⟨z, H, I, rw', q⟩
  by_cases h0 : 0 ≤ i
  · have hj : i.toNat = j := by
      rw [seqIndex_of h0 h5] at h1
      exact Option.some.inj h1
    exact item_listR pl.isList h0 (by omega) (by rw [hj]; simpa using ew) fin hs
  · have hj : (i + (its.toArray.size : Int)).toNat = j := by
      rw [seqIndex_neg (by omega) h4] at h1
      rw [List.size_toArray, ← hl]
      exact Option.some.inj h1
    exact subscriptTail_builtinR (x := w) pl.isList.typeIs slot_list_getitem.lookup
      (wpAny_getItem_list_neg (Q := fun r s' => r = w ∧ EP X pins σ Q r s') pl.isList (by omega) (by rw [List.size_toArray] <;> omega) (by omega) (by rw [hj]; simpa using ew) ⟨rfl, fin⟩) hs
theorem ix_tup : IxR X (rIxT X.K) := by
  intro value slice pins s σ H x y v u Q I rx ry h hs
  obtain ⟨p, xs, i, z, rfl, rfl, hq, he, q⟩ := h
  cases rx
  obtain ⟨t, rfl⟩ := ry
  obtain ⟨its, r, pl, hz⟩ := I.tuple hq
  obtain ⟨j, h1, h2, h3, h4, h5⟩ := atI_get he
  obtain ⟨w, ew, rw'⟩ := r.get h2
  have hl := r.length
  have hn := line63
  have fin : EP X pins σ Q w s := ⟨z, H, I, rw', q⟩
  exact subscriptTail_builtinR (x := w) pl.typeIs slot_tuple_getitem.lookup
    (getItem_tuple (j := j) (Q := fun r s' => r = w ∧ EP X pins σ Q r s') pl (by omega) (by omega) (by rw [List.size_toArray, ← hl]; exact h1) (by simpa using ew) ⟨rfl, fin⟩) hs

/-! ### xs[i] = v, any sign -/

/-! ### slices -/
theorem slice_bounds (lo hi : Option Int) (n : Nat) : (sliceBounds lo hi none n).1 = ((HT.sIx n 0 lo : Nat) : Int) ∧ (sliceBounds lo hi none n).2.1 = ((HT.sIx n n hi : Nat) : Int) ∧ (sliceBounds lo hi none n).2.2 = 1 := by
  refine ⟨?_, ?_, rfl⟩
  · cases lo with
    | none => simp [sliceBounds, HT.sIx]
    | some i =>
      simp only [sliceBounds, HT.sIx, Option.getD_none, show (1 : Int) > 0 by decide, if_true]
      by_cases h : i < 0
      · simp only [h, if_true] <;> omega
      · simp only [h, if_false] <;> omega
  · cases hi with
    | none => simp [sliceBounds, HT.sIx]
    | some i =>
      simp only [sliceBounds, HT.sIx, Option.getD_none, show (1 : Int) > 0 by decide, if_true]
      by_cases h : i < 0
      · simp only [h, if_true] <;> omega
      · simp only [h, if_false] <;> omega
theorem slicePick_cut (its : List Value) (lo hi : Option Int) : slicePick its.toArray lo hi none = ((its.drop (HT.sIx its.length 0 lo)).take (HT.sIx its.length its.length hi - HT.sIx its.length 0 lo)).toArray := by
  obtain ⟨h1, h2, h3⟩ := slice_bounds lo hi its.toArray.size
  unfold slicePick
  rw [h1, h2, h3]
  simp only [sliceRange_one, pick_run, List.size_toArray] <;> rfl
/-- xs[lo:hi] of a list: a new list -/
noncomputable def rSlL (K : PySem.W.Frag) : V → Option Int → Option Int → Hp → VK → Prop := fun x lo hi H Q => ∃ a xs, x = .ref a ∧ SqL K H a xs ∧ ∀ p, H p = none → Q (.ref p) (upd H p (.lst (cutV xs lo hi)))
theorem sl_list : SlR X (rSlL X.K) := by
  intro pins s σ H x v vl vu lo hi sl Q I rx hs pl pu h
  obtain ⟨a, xs, rfl, hx, q⟩ := h
  cases rx
  obtain ⟨its, r, ht, hz⟩ := I.list hx
  have hlen := r.length
  refine ⟨"list", _, slot_list_getitem.lookup, ht.isList.typeIs, ?_⟩
  refine wpAny_getItem_list_slice ht.isList hs pl pu .none (by simp) ?_ (by rw [List.size_toArray] <;> omega)
  rw [slicePick_cut, ← hlen]
  refine ⟨.ref s.heap.objs.size, _, I.laid (t' := s.toks) (o := .lst (cutV xs lo hi)) (fun b ob q => Heap.get?_push_of_some _ q) (Nat.le_refl _) ?_, rfl, q _ (I.hok.fresh (Nat.le_refl _))⟩
  exact ⟨Nat.le_trans (cutV_length xs lo hi) hz, _, 0, (r.drop (HT.sIx xs.length 0 lo)).take (HT.sIx xs.length xs.length hi - HT.sIx xs.length 0 lo), Heap.get?_push_size _ rfl⟩

/-! ### in, not in: flat items -/
noncomputable def flatV : V → Bool
  | .non => true
  | .bl _ => true
  | .int _ => true
  | .str _ => true
  | _ => false
/-- == of flat values -/
noncomputable def eqV : V → V → Bool
  | .non, .non => true
  | .bl a, .bl b => a == b
  | .bl a, .int b => (if a then 1 else 0) == b
  | .int a, .bl b => a == (if b then 1 else 0)
  | .int a, .int b => a == b
  | .str a, .str b => a == b
  | _, _ => false
theorem eqAt_V {A : Around} {s : Shared} {y x : V} {u v : Value} (ry : RelV y u) (rx : RelV x v) (fy : flatV y = true) (fx : flatV x = true) : SeqAt.EqAt A s u v (eqV y x) := by
  cases y with
  | non =>
    cases ry
    cases x with
    | non => cases rx; exact SeqAt.EqAt.same _
    | bl b => cases rx; exact SeqAt.EqAt.none_bool b
    | int b => obtain ⟨t, rfl⟩ := rx; exact SeqAt.EqAt.none_int b t
    | str b => obtain ⟨t, rfl⟩ := rx; exact SeqAt.EqAt.none_str b t
    | _ => exact absurd (show false = true from fx) Bool.false_ne_true
  | bl a =>
    cases ry
    cases x with
    | non => cases rx; exact SeqAt.EqAt.bool_none a
    | bl b => cases rx; exact SeqAt.EqAt.bool_bool a b
    | int b => obtain ⟨t, rfl⟩ := rx; exact SeqAt.EqAt.bool_int a b t
    | str b => obtain ⟨t, rfl⟩ := rx; exact SeqAt.EqAt.bool_str a b t
    | _ => exact absurd (show false = true from fx) Bool.false_ne_true
  | int a =>
    obtain ⟨t', rfl⟩ := ry
    cases x with
    | non => cases rx; exact SeqAt.EqAt.int_none a t'
    | bl b => cases rx; exact SeqAt.EqAt.int_bool a t' b
    | int b => obtain ⟨t, rfl⟩ := rx; exact SeqAt.EqAt.int_int a t' b t
    | str b => obtain ⟨t, rfl⟩ := rx; exact SeqAt.EqAt.int_str a t' b t
    | _ => exact absurd (show false = true from fx) Bool.false_ne_true
  | str a =>
    obtain ⟨t', rfl⟩ := ry
    cases x with
    | non => cases rx; exact SeqAt.EqAt.str_none a t'
    | bl b => cases rx; exact SeqAt.EqAt.str_bool a t' b
    | int b => obtain ⟨t, rfl⟩ := rx; exact SeqAt.EqAt.str_int a t' b t
    | str b => obtain ⟨t, rfl⟩ := rx; exact SeqAt.EqAt.str_str a t' b t
    | _ => exact absurd (show false = true from fx) Bool.false_ne_true
  | _ => exact absurd (show false = true from fy) Bool.false_ne_true
/-- the items' answers, read off the values (a value's own answer does not lean on its token) -/
noncomputable def eqU (x : V) (u : Value) : Bool := match u with
  | .none => eqV .non x
  | .bool b => eqV (.bl b) x
  | .int i _ => eqV (.int i) x
  | .str z _ => eqV (.str z) x
  | _ => false
theorem eqU_of {x y : V} {u : Value} (r : RelV y u) (f : flatV y = true) : eqU x u = eqV y x := by
  cases y with
  | non => cases r; rfl
  | bl b => cases r; rfl
  | int i => obtain ⟨t, rfl⟩ := r; rfl
  | str z => obtain ⟨t, rfl⟩ := r; rfl
  | _ => exact absurd (show false = true from f) Bool.false_ne_true
theorem any_eqU {x : V} : ∀ {xs : List V} {us : List Value}, Vals xs us → xs.all flatV = true → us.any (eqU x) = xs.any fun y => eqV y x
  | _, _, .nil, _ => rfl
  | y :: xs, u :: us, .cons r t, f => by
    rw [List.all_cons, Bool.and_eq_true] at f
    rw [List.any_cons, List.any_cons, eqU_of r f.1, any_eqU t f.2]
theorem mem_eqAt {A : Around} {s : Shared} {x : V} {v : Value} (rx : RelV x v) (fx : flatV x = true) : ∀ {xs : List V} {us : List Value}, Vals xs us → xs.all flatV = true → ∀ u ∈ us, SeqAt.EqAt A s u v (eqU x u)
  | _, _, .nil, _ => fun u hu => by cases hu
  | y :: xs, u :: us, .cons r t, f => fun u' hu => by
    rw [List.all_cons, Bool.and_eq_true] at f
    rcases List.mem_cons.mp hu with rfl | hu
    · rw [eqU_of r f.1]; exact eqAt_V r rx f.1 fx
    · exact mem_eqAt rx fx t f.2 u' hu
noncomputable def inV (x : V) (xs : List V) : Bool := xs.any fun y => eqV y x
/-- x in a list or tuple of flat items -/
noncomputable def rIn (K : PySem.W.Frag) (neg : Bool) : R2 := fun x y H Q => ∃ p xs, y = .ref p ∧ (SqL K H p xs ∨ SqT K H p xs) ∧ flatV x = true ∧ xs.all flatV = true ∧ Q (.bl (if neg then !inV x xs else inV x xs)) H
theorem op_in_seq : OpR X (compareOp .In) (rIn X.K false) := by
  intro pins s σ H x y v u Q I rx ry h
  obtain ⟨p, xs, rfl, hq, fx, fs, q⟩ := h
  cases ry
  rcases hq with hq | hq
  · obtain ⟨its, r, pl, hz⟩ := I.list hq
    refine SeqAt.in_listAt (eqU x) pl.isList (fun w hw => mem_eqAt rx fx r fs w (by simpa using hw)) ⟨.bl _, H, I, rfl, ?_⟩
    rw [show its.toArray.any (eqU x) = its.any (eqU x) by simp, any_eqU r fs]
    exact q
  · obtain ⟨its, r, pl, hz⟩ := I.tuple hq
    refine SeqAt.in_tupleAt (eqU x) pl (fun w hw => mem_eqAt rx fx r fs w (by simpa using hw)) ⟨.bl _, H, I, rfl, ?_⟩
    rw [show its.toArray.any (eqU x) = its.any (eqU x) by simp, any_eqU r fs]
    exact q
theorem op_notIn_seq : OpR X (compareOp .NotIn) (rIn X.K true) := by
  intro pins s σ H x y v u Q I rx ry h
  obtain ⟨p, xs, rfl, hq, fx, fs, q⟩ := h
  cases ry
  rcases hq with hq | hq
  · obtain ⟨its, r, pl, hz⟩ := I.list hq
    refine SeqAt.notIn_listAt (eqU x) pl.isList (fun w hw => mem_eqAt rx fx r fs w (by simpa using hw)) ⟨.bl _, H, I, rfl, ?_⟩
    rw [show its.toArray.any (eqU x) = its.any (eqU x) by simp, any_eqU r fs]
    exact q
  · obtain ⟨its, r, pl, hz⟩ := I.tuple hq
    refine SeqAt.notIn_tupleAt (eqU x) pl (fun w hw => mem_eqAt rx fx r fs w (by simpa using hw)) ⟨.bl _, H, I, rfl, ?_⟩
    rw [show its.toArray.any (eqU x) = its.any (eqU x) by simp, any_eqU r fs]
    exact q

/-! ### len, list(x), tuple(x) of any list or tuple that is read -/
theorem call_len_seq : CallR X (.builtin "len") (fun xs H Q => ∃ p ys, xs = [.ref p] ∧ (SqL X.K H p ys ∨ SqT X.K H p ys) ∧ Q (.int ys.length) H) := by
  intro pins s σ H xs us Q I r h
  obtain ⟨p, ys, rfl, hq, q⟩ := h
  obtain ⟨u, rfl, rx⟩ := vals1 r
  cases rx
  have hn := line63
  rcases hq with hq | hq
  · obtain ⟨its, r', pl, hz⟩ := I.list hq
    have hlen := r'.length
    exact Calls.call_len_list pl.isList (by simp only [List.size_toArray] <;> omega) ⟨.int ys.length, H, I.tok _, ⟨s.toks + 1, by rw [List.size_toArray, hlen]⟩, q⟩
  · obtain ⟨its, r', pl, hz⟩ := I.tuple hq
    have hlen := r'.length
    exact len_tuple pl (by simp only [List.size_toArray] <;> omega) ⟨.int ys.length, H, I.tok _, ⟨s.toks + 1, by rw [List.size_toArray, hlen]⟩, q⟩
theorem call_list_of : CallR X (.type "list") (fun xs H Q => ∃ p ys, xs = [.ref p] ∧ (SqL X.K H p ys ∨ SqT X.K H p ys) ∧ ∀ l, H l = none → Q (.ref l) (upd H l (.lst ys))) := by
  intro pins s σ H xs us Q I r h
  obtain ⟨p, ys, rfl, hq, q⟩ := h
  obtain ⟨u, rfl, rx⟩ := vals1 r
  cases rx
  have fin : ∀ (its : List Value), Vals ys its → ys.length ≤ sizeLine → ∀ (h' : Heap) (c' : Nat), (∀ b o', s.heap.get? b = some o' → h'.get? b = some o') →
      h'.get? s.heap.objs.size = some { cls := .type "list", dict := none, data := .seq its.toArray c', slots := #[] } → EP X pins σ Q (.ref s.heap.objs.size) { s with heap := h' } := fun its r' hz h' c' kp e =>
    ⟨.ref s.heap.objs.size, _, I.laid (t' := s.toks) kp (Nat.le_refl _) (show ObjOk X.prog X.w _ h' _ (.lst ys) from ⟨hz, its, c', r', e⟩), rfl, q _ (I.hok.fresh (Nat.le_refl _))⟩
  rcases hq with hq | hq
  · obtain ⟨its, r', pl, hz⟩ := I.list hq
    have hlen := r'.length
    obtain ⟨o, ho, hc, n, hd⟩ := pl.isList
    exact call_list_seq p (.inl rfl) ho hc hd (fun h' c' kp e => fin its r' hz h' c' kp e) (by simp only [List.size_toArray] <;> omega)
  · obtain ⟨its, r', pl, hz⟩ := I.tuple hq
    have hlen := r'.length
    obtain ⟨o, ho, hc, n, hd⟩ := pl
    exact call_list_seq p (.inr rfl) ho hc hd (fun h' c' kp e => fin its r' hz h' c' kp e) (by simp only [List.size_toArray] <;> omega)

/-! ### the call of a builtin's method: o.m(..) -/
/-- the value is of that builtin type -/
noncomputable def tyV (K : PySem.W.Frag) (T : String) (x : V) (H : Hp) : Prop := match x with
  | .str _ => T = "str"
  | .int _ => T = "int"
  | .ref p => (T = "list" ∧ ∃ xs, SqL K H p xs) ∨ (T = "tuple" ∧ ∃ o, K.lookup p = some o ∧ o.cls = .type "tuple" ∧ o.dict = none) ∨
      (T = "dict" ∧ ((∃ kvs, H p = some (.dK kvs)) ∨ ∃ kvs, H p = some (.dT kvs))) ∨ (T = "set" ∧ ∃ S n, H p = some (.set S n))
  | _ => False
theorem tyV_is {pins : List (Addr × Obj)} {σ : St} {H : Hp} {s : Shared} {T : String} {x : V} {v : Value} (I : Inv X pins σ H s) (r : RelV x v) (ty : tyV X.K T x H) :
    s.TypeIs v T ∧ ∀ a, v = .ref a → ∃ ob, s.heap.get? a = some ob ∧ ob.dict = none := by
  cases x with
  | str z =>
    obtain ⟨t, rfl⟩ := r
    cases (show T = "str" from ty)
    exact ⟨typeIs_str s z t, fun _ e => nomatch e⟩
  | int i =>
    obtain ⟨t, rfl⟩ := r
    cases (show T = "int" from ty)
    exact ⟨typeIs_int s i t, fun _ e => nomatch e⟩
  | ref p =>
    cases r
    rcases ty with ⟨rfl, xs, hq⟩ | ⟨rfl, o, hk, hc, hd⟩ | ⟨rfl, hk⟩ | ⟨rfl, S, n, hk⟩
    · obtain ⟨its, _, pl, _⟩ := I.list hq
      refine ⟨pl.isList.typeIs, fun a e => ?_⟩
      cases e
      obtain ⟨o, n, e, c, hd, _⟩ := pl
      exact ⟨o, e, hd⟩
    · refine ⟨⟨o, I.kIn p o hk, hc⟩, fun a e => ?_⟩
      cases e
      exact ⟨o, I.kIn _ o hk, hd⟩
    · have z : ∃ o, s.heap.get? p = some o ∧ o.ExactDict := by
        rcases hk with ⟨kvs, hk⟩ | ⟨kvs, hk⟩
        · obtain ⟨_, _, _, _, o, _, _, e, ex, _⟩ := I.hok p _ hk
          exact ⟨o, e, ex⟩
        · obtain ⟨_, _, _, _, o, _, _, e, ex, _⟩ := I.hok p _ hk
          exact ⟨o, e, ex⟩
      obtain ⟨o, e, ex⟩ := z
      refine ⟨⟨o, e, ex.1⟩, fun a e2 => ?_⟩
      cases e2
      exact ⟨o, e, ex.2.1⟩
    · obtain ⟨o, _, _, _, e, ex, _⟩ := I.hok p _ hk
      refine ⟨⟨o, e, ex.1⟩, fun a e2 => ?_⟩
      cases e2
      exact ⟨o, e, ex.2.1⟩
  | _ => exact False.elim ty
noncomputable def tBM (K : PySem.W.Frag) (T : String) (r : V → List V → Hp → VK → Prop) (to : TE) (t : TA) : TE := fun σ H Q => to σ H fun x H1 => tyV K T x H1 ∧ t σ H1 fun xs H2 => r x xs H2 Q
variable {o e : Expr} {es : List Expr} {to : TE} {t : TA} {name : Str} {apos cpos : Pos} {T id : String} {r : V → List V → Hp → VK → Prop}
theorem pe_bm (pa : PlainAttrs T) (slot : Slot T name id) (hty : typeOf (.builtin id) = pure (.type "method_descriptor")) (hm : MtR X id r) (ho : PE X o to) (ha : PA X (e :: es) t)
    (hbase : attributeBase o name X.env (eval o X.env) = eval o X.env := by rfl)
    (hfew : ((backTo cpos (starEach (e :: es) X.env)).all (fun x => !x.1) && (backToKw cpos (keywordEach [] X.env)).all (fun x => x.1.isSome)
      && decide ((e :: es).length + ([] : List Keyword).length + (if ([] : List Keyword).isEmpty then 0 else 1) < 30)) = true := by rfl)
    (hline : (apos.endLine == cpos.line) = true := by rfl) (hs : starEach (e :: es) X.env = (false, eval e X.env) :: starEach es X.env := by rfl) (hplain : (backTo cpos (starEach es X.env)).any (·.1) = false := by rfl) :
    PE X (.Call (.Attribute o name apos) (e :: es) [] cpos) (tBM X.K T r to t) := by
  intro pins s σ H Q I h
  refine wpAny_Call_method_late hbase hfew hline rfl (thn (ho pins s σ H _ I h) fun v s1 ⟨x, H1, I1, r1, ty, q1⟩ => ?_)
  obtain ⟨h1, h2⟩ := tyV_is I1 r1 ty
  refine ⟨T, id, pa, slot, hty, h1, h2, ?_⟩
  have hA := ha cpos pins s1 σ H1 _ I1 q1
  rw [hs] at hA ⊢
  refine Calls.callWith_builtin (by show (false || (backTo cpos (starEach es X.env)).any (·.1)) = false; rw [hplain] <;> rfl) (Calls.evalArgs_plain ?_)
  exact thn hA fun us s2 ⟨vs, H2, I2, r2, q2⟩ => hm pins s2 σ H2 x vs v us Q I2 r1 r2 q2
/- xs.append(e), list.index on a module's tuple .. are MtR facts of 06m -/
end
end L2

namespace L2
open PySem PySem.Spec PyProof.Rows

noncomputable def MtM (X : Cx) (id : String) (r : V → List V → Hp → VK → Prop) : Prop :=
  ∀ (pins : List (Addr × Obj)) (s : Shared) (σ : St) (H : Hp) (x : V) (xs : List V) (v : Value) (us : List Value) (Q : VK), Inv X pins σ H s → RelV x v → Vals xs us → r x xs H Q →
    wpAny (model X.prog X.w) X.A (call (.builtin id) (v :: us)) (EP X pins σ Q) X.xe s

/-! ### lists of values -/
theorem Vals.one : ∀ {x : V} {us : List Value}, Vals [x] us → ∃ u, us = [u] ∧ RelV x u
  | _, _, .cons r .nil => ⟨_, rfl, r⟩

section
variable {X : Cx} {pins : List (Addr × Obj)} {σ : St} {H : Hp} {s : Shared} {l b : Addr} {xs ys zs : List V}

/-! ### the two steps: a tracked list is rewritten, a new list is laid -/
theorem Inv.lset {its its' : List Value} {n : Nat} {f : Array Value → Array Value} {t' : Nat} (I : Inv X pins σ H s) (hH : H l = some (.lst xs))
    (e : s.heap.get? l = some { cls := .type "list", data := .seq its.toArray n }) (hf : f its.toArray = its'.toArray) (hv : Vals ys its') (hz : ys.length ≤ sizeLine) :
    Inv X pins σ (upd H l (.lst ys)) { s with heap := s.heap.update l (Obj.mapSeq f), toks := t' } := by
  have q := PySem.IsL.update e f
  rw [hf] at q
  refine I.write (x := l) (e := l) (by rw [hH]; exact trivial) (.inl rfl) (fun b' u hb hu => (Heap.get?_update_other s.heap (Obj.mapSeq f) (Ne.symm hb)).trans hu) ⟨_, q⟩ ?_
  exact ⟨hz, its', _, hv, q⟩
theorem Inv.lnew {its : List Value} {t' : Nat} (I : Inv X pins σ H s) (hv : Vals ys its) (hz : ys.length ≤ sizeLine) :
    Inv X pins σ (upd H s.heap.objs.size (.lst ys)) { s with heap := s.heap.push { cls := .type "list", data := .seq its.toArray }, toks := t' } :=
  I.laid (fun _ _ q => Heap.get?_push_of_some _ q) (Nat.le_refl _) ⟨hz, its, 0, hv, Heap.get?_push_size _ rfl⟩
theorem Inv.fresh (I : Inv X pins σ H s) : H s.heap.objs.size = none := I.hok.fresh (Nat.le_refl _)
theorem Inv.lstM (I : Inv X pins σ H s) (hH : H l = some (.lst xs)) : xs.length ≤ sizeLine ∧ ∃ (its : List Value) (n : Nat), Vals xs its ∧ xs.length = its.length ∧ s.heap.get? l = some { cls := .type "list", data := .seq its.toArray n } := by
  obtain ⟨z, its, n, r, e⟩ := I.hok l _ hH
  exact ⟨z, its, n, r, r.length, e⟩

theorem notLongL {n : Nat} (h : n ≤ sizeLine) : Builtin.List.listTooLong n = false := by
  unfold Builtin.List.listTooLong
  exact decide_eq_false (by omega)
end

section
variable {X : Cx}

/-! ### methods -/
noncomputable def rAppend : V → List V → Hp → VK → Prop := fun x vs H Q => ∃ l xs y, x = .ref l ∧ vs = [y] ∧ H l = some (.lst xs) ∧ xs.length < sizeLine ∧ Q .non (upd H l (.lst (xs ++ [y])))
theorem mt_append : MtM X "list.append" rAppend := by
  intro pins s σ H x vs v us Q I rx rv h
  obtain ⟨l, xs, y, rfl, rfl, hH, hz, q⟩ := h
  cases rx
  obtain ⟨u, rfl, ru⟩ := rv.one
  obtain ⟨z, its, n, r, hl, e⟩ := I.lstM hH
  refine call_meets F.slot_list_append ⟨_, e, rfl⟩ F.entry_list_append (F.args_list_append_2 _ _) (PySem.list_append l its.toArray n u (by rw [List.size_toArray]; omega)) ⟨e, ?_⟩
  refine ⟨.non, _, I.lset (its' := its ++ [u]) hH e (by simp) (r.append (.cons ru .nil)) ?_, rfl, q⟩
  rw [List.length_append, List.length_singleton]
  omega

noncomputable def rExtend : V → List V → Hp → VK → Prop := fun x vs H Q => ∃ l b xs zs, x = .ref l ∧ vs = [.ref b] ∧ H l = some (.lst xs) ∧ H b = some (.lst zs) ∧ xs.length + zs.length ≤ sizeLine ∧ Q .non (upd H l (.lst (xs ++ zs)))
theorem mt_extend : MtM X "list.extend" rExtend := by
  intro pins s σ H x vs v us Q I rx rv h
  obtain ⟨l, b, xs, zs, rfl, rfl, hH, hB, hz, q⟩ := h
  cases rx
  obtain ⟨u, rfl, ru⟩ := rv.one
  cases ru
  obtain ⟨z, its, n, r, hl, e⟩ := I.lstM hH
  obtain ⟨z2, its2, n2, r2, hl2, e2⟩ := I.lstM hB
  have hsz : its.toArray.size + its2.toArray.size ≤ sizeLine := by rw [List.size_toArray, List.size_toArray]; omega
  have hlong : ¬ (!its.toArray.isEmpty && Builtin.List.listTooLong (its.toArray.size + its2.toArray.size)) = true := by
    rw [notLongL hsz, Bool.and_false]
    exact Bool.false_ne_true
  refine call_meets F.slot_list_extend ⟨_, e, rfl⟩ F.entry_list_extend (F.args_list_extend_2 _ _)
    (AutoSeq1.list_extend_list_list_0 l its.toArray n b its2.toArray n2 hlong (by rw [List.size_toArray]; omega) (by omega)) ⟨e, e2, ?_⟩
  refine ⟨.non, _, I.lset (its' := its ++ its2) hH e (by simp) (r.append r2) ?_, rfl, q⟩
  rw [List.length_append]
  omega





/-! ### list + list, list += list, list * int -/
noncomputable def rCat : R2 := fun x y H Q => ∃ l b xs zs, x = .ref l ∧ y = .ref b ∧ H l = some (.lst xs) ∧ H b = some (.lst zs) ∧ xs.length + zs.length ≤ sizeLine ∧ ∀ p, H p = none → Q (.ref p) (upd H p (.lst (xs ++ zs)))
theorem op_cat : OpR X (binaryOp .Add) rCat := by
  intro pins s σ H x y v u Q I rx ry h
  obtain ⟨l, b, xs, zs, rfl, rfl, hH, hB, hz, q⟩ := h
  cases rx
  cases ry
  obtain ⟨z, its, n, r, hl, e⟩ := I.lstM hH
  obtain ⟨z2, its2, n2, r2, hl2, e2⟩ := I.lstM hB
  refine PySem.P.add_list e e2 ?_ (by rw [List.size_toArray, List.size_toArray]; omega)
  have ea : its.toArray ++ its2.toArray = (its ++ its2).toArray := by simp
  rw [ea]
  exact ⟨.ref _, _, I.lnew (t' := s.toks) (r.append r2) (by rw [List.length_append]; omega), rfl, q _ I.fresh⟩

/-! ### del xs[i] -/
end

/-! ### xs[a:b] = ys -/
section
variable {prog : Program} {w : World} {A : Around} {E : Value → Shared → Prop} {s : Shared}
end

section
variable {X : Cx}
end
end L2

namespace Att
open PySem PySem.W PySem.Calls PyProof.Rows

/-! ### the script -/
theorem ints_of_wellAll {P : Params} {h : Heap} : ∀ (ns : List Int) (vs : List Value), WellAll P h vs (ns.map WData.int) → IntsAre vs ns := by
  intro ns
  induction ns with
  | nil =>
    intro vs w
    rw [List.map_nil] at w
    cases w
    exact .nil
  | cons n ns ih =>
    intro vs w
    rw [List.map_cons] at w
    cases w with
    | cons a b =>
      cases a
      exact .cons _ _ (ih _ b)

theorem script_of {l : OpenLaw} {n : Nat} (hn : l.most = some n) {P : Params} {h : Heap} {args : List WData} {vals : List Value}
    (hpre : l.row.toRowW.claim.pre args = true) (hwl : WellAll P h vals args) :
    ∃ a vs ns, vals = [Value.ref a] ∧ args = [WData.list (ns.map WData.int)] ∧ h.get? a = some { cls := .type "list", data := .seq vs.toArray } ∧ IntsAre vs ns ∧ ns.length ≤ n := by
  have hsh : WShape.hasAll [] args [.list .int] = true := (pre_splitW hpre).1
  have hc : l.pre.holds [] { args := args } = true := (pre_splitW hpre).2
  obtain ⟨d, r, rfl, h1, h2⟩ := hasAllW_cons hsh
  obtain rfl := hasAllW_nil h2
  obtain ⟨xs, rfl, h3⟩ := hasW_list h1
  obtain ⟨ns, rfl⟩ := items_int h3
  have hlen : ns.length ≤ n := by
    unfold OpenLaw.pre at hc
    have h4 : (WTm.not (.lt (.lit (.int (n : Int))) (.len (.arg 0)))).holds [] { args := [.list (ns.map .int)] } = true := by
      have h4 := (holds_andW hc).1
      rw [hn] at h4
      exact h4
    have h5 := condW_of h4 (w_not (w_lt w_lit (w_len_list (w_arg rfl))))
    rw [List.length_map] at h5
    refine Nat.le_of_not_lt fun q => ?_
    have q' : (n : Int) < ((ns.length : Nat) : Int) := by omega
    first
      | (rw [decide_eq_true q'] at h5; exact absurd h5 (by decide))
      | (simp at h5; omega)
  cases hwl with
  | cons w1 w2 =>
    cases w2
    cases w1 with
    | list ho hall => exact ⟨_, _, ns, rfl, rfl, ho, ints_of_wellAll ns _ hall, hlen⟩

theorem post_true (l : OpenLaw) (args : List WData) : l.row.toRowW.claim.post args (.bool true) args = true :=
  postW_of (r := l.row.toRowW) (X := (true == true))
    (show WShape.has [] (.bool true) .bool = true by first | rfl | decide | simp [WShape.has, WShape.arms, WShape.armsAll])
    (show (WTm.eq .res (.lit (.bool true))).value [] { args := args, res := some (.bool true), after := args } = some (.bool (true == true)) from w_eq_bool (w_res rfl) w_lit) rfl

/-! ### the attachment: holds_open's last premise (the goal 'hc' behind k_head) from a wpAny of the law's body -/

/-- the same from a codeAny of the CALL (for a layer whose function contracts speak of calls) -/
theorem attach_call {l : OpenLaw} {n : Nat} {q : Program} {loose : List Str} {XP : (Str → Option Value) → Heap → Prop} {YP : World → Heap → Prop} {d : DefRec}
    (hn : l.most = some n) (hdf : d.params.defaults = [])
    (call : ∀ (w : World) (s₀ s₁ : Shared) (mg mb : Str → Option Value) (fa : Addr) (o : Obj) (pm cd doc : Value) (a : Addr) (vs : List Value) (ns : List Int),
      Ground q loose [] XP w s₀ mg mb s₁.heap → YP w s₁.heap →
      s₁.heap.get? fa = some o → o.data = .func (docDef d.name d.params d.body d.scope pm cd doc) → s₁.heap.CodeRec cd d.name → mg d.name = some (.ref fa) →
      s₁.heap.get? a = some { cls := .type "list", data := .seq vs.toArray } → IntsAre vs ns → ns.length ≤ n → s₁.gens = #[] →
      codeAny (model l.prog w) callerA (.call (.ref fa) ⟨[.ref a], []⟩) (fun r s' => r = .ok (.ret (.bool true)) ∧ OldK s₁.heap s'.heap ∧ s'.os = s₁.os ∧ AllBare s'.gens) s₁) :
    WalkO q loose XP YP l.row.toRowW d [] (fun f vs => PySem.call f vs) := by
  intro w s₀ s₁ mg mb G Y fa o pm cd doc dV kV ho hd hcd hD hmg hg args vals as hpre hlay hrd hwl hlo
  obtain rfl : dV = .none := Dflts.none hD hdf
  obtain rfl : kV = .none := Dflts.noKw hD
  obtain ⟨a, vs, ns, rfl, rfl, hobj, hints, hlen⟩ := script_of hn hpre hwl
  refine enter_call (codeAny_mono (call w s₀ s₁ mg mb fa o pm cd doc a vs ns G Y ho (fd_plain hd) hcd hmg hobj hints hlen hg) fun r s' hq => ?_)
  obtain ⟨rfl, h2, h3, h4⟩ := hq
  exact ⟨.inl ⟨.bool true, .bool true, [], rfl, fun _ => rfl, .bool true, post_true l _, fun _ => ⟨List.Pairwise.nil, fun _ hm => (nomatch hm)⟩⟩, h2, h3, h4⟩


/-! ### rules over ANY heap (no ledger) from facts about the written part K: the library's own take a ledger (News) for what they write -/
section
variable {prog : Program} {w : World} {A : Around} {E : Value → Shared → Prop} {s : Shared} {K : Frag}





/-! the whole heap as the ledger: makes every rule that writes through a ledger a rule over any heap -/

end
end Att

namespace L2
open PySem PySem.Spec PyProof.Rows

theorem vals_ints : ∀ {vs : List Value} {ns : List Int}, IntsAre vs ns → Vals (ns.map V.int) vs
  | _, _, .nil => .nil
  | _, _, .cons n t h => .cons ⟨t, rfl⟩ (vals_ints h)

/-- nothing is tracked but the script, known to the object (or it is an object of the module) -/
noncomputable def Only (H : Hp) : Prop := ∀ b, H b = none ∨ ∃ o xs, H b = some (.frz o (.lst xs))

/-- THE HEAD: the law's promise, at the heap behind the top. F, the promise of the law's def, may use that base is part of the heap (so K.In base, base.Ns mainGlobals mg stand in Mod) -/
theorem law_call {P : Program} {w : World} {K : PySem.W.Frag} {mg mb : Str → Option Value} {CX : CXT} {k : Nat} {fa a : Addr} {fd : FuncData} {x : Str} {sp : Sp} {s₁ : Shared} {vs : List Value} {ns : List Int}
    (KX : K.In s₁.heap) (hns : s₁.heap.Ns mainGlobals mg) (hb : s₁.heap.Ns builtinsNs mb) (hbb : ∀ x : Str, x ≠ "__name__" → mb x = bootBuiltins x) (hlim : s₁.heap.NoLimit) (hg : s₁.gens = #[])
    (ha : s₁.heap.get? a = some { cls := .type "list", data := .seq vs.toArray }) (hi : IntsAre vs ns) (hl : ns.length ≤ sizeLine) (hr : Room k callerA)
    (F : ∀ base : Heap, K.In base → base.Ns mainGlobals mg → FnOk P w K mg base CX k fa fd [x] sp) (hbind : ∀ (s : Shared) (u : Value), BindsTo s fd ⟨[u], []⟩ [(x, u)])
    (hsp : ∀ H : Hp, Only H → SqL K H a (ns.map V.int) → sp [.ref a] H (fun v _ => v = .bl true) fun _ _ _ => False)
    (hCX : ∀ H e s', CX [] H s₁ (fun _ _ _ => False) e s' → False) :
    codeAny (model P w) callerA (.call (.ref fa) ⟨[.ref a], []⟩) (fun r s' => r = .ok (.ret (.bool true)) ∧ OldK s₁.heap s'.heap ∧ s'.os = s₁.os ∧ AllBare s'.gens) s₁ := by
  have rv := vals_ints hi
  have lenV := hi.length
  -- from an abstract heap in which nothing but the script may be tracked
  have core : ∀ H : Hp, Only H → SqL K H a (ns.map V.int) → HOk P w H s₁.heap → (∀ b, H b ≠ none → b = a) → (H a ≠ none → K.lookup a = none) →
      codeAny (model P w) callerA (.call (.ref fa) ⟨[.ref a], []⟩) (fun r s' => r = .ok (.ret (.bool true)) ∧ OldK s₁.heap s'.heap ∧ s'.os = s₁.os ∧ AllBare s'.gens) s₁ := by
    intro H hO hS hok hA hK
    have base_of : ∀ {b : Addr} {o : Obj}, s₁.heap.get? b = some o → H b = none → (hidT s₁.heap H).get? b = some o := fun e n => hidT_get e n
    have noA : ∀ {b : Addr} {o : Obj} {es : Array DictEntry} {ep : Nat}, s₁.heap.get? b = some o → o.data = .dict es ep → H b = none := fun {b o es ep} e d => by
      cases q : H b with
      | none => rfl
      | some u =>
        have e' : b = a := hA b (by rw [q]; simp)
        subst e'
        rw [ha] at e; cases e
        have d' : Data.seq vs.toArray _ = Data.dict es ep := d
        cases d'
    have nsK : ∀ {b : Addr} {m : Str → Option Value}, s₁.heap.Ns b m → (hidT s₁.heap H).Ns b m := fun {b m} ⟨o, es, ep, e, d, r⟩ => ⟨o, es, ep, base_of e (noA e d), d, r⟩
    have hKb : K.In (hidT s₁.heap H) := fun b o e => base_of (KX b o e) (by
      cases q : H b with
      | none => rfl
      | some u =>
        have e' : b = a := hA b (by rw [q]; simp)
        subst e'
        rw [hK (by rw [q]; simp)] at e; cases e)
    have hM : Mod K mg (hidT s₁.heap H) := ⟨hKb, nsK hns, ⟨mb, nsK hb, hbb⟩, let ⟨mc, h1, h2⟩ := hlim; ⟨mc, nsK h1, h2⟩⟩
    have e0 : Env0 P w K mg (hidT s₁.heap H) callerA [] s₁ H := ⟨rfl, hM, fun b o e => of_hidT e, Nat.le_of_eq (hidT_size _ _), trivial, fun b hb => absurd (show b ∈ ([] : List Addr) from hb) (by simp), hok, .of_eq hg⟩
    refine codeAny_mono ((F _ hKb (nsK hns)).run callerA [] s₁ H ⟨[.ref a], []⟩ [.ref a] [.ref a] _ _ hr e0 (hbind s₁ (.ref a)) (.cons rfl .nil) (hsp H hO hS)) fun r s' h => ?_
    cases r with
    | error e => exact (hCX H e s' h).elim
    | ok fl =>
      cases fl with
      | next => exact False.elim h
      | brk => exact False.elim h
      | cont => exact False.elim h
      | ret u =>
        obtain ⟨v, H', os, bare, un, hok', r', q⟩ := h
        have q' : v = .bl true := q
        subst q'
        obtain rfl : u = Value.bool true := r'
        refine ⟨rfl, OldK.of_keep fun b o e => ?_, os, bare⟩
        cases q : H b with
        | none => exact un.keep b o e q (by intro z; exact absurd (show b ∈ ([] : List Addr) from z) (by simp)) (by simp)
        | some u =>
          rcases hO b with z | ⟨ob, xs, z⟩
          · rw [q] at z; cases z
          · have z2 := un.frzs b ob _ z
            obtain ⟨e1, _⟩ := hok b _ z
            obtain ⟨e2, _⟩ := hok' b _ z2
            rw [e] at e1; cases e1
            exact e2
  cases hk : K.lookup a with
  | some o =>
    -- the script is one of the module's own objects
    have e := KX a o hk
    rw [ha] at e
    cases e
    refine core (fun _ => none) (fun _ => .inl rfl) (.inr ⟨_, vs.toArray, _, hk, rfl, rfl, rfl, by rw [List.size_toArray, lenV]; exact hl, by simpa using rv⟩) (fun b u z => by have z' : (none : Option HO) = some u := z; cases z') (fun b z => absurd rfl z) fun z => absurd rfl z
  | none =>
    refine core (fun b => if b = a then some (.frz { cls := .type "list", data := .seq vs.toArray } (.lst (ns.map V.int))) else none) (fun b => ?_) (.inl (.inr ⟨{ cls := .type "list", data := .seq vs.toArray }, if_pos rfl⟩)) (fun b u z => ?_) (fun b z => ?_) fun _ => hk
    · by_cases hb : b = a
      · exact .inr ⟨_, _, if_pos hb⟩
      · exact .inl (if_neg hb)
    · by_cases hb : b = a
      · have z' := (if_pos hb).symm.trans z
        cases z'
        subst hb
        exact ⟨ha, by rw [List.length_map]; exact hl, vs, _, rv, ha⟩
      · have z' := (if_neg hb).symm.trans z
        cases z'
    · by_cases hb : b = a
      · exact hb
      · exact absurd (if_neg hb) z
end L2

namespace L2
open PySem PySem.Spec PyProof.Rows

noncomputable abbrev KOf {K : PySem.W.Frag} {h : Heap} (_ : K.In h) : PySem.W.Frag := K

/-- the goal that k_head leaves (case hc), from the law's promise. F gives the function object fd (K's own) once, then the promise over every base -/
theorem walk_of {l : PySem.W.OpenLaw} {n k : Nat} {q : Program} {loose : List Str} {XP : (Str → Option Value) → Heap → Prop} {YP : World → Heap → Prop} {d : DefRec} {K : Params → PySem.W.Frag} {CX : World → CXT} {sp : World → Sp} {x : Str}
    (hn : l.most = some n) (hn2 : n ≤ sizeLine) (hdf : d.params.defaults = []) (hr : Room k callerA)
    (hY : ∀ (w : World) (h : Heap), YP w h → (K w.params).In h)
    (F : ∀ (w : World) (mg : Str → Option Value) (fa : Addr) (h : Heap), (K w.params).In h → h.Ns mainGlobals mg → mg d.name = some (.ref fa) →
      ∃ fd : FuncData, (∀ (s : Shared) (u : Value), BindsTo s fd ⟨[u], []⟩ [(x, u)]) ∧
        ∀ base : Heap, (K w.params).In base → base.Ns mainGlobals mg → FnOk l.prog w (K w.params) mg base (CX w) k fa fd [x] (sp w))
    (hsp : ∀ (w : World) (H : Hp) (a : Addr) (ns : List Int), ns.length ≤ n → Only H → SqL (K w.params) H a (ns.map V.int) → sp w [.ref a] H (fun v _ => v = .bl true) fun _ _ _ => False)
    (hCX : ∀ (w : World) (H : Hp) (s : Shared) (e : Value) (s' : Shared), CX w [] H s (fun _ _ _ => False) e s' → False) :
    PySem.W.WalkO q loose XP YP l.row.toRowW d [] (fun f vs => PySem.call f vs) := by
  refine Att.attach_call hn hdf fun w s₀ s₁ mg mb fa o pm cd doc a vs ns G Y ho hd hcd hmg hobj hints hlen hg => ?_
  have KX := hY w _ Y
  obtain ⟨fd, hb, hF⟩ := F w mg fa _ KX G.T.g hmg
  exact law_call KX G.T.g G.T.b G.T.builtins G.T.nolimit hg hobj hints (Nat.le_trans hlen hn2) hr hF hb (fun H hO hS => hsp w H a ns hlen hO hS) fun H e s' => hCX w H s₁ e s'
end L2

/- THE LAST THEOREM (shape; LID, My.* are yours):
   My.Adr: a structure of the addresses that your layer names (classes, functions); My.Txt K t: a structure (Prop) of the equations over K;
   My.txt_mk : {K} {implicit addresses ..} (e1 : nsIn K mainGlobals "law" = some (some (.ref f))) (e2 : K.lookup f = some ⟨oc, od, .func (fnOf "law" "law" params body scope dV kV doc pm an cdv ct), sl⟩) (e3 : codeIn K cdv "law" = true) .. : ∃ t, My.Txt K t

set_option maxRecDepth 100000 in
set_option maxHeartbeats 0 in
theorem PySem.Challenge.cw_LID_holds : PySem.Challenge.rw_LID.Holds := by
  w_on; o_law; k_head; (case hw => w_witness2)
  k_fill
  refine L2.walk_of (l := PySem.Challenge.rw_LID) (n := 63) (k := 40) (x := "script") (CX := fun w => ..) (sp := fun _ => My.sp_law) rfl (by decide) rfl ⟨rfl, by decide, by decide⟩ (fun w h Y => PySem.W.kIn_of Y) ?F ?S ?C
  case F =>
    intro w mg fa h KX G hmg
    have T : ∃ t, My.Txt (L2.KOf KX) t := by
      dsimp only [L2.KOf]                          -- K must stand as «<heap const> w.params» for k_is
      refine' My.txt_mk ?e1 ?e2 ?e3 ..
      (case e1 => PySem.W.k_is)                    -- in the order: a name -> its address -> its object -> its parts
      (case e2 => PySem.W.k_is)
      ..
    obtain ⟨t, T⟩ := T
    have e0 := hmg.symm.trans (PySem.W.mg_of KX G T.law)
    cases e0                                       -- fa is the law's own address
    exact ⟨_, fun s u => .of_eq rfl, fun base kb nb => My.law_fn T kb nb⟩     -- if «.of_eq rfl» comes too early: refine' ⟨_, ?b, fun base kb nb => My.law_fn T kb nb⟩; exact fun s u => .of_eq rfl
  case S => exact fun w H a ns hl hO hS => ..
  case C => exact ..
(the tactic k_is has no namespace: write k_is) -/

/-! SHORT WORDS over the layer: a def of the text, its body, what a loop and a test want. -/
namespace L2
open PySem PySem.Spec PyProof.Rows

/-! ### the text by places -/
noncomputable def defArgs (s : Stmt) : Arguments := match s with
  | .FunctionDef _ a _ _ _ _ _ _ _ _ => a
  | _ => { posonlyargs := [], args := [], vararg := none, kwonlyargs := [], kw_defaults := [], kwarg := none, defaults := [] }
noncomputable def defBody (s : Stmt) : List Stmt := match s with
  | .FunctionDef _ _ b _ _ _ _ _ _ _ => b
  | _ => []
noncomputable def defScope (s : Stmt) : Scope := match s with
  | .FunctionDef _ _ _ _ _ _ sc _ _ _ => sc
  | _ => { kind := .function, names := [], isGenerator := false, isCoroutine := false }

/-! ### no exception leaves a def -/
noncomputable abbrev CX0 : CXT := fun _ _ _ _ _ _ => False
noncomputable abbrev E0 : XK := fun _ _ _ => False
theorem pass0 {X : Cx} : Passes CX0 X E0 := fun _ _ _ _ _ _ _ h => h.elim

/-! ### a def (or method) of the text as it stands behind the top -/
structure Fun (K : PySem.W.Frag) (x qual : Str) (st : Stmt) (f : Addr) (fd : FuncData) : Prop where
  ex : ∃ (oc : Value) (od : Option Addr) (kV doc pm : Value) (an : Option Addr) (cdv ct : Value) (osl : Array (Option Value)),
    fd = PySem.W.fnOf x qual (defArgs st) (defBody st) (defScope st) .none kV doc pm an cdv ct ∧ K.lookup f = some ⟨oc, od, .func fd, osl⟩ ∧ PySem.W.codeIn K cdv qual = true
  kp : PySem.W.keepIn K (.ref f) = true
section
variable {P : Program} {w : World} {K : PySem.W.Frag} {mg : Str → Option Value} {base : Heap}
/-- THE RULE for a def: its body as a term of rules, and the reading of that term -/
theorem Fun.ok {x qual : Str} {st : Stmt} {f : Addr} {fd : FuncData} {N ps : List Str} {k : Nat} {sp : Sp} (F : Fun K x qual st f fd) (S : FnScope N ps (defScope st)) (len : ∀ vs H Q E, sp vs H Q E → vs.length = ps.length)
    (hbody : ∀ (cdv : Value) (A : Around) (outer : List Env) (s : Shared) (H : Hp) (vs : List V) (Q : VK) (E : XK), Room k (A.deeper (envOfC qual (defScope st) s.heap.objs.size f cdv)) → sp vs H Q E →
      ∃ t, PSs (cxOf CX0 P w K mg base N qual (defScope st) f cdv A outer s H E).nox (defBody st) t ∧ t { nx := fun _ H' => Q .non H', rt := Q } (start N vs) H) : FnOk P w K mg base CX0 (k + 1) f fd ps sp := by
  obtain ⟨oc, od, kV, doc, pm, an, cdv, ct, osl, rfl, lk, hcd⟩ := F.ex
  refine fn_of lk hcd S len fun A outer s H vs Q E hr hsp => ?_
  obtain ⟨t, h, q⟩ := hbody cdv A outer s H vs Q E hr hsp
  exact ⟨t, h.nox, q⟩
theorem fun_mk {x qual : Str} {st : Stmt} {f : Addr} {oc : Value} {od an : Option Addr} {osl : Array (Option Value)} {kV doc pm cdv ct : Value} (l : K.lookup f = some ⟨oc, od, .func (PySem.W.fnOf x qual (defArgs st) (defBody st) (defScope st) .none kV doc pm an cdv ct), osl⟩)
    (c : PySem.W.codeIn K cdv qual = true) (k : PySem.W.keepIn K (.ref f) = true) : Fun K x qual st f (PySem.W.fnOf x qual (defArgs st) (defBody st) (defScope st) .none kV doc pm an cdv ct) := ⟨⟨oc, od, kV, doc, pm, an, cdv, ct, osl, rfl, l, c⟩, k⟩
end
theorem small1000 {n : Nat} (h : n ≤ 1000) : n < sizeLine := Nat.lt_of_le_of_lt h (by decide)

/-! ### expressions in short: the name that stands in the i-th slot -/
section
variable {X : Cx}
theorem pv (i : Nat) {x : Str} {pos : Pos} (hN : X.N[i]? = some x := by rfl) (hv : Vis X.env.scope x := by first | exact Or.inl rfl | exact Or.inr (Or.inl rfl) | exact Or.inr (Or.inr rfl)) (hd : (x == ("__debug__" : Str)) = false := by decide)
    (hcd : (x == ("__classdict__" : Str)) = false := by decide) : PE X (.Name x pos) (tVar i) := pe_var hN hv hd hcd
end

/-! ### tests -/
theorem iteF {A B : Prop} (h : B) : if false = true then A else B := by
  rw [if_neg Bool.false_ne_true]
  exact h
theorem iteT {A B : Prop} (h : A) : if true = true then A else B := by
  rw [if_pos rfl]
  exact h
theorem ite2 {c A B : Prop} [Decidable c] (h1 : c → A) (h2 : ¬ c → B) : if c then A else B := by
  by_cases h : c
  · rw [if_pos h]
    exact h1 h
  · rw [if_neg h]
    exact h2 h
theorem iteNS {c A B : Prop} [Decidable c] (hc : c) (h : B) : if (!decide c) = true then A else B := by
  rw [decide_eq_true hc]
  exact iteF h

/-! ### heaps -/
/-- all that was tracked is as it was -/
noncomputable def Same (H H' : Hp) : Prop := ∀ b o, H b = some o → H' b = some o
theorem Same.refl (H : Hp) : Same H H := fun _ _ h => h
theorem Same.trans {H H1 H2 : Hp} (a : Same H H1) (b : Same H1 H2) : Same H H2 := fun c o h => b c o (a c o h)
theorem Same.free {H H' : Hp} (e : Same H H') {l : Addr} (h : H' l = Option.none) : H l = Option.none := by
  cases q : H l with
  | none => rfl
  | some o =>
    rw [e l o q] at h
    cases h
theorem Same.seq {K : PySem.W.Frag} {H H' : Hp} {a : Addr} {xs : List V} (e : Same H H') (h : SqL K H a xs) : SqL K H' a xs := by
  rcases h with (h | ⟨o, h⟩) | h
  · exact .inl (.inl (e _ _ h))
  · exact .inl (.inr ⟨o, e _ _ h⟩)
  · exact .inr h

end L2

/-! ### a list comprehension of one clause -/
namespace L2
open PySem PySem.Spec PyProof.Rows

section
variable {prog : Program} {w : World} {A : Around} {R : Result → Shared → Prop} {s : Shared}
theorem compLoop_own {elt target iter : Expr} {ifs : List Expr} {scope : Scope} {pos : Pos} {it acc : Value} {env : Env} (I : Nat → Shared → Prop)
    (turn : ∀ n s, I n s → wpAny (model prog w) A (pyNext it) (fun r s₁ => match r with
      | none => R (.ok .next) s₁
      | some v => wpAny (model prog w) A (letOwnedTupleGo target it v) (fun _ s₀ => wpAny (model prog w) A (assign target env v) (fun _ s₂ =>
          wpAny (model prog w) A (forIn ifs true fun c r => if r = true then do let ok ← isTrue c env (eval c env); pure (ForInStep.yield ok) else pure (ForInStep.yield r)) (fun ok s₃ =>
            if ok = true then wpAny (model prog w) A (eval elt env) (fun x s₄ =>
              wpAny (model prog w) A (call (.builtin "list.append") [acc, x]) (fun _ s₅ => ∃ m, m < n ∧ I m s₅) (fun _ _ => False) s₄) (fun _ _ => False) s₃
            else ∃ m, m < n ∧ I m s₃) (fun _ _ => False) s₂) (fun _ _ => False) s₀) (fun _ _ => False) s₁) (fun _ _ => False) s)
    (n : Nat) (h : I n s) :
    codeAny (model prog w) A (.compLoop (.ListComp elt [⟨target, iter, ifs, 0⟩] scope pos) 0 it acc env) R s := by
  refine codeAny_loop rfl I (fun n s hI => ?_) n h
  show wpAny _ A ((compTurn (.ListComp elt [⟨target, iter, ifs, 0⟩] scope pos) 0 it acc env).onRaise (fun x => do noteFrame x env; theTreesLotGoes x)) _ _ s
  refine wpAny_noted ?_
  rw [compTurn_list]
  refine wpAny_bind (wpAny_standAt (wpAny_bind (wpAny_mono (turn n s hI) (fun r s₁ h₁ => ?_) fun _ _ h' => h'.elim)))
  cases r with
  | none => exact wpAny_pure h₁
  | some v =>
    refine wpAny_bind (wpAny_mono h₁ (fun _ s₀ h₀ => ?_) fun _ _ h' => h'.elim)
    refine wpAny_bind (wpAny_mono h₀ (fun _ s₂ h₂ => wpAny_bind (wpAny_mono h₂ (fun ok s₃ h₃ => ?_) fun _ _ h' => h'.elim)) fun _ _ h' => h'.elim)
    cases ok with
    | false => exact wpAny_pure ⟨rfl, h₃⟩
    | true =>
      exact wpAny_bind (wpAny_bind (wpAny_mono h₃ (fun x s₄ h₄ => wpAny_bind (wpAny_mono h₄ (fun _ s₅ h₅ => wpAny_pure (wpAny_pure ⟨rfl, h₅⟩)) fun _ _ h' => h'.elim)) fun _ _ h' => h'.elim))
end

/-! the closure of a block -/
noncomputable def closList (env : Env) : List (Str × NameKind) → List (Str × Addr) → List (Str × Addr)
  | [], acc => acc
  | (x, k) :: r, acc => if k == .free then closList env r ((x, (env.cells.lookup x).getD 0) :: acc) else closList env r acc
theorem closureFor_list {scope : Scope} {env : Env} (h : ∀ x ∈ scope.names, x.2 = .free → ∃ c, env.cells.lookup x.1 = some c) : closureFor scope env = pure (closList env scope.names []) := by
  have all : ∀ (names : List (Str × NameKind)) (acc : List (Str × Addr)), (∀ x ∈ names, x.2 = .free → ∃ c, env.cells.lookup x.1 = some c) →
      (forIn names acc fun (x : Str × NameKind) (r : List (Str × Addr)) => (if (x.2 == NameKind.free) = true then do let a ← cellOf env x.1; pure (ForInStep.yield ((x.1, a) :: r)) else pure (ForInStep.yield r) : Sem (ForInStep (List (Str × Addr))))) = pure (closList env names acc) := by
    intro names
    induction names with
    | nil => intro acc _; rfl
    | cons x r ih =>
      intro acc hx
      obtain ⟨n, k⟩ := x
      have hr := fun y hy => hx y (List.mem_cons_of_mem _ hy)
      rw [List.forIn_cons]
      unfold closList
      by_cases hk : (k == NameKind.free) = true
      · obtain ⟨c, hc⟩ := hx (n, k) List.mem_cons_self (by simpa using hk)
        have hc' : env.cells.lookup n = some c := hc
        have e1 : cellOf env n = pure c := by unfold cellOf; rw [hc']
        simp only [hk, if_true, e1, pure_bind, hc', Option.getD_some]
        exact ih _ hr
      · simp only [hk, Bool.false_eq_true, if_false, pure_bind]
        exact ih _ hr
  have := all scope.names [] h
  simp only [closureFor]
  first
    | exact this
    | (refine Eq.trans ?_ (this); rfl)
    | (rw [show (forIn scope.names ([] : List (Str × Addr)) _ : Sem _) = _ from this]; rfl)

theorem closList_mem {env : Env} : ∀ (names : List (Str × NameKind)) (acc : List (Str × Addr)) (x : Str) (c : Addr), (x, c) ∈ closList env names acc → ((x, NameKind.free) ∈ names ∧ c = (env.cells.lookup x).getD 0) ∨ (x, c) ∈ acc
  | [], _, _, _, h => .inr h
  | (y, k) :: r, acc, x, c, h => by
    unfold closList at h
    split at h
    · rename_i hk
      have hk : k = .free := by simpa using hk
      rcases closList_mem r _ x c h with ⟨h1, h2⟩ | h1
      · exact .inl ⟨List.mem_cons_of_mem _ h1, h2⟩
      · rcases List.mem_cons.mp h1 with e | h1
        · cases e; subst hk; exact .inl ⟨List.mem_cons_self, rfl⟩
        · exact .inr h1
    · rcases closList_mem r _ x c h with ⟨h1, h2⟩ | h1
      · exact .inl ⟨List.mem_cons_of_mem _ h1, h2⟩
      · exact .inr h1
theorem closList_acc {env : Env} : ∀ (names : List (Str × NameKind)) (acc : List (Str × Addr)) (p : Str × Addr), p ∈ acc → p ∈ closList env names acc
  | [], _, _, h => h
  | (y, k) :: r, acc, p, h => by
    unfold closList
    split
    · exact closList_acc r _ p (List.mem_cons_of_mem _ h)
    · exact closList_acc r _ p h
theorem closList_has {env : Env} : ∀ (names : List (Str × NameKind)) (acc : List (Str × Addr)) (x : Str), (x, NameKind.free) ∈ names → (x, (env.cells.lookup x).getD 0) ∈ closList env names acc
  | [], _, _, h => nomatch h
  | (y, k) :: r, acc, x, h => by
    unfold closList
    rcases List.mem_cons.mp h with e | h
    · cases e
      rw [if_pos (by rfl)]
      exact closList_acc r _ _ List.mem_cons_self
    · split
      · exact closList_has r _ x h
      · exact closList_has r _ x h
theorem mem_lookup {α : Type} : ∀ {l : List (Str × α)} {x : Str} {c : α}, (x, c) ∈ l → ∃ d, l.lookup x = some d
  | (k, v) :: r, x, c, h => by
    rw [List.lookup_cons]
    cases hb : x == k with
    | true => exact ⟨v, rfl⟩
    | false =>
      rcases List.mem_cons.mp h with e | h
      · cases e; simp at hb
      · exact mem_lookup h
theorem closList_lookup {env : Env} {names : List (Str × NameKind)} {x : Str} {c : Addr} (h : (closList env names []).lookup x = some c) (hh : ∀ y ∈ names, y.2 = .free → ∃ c, env.cells.lookup y.1 = some c) :
    (x, NameKind.free) ∈ names ∧ env.cells.lookup x = some c := by
  rcases closList_mem names [] x c (mem_of_lookup h) with ⟨h1, h2⟩ | h1
  · obtain ⟨d, hd⟩ := hh _ h1 rfl
    have hd' : env.cells.lookup x = some d := hd
    rw [hd'] at h2
    exact ⟨h1, by rw [h2]; exact hd'⟩
  · exact nomatch h1
theorem closList_look {env : Env} {names : List (Str × NameKind)} {x : Str} (hx : (x, NameKind.free) ∈ names) (hh : ∀ y ∈ names, y.2 = .free → ∃ c, env.cells.lookup y.1 = some c) :
    ∃ c, (closList env names []).lookup x = some c ∧ env.cells.lookup x = some c := by
  obtain ⟨d, hd⟩ := mem_lookup (closList_has names [] x hx)
  exact ⟨d, hd, (closList_lookup hd hh).2⟩

/-! the cells of a block's own -/
theorem cf_not : ∀ (names : List (Str × NameKind)) (n : Nat) (acc : List (Str × Addr)) (x : Str), (x, NameKind.cell) ∉ names → (cellsFrom n names acc).lookup x = acc.lookup x
  | [], _, _, _, _ => rfl
  | (y, k) :: r, n, acc, x, h => by
    unfold cellsFrom
    have hr : (x, NameKind.cell) ∉ r := fun z => h (List.mem_cons_of_mem _ z)
    split
    · rename_i hk
      have hk : k = .cell := by simpa using hk
      rw [cf_not r _ _ x hr, List.lookup_cons]
      cases hb : x == y with
      | true =>
        have e : x = y := by simpa using hb
        exact absurd List.mem_cons_self (by subst e; subst hk; exact h)
      | false => rfl
    · exact cf_not r n acc x hr
theorem cf_own : ∀ (names : List (Str × NameKind)) (n : Nat) (acc : List (Str × Addr)) (x : Str), (x, NameKind.cell) ∈ names → ∃ c, n ≤ c ∧ (cellsFrom n names acc).lookup x = some c
  | [], _, _, _, h => nomatch h
  | (y, k) :: r, n, acc, x, h => by
    unfold cellsFrom
    by_cases hr : (x, NameKind.cell) ∈ r
    · split
      · obtain ⟨c, h1, h2⟩ := cf_own r (n + 1) ((y, n) :: acc) x hr
        exact ⟨c, by omega, h2⟩
      · exact cf_own r n acc x hr
    · have e : (x, NameKind.cell) = (y, k) := (List.mem_cons.mp h).resolve_right hr
      injection e with e1 e2
      subst e1
      subst e2
      rw [if_pos (by rfl), cf_not r _ _ x hr, List.lookup_cons]
      simp
theorem cf_lt : ∀ (names : List (Str × NameKind)) (h : Heap) (acc : List (Str × Addr)) (x : Str) (c : Addr), (cellsFrom h.objs.size names acc).lookup x = some c → (pushCells h names).IsCell c none ∨ acc.lookup x = some c
  | [], _, _, _, _, h => .inr h
  | (y, k) :: r, h, acc, x, c, e => by
    unfold cellsFrom at e
    unfold pushCells
    by_cases hk : (k == NameKind.cell) = true
    · rw [if_pos hk] at e ⊢
      have e' : (cellsFrom (h.push { cls := .type "cell", data := .cell none }).objs.size r ((y, h.objs.size) :: acc)).lookup x = some c := by rw [Heap.size_push]; exact e
      rcases cf_lt r _ _ x c e' with q | q
      · exact .inl q
      · rw [List.lookup_cons] at q
        cases hb : x == y with
        | true =>
          rw [hb] at q
          have q' : h.objs.size = c := Option.some.inj q
          subst q'
          exact .inl ((show (h.push { cls := .type "cell", data := .cell none }).IsCell h.objs.size none from ⟨_, Heap.get?_push_size _ rfl, rfl⟩).keeps (pushCells_keeps _ _))
        | false => rw [hb] at q; exact .inr q
    · rw [if_neg hk] at e ⊢
      exact cf_lt r h acc x c e
/-- addresses of own cells lie at n or above, they differ by name -/
theorem cf_inj : ∀ (names : List (Str × NameKind)) (n : Nat) (acc : List (Str × Addr)), (∀ x c, acc.lookup x = some c → c < n) → (∀ x y c, acc.lookup x = some c → acc.lookup y = some c → x = y) →
    ∀ x y c, (cellsFrom n names acc).lookup x = some c → (cellsFrom n names acc).lookup y = some c → x = y
  | [], _, _, _, h => h
  | (z, k) :: r, n, acc, h1, h2 => by
    unfold cellsFrom
    split
    · refine cf_inj r (n + 1) _ (fun x c e => ?_) fun x y c e e' => ?_
      · rw [List.lookup_cons] at e
        cases hb : x == z with
        | true => rw [hb] at e; exact (Option.some.inj e) ▸ Nat.lt_succ_self n
        | false => rw [hb] at e; exact Nat.lt_succ_of_lt (h1 x c e)
      · rw [List.lookup_cons] at e e'
        cases hb : x == z with
        | true =>
          rw [hb] at e
          have ec : n = c := Option.some.inj e
          cases hb' : y == z with
          | true => have a : x = z := by simpa using hb
                    have b : y = z := by simpa using hb'
                    rw [a, b]
          | false => rw [hb'] at e'; exact absurd (h1 y c e') (by rw [← ec]; exact Nat.lt_irrefl n)
        | false =>
          rw [hb] at e
          cases hb' : y == z with
          | true =>
            rw [hb'] at e'
            have ec : n = c := Option.some.inj e'
            exact absurd (h1 x c e) (by rw [← ec]; exact Nat.lt_irrefl n)
          | false => rw [hb'] at e'; exact h2 x y c e e'
    · exact cf_inj r n acc h1 h2

/-- what a block wants of its scope: N0, sc the names and the scope around; mp: for each name of the block its place among N0, where it is taken from there -/
structure BlkOk (N0 : List Str) (sc : Scope) (N : List Str) (scope : Scope) (mp : List (Option Nat)) : Prop where
  kind : scope.kind = .function
  nd : (scope.names.map (·.1)).Nodup
  freeB : (scope.names.all fun x => !decide (x.2 = .free) || (decide (sc.names.lookup x.1 = some .cell) || decide (sc.names.lookup x.1 = some .free))) = true
  len : mp.length = N.length
  map : ((List.range mp.length).all fun i => match mp[i]? with
    | some (some j) => (match N[i]?, N0[j]? with
      | some x, some y => decide (x = y) && decide (scope.names.lookup x = some .free)
      | _, _ => false)
    | _ => true) = true
theorem BlkOk.free {N0 : List Str} {sc : Scope} {N : List Str} {scope : Scope} {mp : List (Option Nat)} (S : BlkOk N0 sc N scope mp) : ∀ x ∈ scope.names, x.2 = .free → sc.names.lookup x.1 = some .cell ∨ sc.names.lookup x.1 = some .free := fun x hx e => by
  have q := List.all_eq_true.mp S.freeB x hx
  rw [decide_eq_true e] at q
  simpa using q
theorem BlkOk.at {N0 : List Str} {sc : Scope} {N : List Str} {scope : Scope} {mp : List (Option Nat)} (S : BlkOk N0 sc N scope mp) {i j : Nat} (h : mp[i]? = some (some j)) :
    ∃ x, N[i]? = some x ∧ N0[j]? = some x ∧ scope.names.lookup x = some .free := by
  have hi : i < mp.length := (List.getElem?_eq_some_iff.mp h).1
  have q := List.all_eq_true.mp S.map i (List.mem_range.mpr hi)
  rw [h] at q
  simp only at q
  cases e1 : N[i]? with
  | none => rw [e1] at q; simp at q
  | some x =>
    cases e2 : N0[j]? with
    | none => rw [e1, e2] at q; simp at q
    | some y =>
      rw [e1, e2] at q
      simp only [Bool.and_eq_true, decide_eq_true_eq] at q
      obtain ⟨q1, q2⟩ := q
      subst q1
      exact ⟨x, rfl, rfl, q2⟩
theorem nodup_lookup {α : Type} : ∀ {l : List (Str × α)} {x : Str} {a : α}, (l.map (·.1)).Nodup → (x, a) ∈ l → l.lookup x = some a
  | (k, v) :: r, x, a, nd, h => by
    have nd : (k :: r.map (·.1)).Nodup := nd
    obtain ⟨n1, n2⟩ := List.nodup_cons.mp nd
    rw [List.lookup_cons]
    rcases List.mem_cons.mp h with e | h'
    · cases e; simp
    · have ne : (x == k) = false := by
        cases hb : x == k with
        | false => rfl
        | true =>
          have e : x = k := by simpa using hb
          subst e
          exact (n1 (List.mem_map.mpr ⟨(x, a), h', rfl⟩)).elim
      rw [ne]
      exact nodup_lookup n2 h'

/-- the names' values at a block's entry -/
noncomputable def liftSt (mp : List (Option Nat)) (σ : St) : St := mp.map fun o => o.bind fun j => (σ[j]?).join

/-- the context of a comprehension's block -/
noncomputable def cxBlk (X : Cx) (N : List Str) (scope : Scope) (C : Addr) (cl : List (Str × Addr)) (s : Shared) (H : Hp) (fp : List Addr) (pins : List (Addr × Obj)) : Cx where
  prog := X.prog
  w := X.w
  K := X.K
  mg := X.mg
  base := X.base
  A := X.A
  N := N
  s₀ := s
  H₀ := H
  env := compEnvC scope (cellsFrom (C + 1) scope.names cl) C X.env
  outer := X.stack
  stack := X.stack
  ex := fp
  fn := fun x => decide (scope.names.lookup x = some .cell)
  calm := X.calm
  pn := X.pn ++ pins
  xe := fun _ _ => False

theorem relabel_lookup {env : Env} : ∀ {names : List (Str × NameKind)} {x : Str} {k : NameKind}, (names.map fun (n, k) => if (k == NameKind.free && env.scope.kind == .function && env.kindOf n == some .cell) then (n, NameKind.cell) else (n, k)).lookup x = some k →
    names.lookup x = some k ∨ (names.lookup x = some .free ∧ k = .cell ∧ env.kindOf x = some .cell)
  | [], _, _, h => by simp at h
  | (n, k') :: r, x, k, h => by
    have ih := @relabel_lookup env r x k
    rw [List.map_cons] at h
    rw [List.lookup_cons]
    cases hx : x == n with
    | true =>
      have e : x = n := by simpa using hx
      subst e
      by_cases hc : (k' == NameKind.free && env.scope.kind == .function && env.kindOf x == some .cell) = true
      · simp only [hc, if_true, List.lookup_cons, beq_self_eq_true, Option.some.injEq] at h
        rw [Bool.and_eq_true, Bool.and_eq_true] at hc
        obtain ⟨⟨c1, _⟩, c3⟩ := hc
        exact .inr ⟨by rw [show k' = .free by simpa using c1], h.symm, by simpa using c3⟩
      · simp only [hc, Bool.false_eq_true, if_false, List.lookup_cons, beq_self_eq_true, Option.some.injEq] at h
        exact .inl (by rw [h])
    | false =>
      refine ih ?_
      by_cases hc : (k' == NameKind.free && env.scope.kind == .function && env.kindOf n == some .cell) = true
      · simpa only [hc, if_true, List.lookup_cons, hx] using h
      · simpa only [hc, Bool.false_eq_true, if_false, List.lookup_cons, hx] using h

theorem newBlk {M : Model} {A : Around} {E : Value → Shared → Prop} {s : Shared} {scope : Scope} {globals : Addr} {cl : List (Str × Addr)} {qual : Str} {env : Env} {Q : Env → Shared → Prop}
    (h : Q { scope := scope, locals := s.heap.objs.size, globals := globals, cells := cellsFrom (s.heap.objs.size + 1) scope.names cl, qual := qual, func := none, code := env.code, frame := env.frame, builtins := env.builtins }
      { s with heap := pushCells (s.heap.push { cls := .type "dict", data := .dict #[] }) scope.names }) :
    wpAny M A (newFunctionEnv scope globals cl [] qual none .none (some env)) Q E s := by
  simp only [newFunctionEnv, Option.isSome_some, if_true]
  refine wpAny_bind (wpAny_alloc ?_)
  refine wpAny_bind (wpAny_layCells _ (fun name kind cells => by cases hkc : kind == NameKind.cell <;> simp [hkc]) _ _ _ _ ?_)
  rw [show ({ s with heap := s.heap.push { cls := .type "dict", data := .dict #[] } } : Shared).heap.objs.size = s.heap.objs.size + 1 from Heap.size_push ..]
  first
    | exact wpAny_bind (wpAny_pure (wpAny_pure h))
    | exact wpAny_pure h
    | (rw [List.forIn_nil]; exact wpAny_bind (wpAny_pure (wpAny_pure h)))

section
variable {X : Cx} {pins : List (Addr × Obj)} {σ : St} {H : Hp} {s : Shared}
/-- the block's entry -/
theorem blk_start {N : List Str} {scope : Scope} {mp : List (Option Nat)} {fp : List Addr} (S : BlkOk X.N X.env.scope N scope mp) (I : Inv X pins σ H s) (f : ∀ b ∈ fp, FpOk X pins H b) (fo : ∀ b ∈ fp, b < s.heap.objs.size) :
    Inv (cxBlk X N scope s.heap.objs.size (closList X.env scope.names []) s H fp pins) [] (liftSt mp σ) H { s with heap := pushCells (s.heap.push { cls := .type "dict", data := .dict #[] }) scope.names } := by
  have hk : ∀ b o, s.heap.get? b = some o → (pushCells (s.heap.push { cls := .type "dict", data := .dict #[] }) scope.names).get? b = some o := fun b o e => pushCells_keeps _ _ b o (Heap.get?_push_of_some _ e)
  have hfree : ∀ y ∈ scope.names, y.2 = .free → ∃ c, X.env.cells.lookup y.1 = some c := fun y hy hf => I.ok.has y.1 (S.free y hy hf)
  have clo : ∀ x c, (closList X.env scope.names []).lookup x = some c → (x, NameKind.free) ∈ scope.names ∧ X.env.cells.lookup x = some c := fun x c e => closList_lookup e hfree
  have old : ∀ x c, X.env.cells.lookup x = some c → c < s.heap.objs.size := fun x c e => by
    obtain ⟨v, q⟩ := I.cell x c e
    exact q.lt
  -- a name's cell: an own one, above, or one of the closure's
  have cell_of : ∀ x c, (cellsFrom (s.heap.objs.size + 1) scope.names (closList X.env scope.names [])).lookup x = some c → (s.heap.objs.size + 1 ≤ c ∧ (x, NameKind.cell) ∈ scope.names) ∨ ((x, NameKind.free) ∈ scope.names ∧ X.env.cells.lookup x = some c) := fun x c e => by
    by_cases hx : (x, NameKind.cell) ∈ scope.names
    · obtain ⟨d, h1, h2⟩ := cf_own scope.names (s.heap.objs.size + 1) (closList X.env scope.names []) x hx
      rw [h2] at e
      cases e
      exact .inl ⟨h1, hx⟩
    · rw [cf_not _ _ _ x hx] at e
      exact .inr (clo x c e)
  have isCell : ∀ x c, (cellsFrom (s.heap.objs.size + 1) scope.names (closList X.env scope.names [])).lookup x = some c → ∃ v, (pushCells (s.heap.push { cls := .type "dict", data := .dict #[] }) scope.names).IsCell c v := fun x c e => by
    have e' : (cellsFrom (s.heap.push { cls := .type "dict", data := .dict #[] }).objs.size scope.names (closList X.env scope.names [])).lookup x = some c := by rw [Heap.size_push]; exact e
    rcases cf_lt scope.names _ _ x c e' with q | q
    · exact ⟨none, q⟩
    · obtain ⟨v, z⟩ := I.cell x c (clo x c q).2
      exact ⟨v, z.keeps hk⟩
  refine ⟨⟨I.ok.mod, S.kind, I.ok.glob, I.ok.blt, Nat.le_refl _, ?_, ?_, ?_, I.ok.hd, I.ok.frames, .inl rfl, ?_, I.bs, Nat.le_trans I.ok.bsz I.sz, ?_, ?_, I.stack, I.stkFree⟩,
    rfl, I.bare, Un.kept hk, ⟨fun _ => none, ?_, ?_⟩, isCell, I.hok.fresh (Nat.le_refl _), ?_, ?_, I.hok.kept hk, ?_⟩
  · -- inj
    refine cf_inj scope.names _ _ (fun x c e => ?_) fun x y c e e' => I.ok.inj x y c (clo x c e).2 (clo y c e').2
    exact Nat.lt_succ_of_lt (old x c (clo x c e).2)
  · -- has
    intro x hx
    have key : (x, NameKind.cell) ∈ scope.names ∨ (x, NameKind.free) ∈ scope.names := by
      have hx' : (relabel scope X.env).names.lookup x = some .cell ∨ (relabel scope X.env).names.lookup x = some .free := hx
      rcases hx' with q | q
      · rcases relabel_lookup q with z | ⟨z, _, _⟩
        · exact .inl (mem_of_lookup z)
        · exact .inr (mem_of_lookup z)
      · rcases relabel_lookup q with z | ⟨z, _, _⟩
        · exact .inr (mem_of_lookup z)
        · exact .inr (mem_of_lookup z)
    by_cases hc : (x, NameKind.cell) ∈ scope.names
    · obtain ⟨d, _, h2⟩ := cf_own scope.names (s.heap.objs.size + 1) (closList X.env scope.names []) x hc
      exact ⟨d, h2⟩
    · obtain ⟨d, h2, _⟩ := closList_look (key.resolve_left hc) hfree
      exact ⟨d, by show (cellsFrom (s.heap.objs.size + 1) scope.names (closList X.env scope.names [])).lookup x = some d; rw [cf_not _ _ _ x hc]; exact h2⟩
  · -- cab
    intro x c hf e
    have hc : (x, NameKind.cell) ∈ scope.names := mem_of_lookup (of_decide_eq_true hf)
    rcases cell_of x c e with ⟨h1, _⟩ | ⟨h1, _⟩
    · exact Nat.le_of_succ_le h1
    · have q1 := nodup_lookup S.nd hc
      have q2 := nodup_lookup S.nd h1
      rw [q1] at q2; cases q2
  · -- exf
    intro b hb
    refine ⟨Nat.ne_of_lt (fo b hb), fun x c e z => ?_⟩
    subst z
    rcases cell_of x c e with ⟨h1, _⟩ | ⟨_, h1⟩
    · exact absurd (Nat.lt_of_lt_of_le (fo c hb) (Nat.le_of_succ_le h1)) (Nat.lt_irrefl _)
    · exact (f c hb).2.2.2.2.1 x c h1 rfl
  · -- noex
    intro b o e hb
    rcases (f b hb).2.2.2.1 with z | z
    · exact I.ok.noex b o e z
    · exact absurd (Nat.lt_of_lt_of_le (Nat.lt_of_lt_of_le (Heap.lt_size e) I.ok.bsz) z) (Nat.lt_irrefl _)
  · -- exfs
    intro b hb hs
    rcases List.mem_cons.mp (I.stkSub b hs) with z | z
    · exact (f b hb).2.1 z
    · exact (f b hb).2.2.1 z
  · -- the frame
    exact (Heap.Ns.new s.heap (.type "dict")).keeps (pushCells_keeps _ _)
  · -- the names taken from around
    intro i x v e1 e2 _
    have e2' : (mp.map fun o => o.bind fun j => (σ[j]?).join)[i]? = some (some v) := e2
    rw [List.getElem?_map] at e2'
    cases em : mp[i]? with
    | none => rw [em] at e2'; cases e2'
    | some o =>
      rw [em] at e2'
      cases o with
      | none => cases e2'
      | some j =>
        have e3 : (σ[j]?).join = some v := Option.some.inj e2'
        have e4 : σ[j]? = some (some v) := by
          cases q : σ[j]? with
          | none => rw [q] at e3; cases e3
          | some z => rw [q] at e3; exact congrArg some e3
        obtain ⟨y, h1, h2, h3⟩ := S.at em
        have h1' : some x = some y := e1.symm.trans h1
        cases h1'
        have hm := mem_of_lookup h3
        have vis : Vis X.env.scope x := (S.free _ hm rfl).elim (fun z => .inr (.inl z)) fun z => .inr (.inr z)
        obtain ⟨m, hn, hl⟩ := I.loc
        obtain ⟨u, r, l⟩ := hl j x v h2 e4 vis
        refine ⟨u, r, .inr ?_⟩
        have nc : (x, NameKind.cell) ∉ scope.names := fun z => by
          have q2 := nodup_lookup S.nd z
          rw [h3] at q2; cases q2
        obtain ⟨c, hc1, hc2⟩ := closList_look hm hfree
        have hc3 : (cellsFrom (s.heap.objs.size + 1) scope.names (closList X.env scope.names [])).lookup x = some c := by rw [cf_not _ _ _ x nc]; exact hc1
        have hcell : s.heap.IsCell c (some u) := by
          rcases l with ⟨hk', _⟩ | ⟨_, c', e5, e6⟩
          · exfalso
            have hk' : X.env.scope.names.lookup x = some .local := hk'
            rcases S.free _ hm rfl with z | z
            · have z : X.env.scope.names.lookup x = some .cell := z
              rw [hk'] at z; cases z
            · have z : X.env.scope.names.lookup x = some .free := z
              rw [hk'] at z; cases z
          · rw [hc2] at e5; cases e5; exact e6
        refine ⟨?_, c, hc3, hcell.keeps hk⟩
        rename_i hv
        have hv : Vis (relabel scope X.env) x := hv
        rcases hv with z | z | z
        · exfalso
          rcases relabel_lookup (show (relabel scope X.env).names.lookup x = some .local from z) with q | ⟨_, q, _⟩
          · rw [h3] at q; cases q
          · cases q
        · exact .inl z
        · exact .inr z
  · -- freeC
    intro x c e
    rcases cell_of x c e with ⟨h1, _⟩ | ⟨_, h1⟩
    · exact I.hok.fresh (Nat.le_of_succ_le h1)
    · exact I.freeC x c h1
  · -- pins
    intro p hp
    have hp' : p ∈ X.pn ++ pins := by simpa [cxBlk] using hp
    obtain ⟨e, n, ne, nf, d⟩ := I.pin p hp'
    refine ⟨hk _ _ e, n, Nat.ne_of_lt (Heap.lt_size e), fun z => ?_, d⟩
    rcases List.mem_cons.mp (I.stkSub _ z) with q | q
    · exact ne q
    · exact nf q
  · show (mp.map _).length = N.length
    rw [List.length_map]
    exact S.len
end

/-! ### the rule -/
noncomputable def PIfs (X : Cx) (ifs : List Expr) (t : TT) : Prop :=
  ∀ (pins : List (Addr × Obj)) (s : Shared) (σ : St) (H : Hp) (Q : Bool → Hp → Prop), Inv X pins σ H s → t σ H Q →
    wpAny (model X.prog X.w) X.A (forIn ifs true fun c r => if r = true then do let ok ← isTrue c X.env (eval c X.env); pure (ForInStep.yield ok) else pure (ForInStep.yield r)) (TP X pins σ Q) X.xe s
noncomputable def tYes : TT := fun _ H Q => Q true H
theorem pifs_nil {X : Cx} : PIfs X [] tYes := fun _ _ _ H _ I h => wpAny_tests_nil ⟨H, I, h⟩
theorem pifs_one {X : Cx} {c : Expr} {t : TT} (h : PT X c t) : PIfs X [c] t := fun pins s σ H Q I q => wpAny_tests_one (h pins s σ H Q I q)

noncomputable def tCompK (mp : List (Option Nat)) (g : TG) (tt : TT) (te : TE) (J : It) (σ : St) (H : Hp) (Q : VK) : Prop :=
  ∀ l, H l = none → ∃ W : Nat → Nat → List V → St → Hp → Prop, (∃ m, W 0 m [] (liftSt mp σ) (upd H l (.lst []))) ∧ ∀ i m acc σ' H', W i m acc σ' H' →
    (J.stop i H' ∧ Q (.ref l) H') ∨ (J.go i H' ∧ acc.length < sizeLine ∧ ∃ Nx : List V → St → Hp → Prop, (∀ acc' σ2 H2, Nx acc' σ2 H2 → ∃ m', m' < m ∧ W (i + 1) m' acc' σ2 H2) ∧
      ∀ x H2, J.yld i H' x H2 → g x σ' H2 fun σ2 H3 => tt σ2 H3 fun b H4 => if b = true then te σ2 H4 fun v H5 => H5 l = some (.lst acc) ∧ Nx (acc ++ [v]) σ2 (upd H5 l (.lst (acc ++ [v]))) else Nx acc σ2 H4)
noncomputable def tComp (mp : List (Option Nat)) (wi : TI) (g : TG) (tt : TT) (te : TE) : TE := fun σ H Q => wi σ H fun J H1 => tCompK mp g tt te J σ H1 Q

section
variable {X : Cx} {elt iter tg : Expr} {ifs : List Expr} {scope : Scope} {pos : Pos} {N : List Str} {mp : List (Option Nat)} {wi : TI} {g : TG} {tt : TT} {te : TE}

theorem comp_block {pins : List (Addr × Obj)} {σ : St} {H2 : Hp} {s2 : Shared} {it : Addr} {fp : List Addr} {tn : Nat → Heap → Prop} {J : It} {Q : VK} {RR : Value → Addr → Result → Shared → Prop} {E : Value → Shared → Prop}
    (hc : X.calm = true) (S : BlkOk X.N X.env.scope N scope mp) (I2 : Inv X pins σ H2 s2) (T : Turn X.prog X.w X.K tg J fp it tn) (st2 : tn 0 s2.heap) (f2 : ∀ b ∈ fp, FpOk X pins H2 b)
    (hg : ∀ C cl s H fp pins, PG (cxBlk X N scope C cl s H fp pins) tg g) (ht : ∀ C cl s H fp pins, PIfs (cxBlk X N scope C cl s H fp pins) ifs tt) (he : ∀ C cl s H fp pins, PE (cxBlk X N scope C cl s H fp pins) elt te)
    (k : tCompK mp g tt te J σ H2 Q)
    (fin : ∀ (l C : Addr) (m : Str → Option Value) (s' : Shared) (H' : Hp), Inv X pins σ H' s' → s'.heap.Ns C m → H' C = none → C ≠ X.env.locals → X.s₀.heap.objs.size ≤ C → (∀ x c, X.env.cells.lookup x = some c → c ≠ C) → (∀ p ∈ X.pn ++ pins, p.1 ≠ C) →
      Q (.ref l) H' → RR (.ref l) C (.ok .next) s') :
    wpAny (model X.prog X.w) X.A (newList []) (fun acc s₃ => wpAny (model X.prog X.w) X.A (newFunctionEnv scope X.env.globals (closList X.env scope.names []) [] X.env.qual none .none (some X.env)) (fun cenv s₄ =>
      codeAny (model X.prog X.w) X.A (.compStart (.ListComp elt [⟨tg, iter, ifs, 0⟩] scope pos) 0 (.ref it) acc { cenv with scope := relabel scope X.env }) (RR acc cenv.locals) s₄) E s₃) E s2 := by
  refine wpAny_newList ?_ (Nat.zero_le _)
  have I3 : Inv X pins σ (upd H2 s2.heap.objs.size (.lst [])) { s2 with heap := s2.heap.push { cls := .type "list", data := .seq ([] : List Value).toArray } } := I2.lnew (t' := s2.toks) (its := []) .nil (Nat.zero_le _)
  have fl : H2 s2.heap.objs.size = none := I2.fresh
  have nfl : s2.heap.objs.size ∉ fp := fun z => by
    obtain ⟨o, e, _⟩ := T.obj 0 _ st2 _ z
    exact absurd (Heap.lt_size e) (Nat.lt_irrefl _)
  have fo2 : ∀ b ∈ fp, b < s2.heap.objs.size := fun b hb => by
    obtain ⟨o, e, _⟩ := T.obj 0 _ st2 b hb
    exact Heap.lt_size e
  have f3 : ∀ b ∈ fp, FpOk X pins (upd H2 s2.heap.objs.size (.lst [])) b := fun b hb => by
    obtain ⟨h0, hr⟩ := f2 b hb
    exact ⟨by rw [upd_ne (Nat.ne_of_lt (fo2 b hb))]; exact h0, hr⟩
  have k3 := k s2.heap.objs.size fl
  clear k
  have st3 : tn 0 (s2.heap.push { cls := .type "list", data := .seq ([] : List Value).toArray }) := T.keep 0 _ _ st2 fun b _ o e => Heap.get?_push_of_some _ e
  have fo3 : ∀ b ∈ fp, b < (s2.heap.push { cls := .type "list", data := .seq ([] : List Value).toArray }).objs.size := fun b hb => by rw [Heap.size_push]; exact Nat.lt_succ_of_lt (fo2 b hb)
  generalize hs3 : ({ s2 with heap := s2.heap.push { cls := .type "list", data := .seq ([] : List Value).toArray } } : Shared) = s3 at I3 ⊢
  have st3 : tn 0 s3.heap := by rw [← hs3]; exact st3
  have fo3 : ∀ b ∈ fp, b < s3.heap.objs.size := by rw [← hs3]; exact fo3
  generalize s2.heap.objs.size = l at *
  generalize upd H2 l (.lst []) = H3 at *
  refine newBlk ?_
  have I4 := blk_start S I3 f3 fo3
  obtain ⟨W, ⟨m0, w0⟩, turn⟩ := k3
  have st4 : tn 0 (pushCells (s3.heap.push { cls := .type "dict", data := .dict #[] }) scope.names) := T.keep 0 _ _ st3 fun b _ o e => pushCells_keeps _ _ b o (Heap.get?_push_of_some _ e)
  generalize hs4 : ({ s3 with heap := pushCells (s3.heap.push { cls := .type "dict", data := .dict #[] }) scope.names } : Shared) = s4 at I4 ⊢
  have st4 : tn 0 s4.heap := by rw [← hs4]; exact st4
  -- the block's context, and what stays true of the iterator's objects in it
  have stat : ∀ {H' : Hp}, (∀ b ∈ fp, H' b = none) → ∀ b ∈ fp, FpOk (cxBlk X N scope s3.heap.objs.size (closList X.env scope.names []) s3 H3 fp pins) [] H' b := fun {H'} hn b hb => by
    refine ⟨hn b hb, (I4.ok.exf b hb).1, I4.ok.exfs b hb, .inl hb, (I4.ok.exf b hb).2, fun p hp => ?_⟩
    exact (f3 b hb).2.2.2.2.2 p (by simpa [cxBlk] using hp)
  have back : ∀ {σ' : St} {H' : Hp} {s' : Shared} {ps : List (Addr × Obj)}, Inv (cxBlk X N scope s3.heap.objs.size (closList X.env scope.names []) s3 H3 fp pins) ps σ' H' s' → Inv X pins σ H' s' := fun {σ' H' s' ps} I' =>
    I3.call' (ch := fp) I'.os I'.base I'.hok I'.bare fun b hb => ⟨(f3 b hb).2.2.2.1, (f3 b hb).2.1, (f3 b hb).2.2.2.2.1, (f3 b hb).2.2.2.2.2⟩
  have loop : codeAny (model X.prog X.w) X.A (.compLoop (.ListComp elt [⟨tg, iter, ifs, 0⟩] scope pos) 0 (.ref it) (.ref l) (compEnvC scope (cellsFrom (s3.heap.objs.size + 1) scope.names (closList X.env scope.names [])) s3.heap.objs.size X.env)) (RR (.ref l) s3.heap.objs.size) s4 := by
    refine compLoop_own (fun n s' => ∃ i acc σ' H', Inv (cxBlk X N scope s3.heap.objs.size (closList X.env scope.names []) s3 H3 fp pins) [] σ' H' s' ∧ tn i s'.heap ∧ (∀ b ∈ fp, H' b = none) ∧ W i n acc σ' H') ?_ m0
      ⟨0, [], liftSt mp σ, H3, I4, st4, fun b hb => (f3 b hb).1, w0⟩
    rintro n s5 ⟨i, acc, σ5, H5, I5, st5, fr5, w5⟩
    rcases turn i n acc σ5 H5 w5 with ⟨stop, q⟩ | ⟨go, hz, Nx, hN, step⟩
    · refine thn (T.done (cxBlk X N scope s3.heap.objs.size (closList X.env scope.names []) s3 H3 fp pins) rfl rfl rfl hc i [] s5 σ5 H5 _ I5 (stat fr5) st5 stop) fun r s6 ⟨hr, I6⟩ => ?_
      subst hr
      obtain ⟨m, hn, _⟩ := I6.loc
      refine fin l _ m s6 H5 (back I6) hn I6.free ?_ I3.sz (fun x c e z => ?_) (fun p hp z => ?_) q
      · exact Nat.ne_of_gt I3.lt
      · obtain ⟨v, y⟩ := I3.cell x c e
        exact absurd y.lt (by rw [z]; exact Nat.lt_irrefl _)
      · exact absurd (Heap.lt_size (I3.pin p hp).1) (by rw [z]; exact Nat.lt_irrefl _)
    · refine thn (T.item (cxBlk X N scope s3.heap.objs.size (closList X.env scope.names []) s3 H3 fp pins) rfl rfl rfl hc i [] s5 σ5 H5 _ I5 (stat fr5) st5 go) fun r s6 ⟨u, hr, h6⟩ => ?_
      subst hr
      refine thn h6 fun _ s7 ⟨x, H7, I7, r7, y7, st7, fr7⟩ => ?_
      have I7' := I7.pinned (stat fr7) (T.obj _ _ st7)
      have again : ∀ {s8 : Shared} {acc' : List V} {σ8 : St} {H8 : Hp}, Inv (cxBlk X N scope s3.heap.objs.size (closList X.env scope.names []) s3 H3 fp pins) ([] ++ pinsAt fp s7.heap) σ8 H8 s8 → Nx acc' σ8 H8 →
          ∃ m, m < n ∧ ∃ i acc σ' H', Inv (cxBlk X N scope s3.heap.objs.size (closList X.env scope.names []) s3 H3 fp pins) [] σ' H' s8 ∧ tn i s8.heap ∧ (∀ b ∈ fp, H' b = none) ∧ W i m acc σ' H' := fun {s8 acc' σ8 H8} I8 n8 => by
        obtain ⟨m', hm, w8⟩ := hN acc' σ8 H8 n8
        refine ⟨m', hm, i + 1, acc', σ8, H8, I8.unpinned, T.keep _ _ _ st7 fun b hb o e => (I8.pin (b, o) (List.mem_append_right _ (List.mem_append_right _ (mem_pinsAt hb e)))).1, fun b hb => ?_, w8⟩
        obtain ⟨o, e, d⟩ := T.obj _ _ st7 b hb
        exact (I8.pin (b, o) (List.mem_append_right _ (List.mem_append_right _ (mem_pinsAt hb e)))).2.1
      refine thn (hg _ _ _ _ _ _ _ s7 σ5 H7 x u _ I7' r7 (step x H7 y7)) fun _ s8 ⟨σ8, H8, I8, q8⟩ => ?_
      refine thn (ht _ _ _ _ _ _ _ s8 σ8 H8 _ I8 q8) fun b s9 ⟨H9, I9, q9⟩ => ?_
      cases b with
      | false =>
        rw [if_neg Bool.false_ne_true] at q9 ⊢
        exact again I9 q9
      | true =>
        rw [if_pos rfl] at q9 ⊢
        refine thn (he _ _ _ _ _ _ _ s9 σ8 H9 _ I9 q9) fun v s10 ⟨y, H10, I10, r10, q10, n10⟩ => ?_
        refine thn (mt_append _ s10 σ8 H10 (.ref l) [y] (.ref l) [v] (fun _ H' => Nx (acc ++ [y]) σ8 H') I10 rfl (.cons r10 .nil) ⟨l, acc, y, rfl, rfl, q10, hz, n10⟩) fun _ s11 ⟨_, H11, I11, _, q11⟩ => ?_
        exact again I11 q11
  exact codeAny_compStart_list loop (T.self _ 0 _ _ _ st4 loop)

/-- [elt for tg in iter if ..] -/
theorem pe_comp (hc : X.calm = true) (S : BlkOk X.N X.env.scope N scope mp) (hi : PI X tg iter wi)
    (hg : ∀ C cl s H fp pins, PG (cxBlk X N scope C cl s H fp pins) tg g) (ht : ∀ C cl s H fp pins, PIfs (cxBlk X N scope C cl s H fp pins) ifs tt) (he : ∀ C cl s H fp pins, PE (cxBlk X N scope C cl s H fp pins) elt te)
    (hs : ∀ x, foldedSetIterable iter X.env x = pure x := by intro _; rfl) : PE X (.ListComp elt [⟨tg, iter, ifs, 0⟩] scope pos) (tComp mp wi g tt te) := by
  intro pins s σ H Q I h
  rw [eval_ListComp]
  have hfree : ∀ y ∈ scope.names, y.2 = .free → ∃ c, X.env.cells.lookup y.1 = some c := fun y hy hf => I.ok.has y.1 (S.free y hy hf)
  refine wpAny_comprehension_free (use := none) rfl hs (closureFor_list hfree) S.kind (fun x hx e => nodup_lookup S.nd (by rw [← e]; exact hx)) ?_
  show wpAny _ _ (eval iter X.env) _ _ _
  refine thn (hi pins s σ H _ I h) fun v s1 h1 => thn h1 fun itv s2 h2 => ?_
  obtain ⟨it, fp, tn, J, H2, e, I2, T, st2, f2, k⟩ := h2
  subst e
  refine comp_block (RR := fun acc C => compPost (model X.prog X.w) X.A X.xe none (EP X pins σ Q) acc C) hc S I2 T st2 f2 hg ht he k ?_
  intro l C m s' H' I' hn hC h1 h2 h3 h4 q
  exact ⟨m, hn, fun h' hb => ⟨.ref l, H', I'.turned (t' := s'.toks) (it := C) (fun b o hbC e => hb.extBut b o hbC e) hC (Ne.symm (Ne.symm h1)) (.inr h2) h3 h4, rfl, q⟩⟩

/-- x = [elt for tg in iter if ..], x a local: the block's names go behind the store -/
theorem ps_setC {i : Nat} {x : Str} {pos' spos : Pos} (hN : X.N.Nodup) (hxi : X.N[i]? = some x) (hx : Loc X.env.scope x) (hc : X.calm = true) (S : BlkOk X.N X.env.scope N scope mp) (hi : PI X tg iter wi)
    (hg : ∀ C cl s H fp pins, PG (cxBlk X N scope C cl s H fp pins) tg g) (ht : ∀ C cl s H fp pins, PIfs (cxBlk X N scope C cl s H fp pins) ifs tt) (he : ∀ C cl s H fp pins, PE (cxBlk X N scope C cl s H fp pins) elt te)
    (hsw : swapsWith (.ListComp elt [⟨tg, iter, ifs, 0⟩] scope pos) (some (.Name x pos')) spos.line X.env = pure true)
    (hf : X.fn x = true ∨ X.env.scope.names.lookup x = some .local := by first | exact .inl rfl | exact .inr rfl | assumption)
    (hs : ∀ x, foldedSetIterable iter X.env x = pure x := by intro _; rfl) : PS X (.Assign [.Name x pos'] (.ListComp elt [⟨tg, iter, ifs, 0⟩] scope pos) spos) (tAsg (tComp mp wi g tt te) (gName i)) := by
  intro pins s σ H D I h
  have hfree : ∀ y ∈ scope.names, y.2 = .free → ∃ c, X.env.cells.lookup y.1 = some c := fun y hy hf => I.ok.has y.1 (S.free y hy hf)
  rw [exec_Assign_Name_used _ _ _ _ hsw]
  refine wpAny_bind (wpAny_standAt (wpAny_bind ?_))
  show wpAny _ _ (do let _ ← comprehension (.ListComp elt [⟨tg, iter, ifs, 0⟩] scope pos) scope X.env _ (newList []) false (eval iter X.env) (some (assign (.Name x pos') X.env))) _ _ s
  refine wpAny_bind (wpAny_mono (wpAny_comprehension_free (use := some (assign (.Name x pos') X.env)) (Q := fun _ s' => SP X pins D .next s') rfl hs (closureFor_list hfree) S.kind (fun x hx e => nodup_lookup S.nd (by rw [← e]; exact hx)) ?_) (fun _ s' hq => wpAny_pure (wpAny_pure hq)) fun _ _ e => e)
  refine thn (hi pins s σ H _ I h) fun v s1 h1 => thn h1 fun itv s2 h2 => ?_
  obtain ⟨it, fp, tn, J, H2, e, I2, T, st2, f2, k⟩ := h2
  subst e
  refine comp_block (Q := fun y H1 => gName i y σ H1 D.nx) (RR := fun acc C => compPost (model X.prog X.w) X.A X.xe (some (assign (.Name x pos') X.env)) (fun _ s' => SP X pins D .next s') acc C) hc S I2 T st2 f2 hg ht he k ?_
  intro l C m s' H' I' hn hC h1 h2 h3 h4 q
  show wpAny _ _ (assign (.Name x pos') X.env (.ref l)) _ _ _
  refine wpAny_assign_Name (store_ok2 I' hN hxi hx (v := .ref l) rfl (fun s'' I'' ⟨a, hsb, ha⟩ => ?_) hf)
  have hCa : C ≠ a := by
    rcases ha with z | z
    · rw [z]; exact h1
    · exact fun y => h3 x a z y.symm
  exact ⟨m, hn.sameBut hsb hCa, fun h' hb => ⟨_, H', I''.turned (t' := s''.toks) (it := C) (fun b o hbC e => hb.extBut b o hbC e) hC (Ne.symm (Ne.symm h1)) (.inr h2) h3 h4, q⟩⟩
end

/-! ### the forms one uses -/
section
variable {mp : List (Option Nat)} {g : TG} {tt : TT} {te : TE} {σ : St} {H : Hp} {Q : VK}
/-- over a list that the block leaves as it is -/
theorem comp_list {K : PySem.W.Frag} {a : Addr} {xs : List V} (Pv : Addr → Nat → List V → St → Hp → Prop) (h0 : ∀ l, H l = none → Pv l 0 [] (liftSt mp σ) (upd H l (.lst [])))
    (hl : ∀ l i acc σ' H', H l = none → Pv l i acc σ' H' → SqL K H' a xs ∧ acc.length ≤ i)
    (hs : ∀ l i x acc σ' H', H l = none → xs[i]? = some x → Pv l i acc σ' H' → g x σ' H' fun σ2 H3 => tt σ2 H3 fun b H4 => if b = true then te σ2 H4 fun v H5 => H5 l = some (.lst acc) ∧ Pv l (i + 1) (acc ++ [v]) σ2 (upd H5 l (.lst (acc ++ [v]))) else Pv l (i + 1) acc σ2 H4)
    (hd : ∀ l acc σ' H', H l = none → Pv l xs.length acc σ' H' → Q (.ref l) H') (hz : xs.length ≤ sizeLine) : tCompK mp g tt te (Itl K a) σ H Q := by
  intro l hn
  refine ⟨fun i m acc σ H => m = xs.length - i ∧ i ≤ xs.length ∧ Pv l i acc σ H, ⟨xs.length, by simp, Nat.zero_le _, h0 l hn⟩, ?_⟩
  rintro i m acc σ' H' ⟨rfl, hi, p⟩
  obtain ⟨q, ha⟩ := hl l i acc σ' H' hn p
  by_cases hlt : i < xs.length
  · refine .inr ⟨⟨xs, xs[i], q, by simp [hlt]⟩, by omega, Pv l (i + 1), fun acc' σ2 H2 p' => ⟨xs.length - (i + 1), by omega, rfl, hlt, p'⟩, fun x H2 y => ?_⟩
    obtain ⟨e, y⟩ := y
    subst e
    exact hs l i x acc σ' _ hn (y xs q) p
  · have e : i = xs.length := by omega
    subst e
    exact .inl ⟨⟨xs, q, Nat.le_refl _⟩, hd l acc σ' H' hn p⟩
theorem comp_range {lo : Int} {n : Nat} (Pv : Addr → Nat → List V → St → Hp → Prop) (h0 : ∀ l, H l = none → Pv l 0 [] (liftSt mp σ) (upd H l (.lst [])))
    (hl : ∀ l i acc σ' H', H l = none → Pv l i acc σ' H' → acc.length ≤ i)
    (hs : ∀ l i acc σ' H', H l = none → i < n → Pv l i acc σ' H' → g (.int (lo + i)) σ' H' fun σ2 H3 => tt σ2 H3 fun b H4 => if b = true then te σ2 H4 fun v H5 => H5 l = some (.lst acc) ∧ Pv l (i + 1) (acc ++ [v]) σ2 (upd H5 l (.lst (acc ++ [v]))) else Pv l (i + 1) acc σ2 H4)
    (hd : ∀ l acc σ' H', H l = none → Pv l n acc σ' H' → Q (.ref l) H') (hz : n ≤ sizeLine) : tCompK mp g tt te (Itr lo n) σ H Q := by
  intro l hn
  refine ⟨fun i m acc σ H => m = n - i ∧ i ≤ n ∧ Pv l i acc σ H, ⟨n, by simp, Nat.zero_le _, h0 l hn⟩, ?_⟩
  rintro i m acc σ' H' ⟨rfl, hi, p⟩
  have ha := hl l i acc σ' H' hn p
  by_cases hlt : i < n
  · refine .inr ⟨hlt, by omega, Pv l (i + 1), fun acc' σ2 H2 p' => ⟨n - (i + 1), by omega, rfl, hlt, p'⟩, fun x H2 y => ?_⟩
    obtain ⟨e, y⟩ := y
    subst e y
    exact hs l i acc σ' _ hn hlt p
  · have e : i = n := by omega
    subst e
    exact .inl ⟨Nat.le_refl _, hd l acc σ' H' hn p⟩
end
end L2
/-! ### built-in functions and comparisons over lists -/
namespace L2
open PySem PySem.Spec PyProof.Rows
section
variable {X : Cx}
theorem call_isinst : CallR X (.builtin "isinstance") (fun xs H Q => ∃ x n t b, xs = [x, V.ty n] ∧ TyOf X.K H x t ∧ PySem.W.kitOne X.K t (.type n) = some b ∧ Q (.bl b) H) := by
  intro pins s σ H xs us Q I r h
  obtain ⟨x, n, t, b, rfl, ty, e, q⟩ := h
  obtain ⟨u, w', rfl, rx, ry⟩ := vals2 r
  have ry : w' = Value.type n := ry
  subst ry
  exact isinst_ok I rx ty e fun tk => ⟨.bl b, H, I.tok tk, rfl, q⟩
theorem call_sum (hc : X.calm = true) : CallR X (.builtin "sum") (fun xs H Q => ∃ (p : Addr) (ns : List Int), xs = [.ref p] ∧ SqL X.K H p (ns.map V.int) ∧ Q (.int ns.sum) H) := by
  intro pins s σ H xs us Q I r h
  obtain ⟨p, ns, rfl, hS, q⟩ := h
  obtain ⟨u, rfl, ru⟩ := vals1 r
  cases ru
  obtain ⟨its, rv, pl, hz⟩ := I.list hS
  have hi : IntsAre its ns := intsAre_of rv
  have hall : AllInts its.toArray := hi.allInts
  obtain ⟨zs, ez⟩ := hall.items
  have hl : s.heap.IsList p (intItems zs) := by rw [← ez]; exact pl.isList
  refine sum_intListG (I.ok.hd hc) hl fun h' tk t' k => ⟨.int ns.sum, H, I.kept k, ⟨t', ?_⟩, q⟩
  have e1 : ns = numsOf (intItems zs).toList := by rw [← ez]; exact hi.numsOf.symm
  rw [e1, nums_intItems, preSum_eq, List.take_of_length_le (by simp)]
theorem call_sorted : CallR X (.builtin "sorted") (fun xs H Q => ∃ (p : Addr) (ns : List Int), xs = [.ref p] ∧ SqL X.K H p (ns.map V.int) ∧ ns.length < 64 ∧ ∀ (l : Addr) (ms : List Int), H l = none → ms.Perm ns → ms.Pairwise (· ≤ ·) → Q (.ref l) (upd H l (.lst (ms.map V.int)))) := by
  intro pins s σ H xs us Q I r h
  obtain ⟨p, ns, rfl, hS, h64, q⟩ := h
  obtain ⟨u, rfl, ru⟩ := vals1 r
  cases ru
  obtain ⟨its, rv, pl, hz⟩ := I.list hS
  have hi : IntsAre its ns := intsAre_of rv
  have hl := hi.length
  refine sorted_ints pl.isList hi (by omega) fun out ms a1 a2 a3 => ?_
  obtain ⟨e, he⟩ := sortedAll_at s.heap its out
  have hf : H (s.heap.objs.size + 1) = none := I.hok.fresh (Nat.le_succ _)
  refine ⟨.ref (s.heap.objs.size + 1), _, I.laid (t' := s.toks) (a := s.heap.objs.size + 1) (o := .lst (ms.map V.int)) (fun b u e => sortedAll_old e) (Nat.le_succ _) ⟨?_, out.toList, e, vals_ints a1, ?_⟩, rfl, q _ ms hf a2 a3⟩
  · rw [List.length_map, a2.length_eq]
    exact Nat.le_trans (Nat.le_of_lt h64) (by decide)
  · rw [Array.toArray_toList]
    exact he
theorem call_all (hc : X.calm = true) : CallR X (.builtin "all") (fun xs H Q => ∃ (p : Addr) (bs : List Bool), xs = [.ref p] ∧ SqL X.K H p (bs.map V.bl) ∧ Q (.bl (bs.all id)) H) := by
  intro pins s σ H xs us Q I r h
  obtain ⟨p, bs, rfl, hS, q⟩ := h
  obtain ⟨u, rfl, ru⟩ := vals1 r
  cases ru
  obtain ⟨its, rv, pl, hz⟩ := I.list hS
  have hlt : p < s.heap.objs.size := by obtain ⟨_, e, _⟩ := pl.isList; exact Heap.lt_size e
  have hlen : its.length = bs.length := by rw [← rv.length, List.length_map]
  refine call_all_walk (wpAny_pyIter_list pl.isList ?_)
  refine ⟨s.heap.objs.size, _, _, _, _, _, fun i => (bs[i]?).getD true, rfl, Walks.list (A := X.A.in1) (I.ok.hd hc) _ p (Nat.ne_of_lt hlt) its.toArray, ⟨⟨_, Heap.get?_push_size _ rfl, rfl, rfl⟩, pl.isList.push _⟩, ?_, fun h' tk hk => ?_⟩
  · intro i v s' Q' E' hv hq
    have hv' : its[i]? = some v := by simpa using hv
    have hi : i < bs.length := by rw [← hlen]; exact (List.getElem?_eq_some_iff.mp hv').1
    have e1 : (bs.map V.bl)[i]? = some (V.bl bs[i]) := by simp [hi]
    obtain ⟨w', h1, h2⟩ := rv.get e1
    rw [hv'] at h1
    cases h1
    have h2 : v = Value.bool bs[i] := h2
    subst h2
    have e2 : (bs[i]?).getD true = bs[i] := by simp [hi]
    have hq : Q' ((bs[i]?).getD true) s' := hq
    rw [e2] at hq
    exact wpAny_truthy_bool hq
  · have e3 : ((List.range its.toArray.size).all fun i => (bs[i]?).getD true) = bs.all id := by
      rw [List.size_toArray, hlen]
      apply Bool.eq_iff_iff.mpr
      rw [List.all_eq_true, List.all_eq_true]
      constructor
      · intro hh b hb
        obtain ⟨i, hi, e⟩ := List.getElem_of_mem hb
        have := hh i (List.mem_range.mpr hi)
        simp [hi] at this
        rw [← e]
        simpa using this
      · intro hh i hi
        have hi' := List.mem_range.mp hi
        have := hh bs[i] (List.getElem_mem hi')
        simpa [hi'] using this
    rw [e3]
    exact ⟨.bl (bs.all id), H, I.kept fun b o e => hk b o (by simp; exact Nat.ne_of_lt (Heap.lt_size e)) (Heap.get?_push_of_some _ e), rfl, q⟩
noncomputable def rEqI (K : PySem.W.Frag) (neg : Bool) : R2 := fun x y H Q => ∃ (a b : Addr) (ns ms : List Int), x = .ref a ∧ y = .ref b ∧ SqL K H a (ns.map V.int) ∧ SqL K H b (ms.map V.int) ∧ Q (.bl (decide (ns = ms) != neg)) H
theorem op_eq_ints (hu : X.A.units + 64 < cLine) : OpR X (compareOp .Eq) (rEqI X.K false) := by
  intro pins s σ H x y v u Q I rx ry h
  obtain ⟨a, b, ns, ms, rfl, rfl, h1, h2, q⟩ := h
  cases rx
  cases ry
  obtain ⟨its, rv, pl, hz⟩ := I.list h1
  obtain ⟨its2, rv2, pl2, hz2⟩ := I.list h2
  refine PySem.W.ke_eq_ints pl.isList pl2.isList (intsAre_of rv) (intsAre_of rv2) hu ⟨.bl (decide (ns = ms)), H, I, rfl, ?_⟩
  rw [Bool.bne_false] at q
  exact q
theorem op_ne_ints (hu : X.A.units + 64 < cLine) : OpR X (compareOp .NotEq) (rEqI X.K true) := by
  intro pins s σ H x y v u Q I rx ry h
  obtain ⟨a, b, ns, ms, rfl, rfl, h1, h2, q⟩ := h
  cases rx
  cases ry
  obtain ⟨its, rv, pl, hz⟩ := I.list h1
  obtain ⟨its2, rv2, pl2, hz2⟩ := I.list h2
  refine PySem.W.ke_ne_ints pl.isList pl2.isList (intsAre_of rv) (intsAre_of rv2) hu ⟨.bl (!decide (ns = ms)), H, I, rfl, ?_⟩
  rw [Bool.bne_true] at q
  exact q
noncomputable def CPowB (i j : Int) : Prop := 0 ≤ j ∧ (Builtin.Int.intBits i : Int) * j ≤ 2 ^ 27
end
end L2
/-! ### the operations by short names -/
namespace L2
open PySem PySem.Spec PyProof.Rows
noncomputable def oAdd : R2 := rI0 fun i j => .int (i + j)
noncomputable def oSub : R2 := rI0 fun i j => .int (i - j)
/-- far beyond all numbers here -/
noncomputable def HUGE : Int := 10 ^ 1000
theorem huge_log {i : Int} (h1 : -HUGE < i) (h2 : i < HUGE) : i.natAbs.log2 < 4000 := by
  have e : HUGE ≤ 2 ^ 4000 := by decide +kernel
  rcases Nat.eq_zero_or_pos i.natAbs with h0 | hp
  · rw [h0]; decide +kernel
  · refine (Nat.log2_lt (Nat.ne_of_gt hp)).mpr ?_
    have : (i.natAbs : Int) < 2 ^ 4000 := by omega
    exact_mod_cast this
theorem huge_bits {i : Int} (h1 : -HUGE < i) (h2 : i < HUGE) : Builtin.Int.intBits i ≤ 2 ^ 20 := by
  have h := huge_log h1 h2
  have e : (4001 : Nat) ≤ 2 ^ 20 := by decide
  unfold Builtin.Int.intBits
  split
  · exact Nat.zero_le _
  · omega
noncomputable def CMulA (i j : Int) : Prop := CMul i j ∨ ((-HUGE < i ∧ i < HUGE) ∧ -HUGE < j ∧ j < HUGE)
theorem CMulA.ok {i j : Int} (h : CMulA i j) : IntMulOk i j := h.elim CMul.ok fun h => .of_bits (huge_bits h.1.1 h.1.2) (huge_bits h.2.1 h.2.2)
noncomputable def CDivA (_ j : Int) : Prop := 0 < j ∧ j < HUGE
theorem huge_big : (1073741824 : Int) < HUGE := by decide +kernel
noncomputable def oMul : R2 := rI CMulA fun i j => .int (i * j)
noncomputable def oDiv : R2 := rI CDivA fun i j => .int (i / j)
noncomputable def oMod : R2 := rI (fun _ j => 0 < j) fun i j => .int (i % j)
noncomputable def CPowA (i j : Int) : Prop := CPow i j ∨ CPowB i j
noncomputable def oPow : R2 := rI CPowA fun i j => .int (i ^ j.toNat)
noncomputable def oLt : R2 := rI0 fun i j => .bl (decide (i < j))
noncomputable def oLe : R2 := rI0 fun i j => .bl (decide (i ≤ j))
noncomputable def oGt : R2 := rI0 fun i j => .bl (decide (j < i))
noncomputable def oGe : R2 := rI0 fun i j => .bl (decide (j ≤ i))
noncomputable def oIsN : R2 := fun x y H Q => y = .non ∧ Q (.bl (decide (x = .non))) H
noncomputable def oNotN : R2 := fun x y H Q => y = .non ∧ Q (.bl (!decide (x = .non))) H
noncomputable def rLenL (K : PySem.W.Frag) : List V → Hp → VK → Prop := fun xs H Q => ∃ p ys, xs = [.ref p] ∧ (SqL K H p ys ∨ SqT K H p ys) ∧ Q (.int ys.length) H
noncomputable def rIsi (K : PySem.W.Frag) : List V → Hp → VK → Prop := fun xs H Q => ∃ x n t b, xs = [x, V.ty n] ∧ TyOf K H x t ∧ PySem.W.kitOne K t (.type n) = some b ∧ Q (.bl b) H
noncomputable def rSum (K : PySem.W.Frag) : List V → Hp → VK → Prop := fun xs H Q => ∃ (p : Addr) (ns : List Int), xs = [.ref p] ∧ SqL K H p (ns.map V.int) ∧ Q (.int ns.sum) H
noncomputable def rSorted (K : PySem.W.Frag) : List V → Hp → VK → Prop := fun xs H Q => ∃ (p : Addr) (ns : List Int), xs = [.ref p] ∧ SqL K H p (ns.map V.int) ∧ ns.length < 64 ∧ ∀ (l : Addr) (ms : List Int), H l = none → ms.Perm ns → ms.Pairwise (· ≤ ·) → Q (.ref l) (upd H l (.lst (ms.map V.int)))
noncomputable def rAll (K : PySem.W.Frag) : List V → Hp → VK → Prop := fun xs H Q => ∃ (p : Addr) (bs : List Bool), xs = [.ref p] ∧ SqL K H p (bs.map V.bl) ∧ Q (.bl (bs.all id)) H
noncomputable def rMin : List V → Hp → VK → Prop := fun xs H Q => ∃ i j, xs = [.int i, .int j] ∧ Q (.int (if j < i then j else i)) H
noncomputable def rListOf (K : PySem.W.Frag) : List V → Hp → VK → Prop := fun xs H Q => ∃ p ys, xs = [.ref p] ∧ (SqL K H p ys ∨ SqT K H p ys) ∧ ∀ l, H l = none → Q (.ref l) (upd H l (.lst ys))
section
variable {X : Cx}
theorem op_addI : OpR X (binaryOp .Add) oAdd := op_add
theorem op_subI : OpR X (binaryOp .Sub) oSub := op_sub
theorem op_mulI : OpR X (binaryOp .Mult) oMul := opI fun _ _ _ _ _ _ _ hc q => mul_int q hc.ok
theorem op_divI : OpR X (binaryOp .FloorDiv) oDiv := opI fun i j _ _ _ _ _ hc q => by
  have h1 : (0 : Int) < j := hc.1
  have h2 : j < HUGE := hc.2
  have h3 : -HUGE < j := by have := huge_big; omega
  exact floordiv_int (by omega) (by rw [Int.fdiv_eq_ediv_of_nonneg i (by omega)]; exact q) (.inl (PyProof.noPylong_of_log2 (Nat.lt_trans (huge_log h3 h2) (by decide))))
theorem op_modI : OpR X (binaryOp .Mod) oMod := op_mod
theorem op_powI : OpR X (binaryOp .Pow) oPow := opI fun _ _ _ _ _ _ _ hc q => hc.elim (fun h => pow_int_small h.1 h.2.1 h.2.2 q) fun h => pow_int h.1 h.2 q
theorem iop_addI : OpR X (inplaceOp .Add) oAdd := iop_add
theorem iop_subI : OpR X (inplaceOp .Sub) oSub := iop_sub
theorem iop_mulI : OpR X (inplaceOp .Mult) oMul := opI fun _ _ _ _ _ _ _ hc q => imul_int q hc.ok
theorem op_ltI : OpR X (compareOp .Lt) oLt := op_lt
theorem op_leI : OpR X (compareOp .LtE) oLe := op_le
theorem op_gtI : OpR X (compareOp .Gt) oGt := op_gt
theorem op_geI : OpR X (compareOp .GtE) oGe := op_ge
end
/-! ### readings -/
theorem Same.upd {H H' : Hp} (e : Same H H') {l : Addr} {o : HO} (h : H l = none) : Same H (upd H' l o) := fun b u q => by
  rw [upd_ne (ne_of_none q h)]
  exact e b u q
theorem Same.updN {H : Hp} {l : Addr} {o : HO} (h : H l = none) : Same H (L2.upd H l o) := fun b u q => by
  rw [upd_ne (ne_of_none q h)]
  exact q
end L2
/-! ### comprehensions whose elements leave all that is tracked as it is -/
namespace L2
open PySem PySem.Spec PyProof.Rows
section
variable {mp : List (Option Nat)} {te : TE} {tt : TT} {σ : St} {H : Hp} {Q : VK}
theorem take_snoc {α : Type} {xs : List α} {i : Nat} {x : α} (h : xs[i]? = some x) : xs.take (i + 1) = xs.take i ++ [x] := by
  rw [List.take_add_one, h]
  rfl
/-- [te for x in a list], R x v: what an element is worth -/
theorem comp_mapL {K : PySem.W.Frag} {a : Addr} {xs : List V} (R : V → V → Prop) (caps : St) (hlift : liftSt mp σ = none :: caps) (hx : SqL K H a xs) (hz : xs.length ≤ sizeLine)
    (hel : ∀ x ∈ xs, ∀ (H' : Hp) (G : VK), Same H H' → (∀ v H'', R x v → Same H' H'' → G v H'') → te (some x :: caps) H' G)
    (hd : ∀ l ys H', H l = none → Same H H' → H' l = some (.lst ys) → Paired R xs ys → Q (.ref l) H') : tCompK mp (gName 0) tYes te (Itl K a) σ H Q := by
  refine comp_list (xs := xs) (fun l i acc σ' H' => Same H H' ∧ H' l = some (.lst acc) ∧ Paired R (xs.take i) acc ∧ acc.length ≤ i ∧ ∃ v, σ' = v :: caps) (fun l hl => ⟨Same.updN hl, upd_same, by simpa using Paired.nil, Nat.le_refl _, none, hlift⟩) ?_ ?_ ?_ hz
  · rintro l i acc σ' H' _ ⟨s, _, _, h, _⟩
    exact ⟨s.seq hx, h⟩
  · rintro l i x acc σ' H' hl hi ⟨s, h1, h2, h3, v, rfl⟩
    simp only [gName, tYes, List.set_cons_zero]
    rw [if_pos trivial]
    refine hel x (List.mem_of_getElem? hi) H' _ s fun v H'' r s' => ⟨s' _ _ h1, (s.trans s').upd hl, upd_same, ?_, ?_, some x, rfl⟩
    · rw [take_snoc hi]
      exact h2.snoc r
    · rw [List.length_append, List.length_singleton]
      omega
  · rintro l acc σ' H' hl ⟨s, h1, h2, _⟩
    rw [List.take_length] at h2
    exact hd l acc H' hl s h1 h2
/-- [te for k in range(..)] -/
theorem comp_mapN {lo : Int} {n : Nat} (R : Nat → V → Prop) (caps : St) (hlift : liftSt mp σ = none :: caps) (hz : n ≤ sizeLine)
    (hel : ∀ i, i < n → ∀ (H' : Hp) (G : VK), Same H H' → (∀ v H'', R i v → Same H' H'' → G v H'') → te (some (.int (lo + i)) :: caps) H' G)
    (hd : ∀ l ys H', H l = none → Same H H' → H' l = some (.lst ys) → Paired R (List.range n) ys → Q (.ref l) H') : tCompK mp (gName 0) tYes te (Itr lo n) σ H Q := by
  refine comp_range (fun l i acc σ' H' => Same H H' ∧ H' l = some (.lst acc) ∧ Paired R (List.range i) acc ∧ acc.length ≤ i ∧ ∃ v, σ' = v :: caps) (fun l hl => ⟨Same.updN hl, upd_same, by simpa using Paired.nil, Nat.le_refl _, none, hlift⟩) ?_ ?_ ?_ hz
  · rintro l i acc σ' H' _ ⟨s, _, _, h, _⟩
    exact h
  · rintro l i acc σ' H' hl hi ⟨s, h1, h2, h3, v, rfl⟩
    simp only [gName, tYes, List.set_cons_zero]
    rw [if_pos trivial]
    refine hel i hi H' _ s fun v H'' r s' => ⟨s' _ _ h1, (s.trans s').upd hl, upd_same, ?_, ?_, some _, rfl⟩
    · rw [List.range_succ]
      exact h2.snoc r
    · rw [List.length_append, List.length_singleton]
      omega
  · rintro l acc σ' H' hl ⟨s, h1, h2, _⟩
    exact hd l acc H' hl s h1 h2
end
end L2
/-! ### the readings, a step at a time -/
namespace L2
open PySem PySem.Spec PyProof.Rows
section
variable {K : PySem.W.Frag} {D : Ends} {σ : St} {H : Hp} {Q : VK} {QB : Bool → Hp → Prop} {QA : List V → Hp → Prop} {t u : TS} {te ta tb tc : TE} {c d : TT} {tl : TA} {i j : Int} {k n : Nat} {v x y : V} {r r' : R2} {E : XK}
theorem r_seq (h : t { D with nx := u D } σ H) : tSeq t u D σ H := h
theorem r_asg (h : te σ H fun x H1 => D.nx (σ.set n (some x)) H1) : tAsg te (gName n) D σ H := h
theorem r_ifs (h : c σ H fun b H1 => if b = true then t D σ H1 else u D σ H1) : tIfS c t u D σ H := h
theorem r_ret (h : te σ H D.rt) : tRet te D σ H := h
theorem r_next (h : D.nx σ H) : tNext D σ H := h
theorem r_drop (h : te σ H fun _ H1 => D.nx σ H1) : tDrop te D σ H := h
theorem r_c (h : Q v H) : tC v σ H Q := h
theorem r_op (h : ta σ H fun x H1 => tb σ H1 fun y H2 => r x y H2 Q) : tOp r ta tb σ H Q := h
theorem r_un {q : V → Hp → VK → Prop} (h : ta σ H fun x H1 => q x H1 Q) : tUn q ta σ H Q := h
theorem r_neg (h : Q (.int (-i)) H) : rU (fun i => .int (-i)) (.int i) H Q := ⟨i, rfl, h⟩
theorem r_add (h : Q (.int (i + j)) H) : oAdd (.int i) (.int j) H Q := ⟨i, j, rfl, rfl, h⟩
theorem r_sub (h : Q (.int (i - j)) H) : oSub (.int i) (.int j) H Q := ⟨i, j, rfl, rfl, h⟩
theorem r_mulL (h1 : -(2 ^ 64) < i) (h2 : i < 2 ^ 64) (h : Q (.int (i * j)) H) : oMul (.int i) (.int j) H Q := ⟨i, j, rfl, rfl, .inl (.inl ⟨h1, h2⟩), h⟩
theorem r_mulR (h1 : -(2 ^ 64) < j) (h2 : j < 2 ^ 64) (h : Q (.int (i * j)) H) : oMul (.int i) (.int j) H Q := ⟨i, j, rfl, rfl, .inl (.inr ⟨h1, h2⟩), h⟩
theorem r_div (h1 : 0 < j) (h2 : j < 1073741824) (h : Q (.int (i / j)) H) : oDiv (.int i) (.int j) H Q := ⟨i, j, rfl, rfl, ⟨h1, Int.lt_trans h2 huge_big⟩, h⟩
theorem r_mod (h1 : 0 < j) (h : Q (.int (i % j)) H) : oMod (.int i) (.int j) H Q := ⟨i, j, rfl, rfl, h1, h⟩
theorem r_pow (h1 : 0 ≤ j) (h2 : j ≤ 1000000) (h3 : i.natAbs < 2 ^ 64) (h : Q (.int (i ^ j.toNat)) H) : oPow (.int i) (.int j) H Q := ⟨i, j, rfl, rfl, .inl ⟨h1, h2, h3⟩, h⟩
theorem r_lt (h : Q (.bl (decide (i < j))) H) : oLt (.int i) (.int j) H Q := ⟨i, j, rfl, rfl, h⟩
theorem r_le (h : Q (.bl (decide (i ≤ j))) H) : oLe (.int i) (.int j) H Q := ⟨i, j, rfl, rfl, h⟩
theorem r_gt (h : Q (.bl (decide (j < i))) H) : oGt (.int i) (.int j) H Q := ⟨i, j, rfl, rfl, h⟩
theorem r_ge (h : Q (.bl (decide (j ≤ i))) H) : oGe (.int i) (.int j) H Q := ⟨i, j, rfl, rfl, h⟩
theorem decInt : decide (V.int i = V.int j) = decide (i = j) := by
  by_cases h : i = j
  · subst h; simp
  · rw [decide_eq_false h, decide_eq_false fun z => h (V.int.inj z)]
theorem r_eq (h : Q (.bl (decide (i = j))) H) : rEq (.int i) (.int j) H Q := ⟨rfl, by rw [decInt]; exact h⟩
theorem r_ne (h : Q (.bl (!decide (i = j))) H) : rNe (.int i) (.int j) H Q := ⟨rfl, by rw [decInt]; exact h⟩
theorem r_isN (h : Q (.bl (decide (x = .non))) H) : oIsN x .non H Q := ⟨rfl, h⟩
theorem r_notN (h : Q (.bl (!decide (x = .non))) H) : oNotN x .non H Q := ⟨rfl, h⟩
theorem r_test (h : te σ H fun x H' => ∃ k, x = .bl k ∧ QB k H') : tTest te σ H QB := h
theorem r_tB (h : te σ H fun x H1 => ∃ c, x = .bl c ∧ QB c H1) : tB te σ H QB := h
theorem r_bl {b : Bool} {P : Bool → Prop} (h : P b) : ∃ k, V.bl b = .bl k ∧ P k := ⟨b, rfl, h⟩
theorem r_and (h : c σ H fun b H1 => if b = true then d σ H1 QB else QB false H1) : tAnd c d σ H QB := h
theorem r_or (h : c σ H fun b H1 => if b = true then QB true H1 else d σ H1 QB) : tOr c d σ H QB := h
theorem r_not (h : c σ H fun b H1 => QB (!b) H1) : tNot c σ H QB := h
theorem r_notV (h : ta σ H fun x H1 => ∃ c, x = .bl c ∧ Q (.bl (!c)) H1) : tNotV ta σ H Q := h
theorem r_andV (h : ta σ H fun x H1 => ∃ c, x = .bl c ∧ if c = true then tb σ H1 Q else Q (.bl false) H1) : tAndV ta tb σ H Q := h
theorem r_if (h : c σ H fun b H1 => if b = true then ta σ H1 Q else tb σ H1 Q) : tIf c ta tb σ H Q := h
theorem r_nil (h : QA [] H) : tNil σ H QA := h
theorem r_cons (h : te σ H fun x H1 => tl σ H1 fun xs H2 => QA (x :: xs) H2) : tCons te tl σ H QA := h
theorem r_call {sp : Sp} (h : tl σ H fun vs H1 => sp vs H1 Q E) : tCall sp [] E tl σ H Q := by
  show tl σ H fun vs H1 => sp (vs ++ []) H1 Q E
  simpa only [List.append_nil] using h
theorem r_cb {q : List V → Hp → VK → Prop} (h : tl σ H fun vs H1 => q vs H1 Q) : tCB q tl σ H Q := h
theorem r_min (h : Q (.int (min i j)) H) : rMin [.int i, .int j] H Q := ⟨i, j, rfl, by
  have e : (if j < i then j else i) = min i j := by omega
  rw [e]; exact h⟩
theorem r_len {p : Addr} {ys : List V} (hs : SqL K H p ys) (h : Q (.int ys.length) H) : rLenL K [.ref p] H Q := ⟨p, ys, rfl, .inl hs, h⟩
theorem r_sum {p : Addr} {ns : List Int} (hs : SqL K H p (ns.map V.int)) (h : Q (.int ns.sum) H) : rSum K [.ref p] H Q := ⟨p, ns, rfl, hs, h⟩
theorem r_isiI {b : Bool} {nm : String} (e : PySem.W.kitOne K (.type "int") (.type nm) = some b) (h : Q (.bl b) H) : rIsi K [.int i, .ty nm] H Q := ⟨_, _, _, b, rfl, .int i, e, h⟩
theorem r_ix {p : Addr} {xs : List V} (hs : SqL K H p xs) (ha : atI xs i = some v) (h : Q v H) : rIxL K (.ref p) (.int i) H Q := ⟨p, xs, i, v, rfl, rfl, hs, ha, h⟩
theorem r_eqIs {a b : Addr} {ns ms : List Int} (h1 : SqL K H a (ns.map V.int)) (h2 : SqL K H b (ms.map V.int)) (h : Q (.bl (decide (ns = ms))) H) : rEqI K false (.ref a) (.ref b) H Q := ⟨a, b, ns, ms, rfl, rfl, h1, h2, by rw [Bool.bne_false]; exact h⟩
theorem r_neIs {a b : Addr} {ns ms : List Int} (h1 : SqL K H a (ns.map V.int)) (h2 : SqL K H b (ms.map V.int)) (h : Q (.bl (!decide (ns = ms))) H) : rEqI K true (.ref a) (.ref b) H Q := ⟨a, b, ns, ms, rfl, rfl, h1, h2, by rw [Bool.bne_true]; exact h⟩
/-- a loop from here on -/
noncomputable def forGo (g : TG) (tb : TS) (D : Ends) (J : It) (σ : St) (H : Hp) : Prop := ∃ W : Nat → Nat → St → Hp → Prop, (∃ m, W 0 m σ H) ∧ ∀ i m σ H, W i m σ H →
  (J.stop i H ∧ D.nx σ H) ∨ (J.go i H ∧ ∃ N : St → Hp → Prop, (∀ σ' H', N σ' H' → ∃ m', m' < m ∧ W (i + 1) m' σ' H') ∧ ∀ x H', J.yld i H x H' → g x σ H' fun σ2 H2 => tb { D with nx := N, ct := N, bk := D.nx } σ2 H2)
theorem r_for {wi : TI} {g : TG} (h : wi σ H fun J H1 => forGo g t D J σ H1) : tFor wi g t D σ H := h
theorem r_rng1 {R : It → Hp → Prop} (h : tl σ H fun vs H1 => ∃ j : Int, vs = [.int j] ∧ -(2 ^ 62) ≤ j ∧ j < 2 ^ 62 ∧ R (Itr 0 j.toNat) H1) : iRng1 tl σ H R := h
theorem r_rng1' {P : Int → Prop} (h1 : -(2 ^ 62) ≤ i) (h2 : i < 2 ^ 62) (h : P i) : ∃ j : Int, ([.int i] : List V) = [.int j] ∧ -(2 ^ 62) ≤ j ∧ j < 2 ^ 62 ∧ P j := ⟨i, rfl, h1, h2, h⟩
theorem r_rng2 {R : It → Hp → Prop} (h : tl σ H fun vs H1 => ∃ i j : Int, vs = [.int i, .int j] ∧ (-(2 ^ 62) ≤ i ∧ i < 2 ^ 62 ∧ -(2 ^ 62) ≤ j ∧ j < 2 ^ 62) ∧ R (Itr i (j - i).toNat) H1) : iRng2 tl σ H R := h
theorem r_rng2' {P : Int → Int → Prop} (h1 : -(2 ^ 62) ≤ i) (h2 : i < 2 ^ 62) (h3 : -(2 ^ 62) ≤ j) (h4 : j < 2 ^ 62) (h : P i j) : ∃ i' j' : Int, ([.int i, .int j] : List V) = [.int i', .int j'] ∧ (-(2 ^ 62) ≤ i' ∧ i' < 2 ^ 62 ∧ -(2 ^ 62) ≤ j' ∧ j' < 2 ^ 62) ∧ P i' j' := ⟨i, j, rfl, ⟨h1, h2, h3, h4⟩, h⟩
theorem r_iList {R : It → Hp → Prop} (h : te σ H fun x H1 => ∃ a, x = .ref a ∧ (∃ xs, SqL K H1 a xs) ∧ R (Itl K a) H1) : iList K te σ H R := h
theorem r_iList' {P : Addr → Prop} {a : Addr} {xs : List V} (hs : SqL K H a xs) (h : P a) : ∃ b, V.ref a = .ref b ∧ (∃ xs, SqL K H b xs) ∧ P b := ⟨a, rfl, ⟨xs, hs⟩, h⟩
theorem r_sl {q : V → Option Int → Option Int → Hp → VK → Prop} {lo hi : TO} (h : te σ H fun x H1 => lo σ H1 fun l H2 => hi σ H2 fun u H3 => q x l u H3 Q) : tSl q te lo hi σ H Q := h
theorem r_part {R : Option Int → Hp → Prop} (h : te σ H fun x H1 => ∃ i, x = .int i ∧ R (some i) H1) : tPart te σ H R := h
theorem r_part' {P : Int → Prop} (h : P i) : ∃ j, V.int i = .int j ∧ P j := ⟨i, rfl, h⟩
theorem r_noPart {R : Option Int → Hp → Prop} (h : R none H) : tNoPart σ H R := h
theorem r_comp {mp : List (Option Nat)} {wi : TI} {g : TG} (h : wi σ H fun J H1 => tCompK mp g c te J σ H1 Q) : tComp mp wi g c te σ H Q := h
theorem r_bm {T : String} {q : V → List V → Hp → VK → Prop} (h : te σ H fun x H1 => tyV K T x H1 ∧ tl σ H1 fun xs H2 => q x xs H2 Q) : tBM K T q te tl σ H Q := h
end
end L2
namespace L2
theorem kit_ii {K : PySem.W.Frag} : PySem.W.kitOne K (.type "int") (.type "int") = some true := by rfl
theorem kit_ib {K : PySem.W.Frag} : PySem.W.kitOne K (.type "int") (.type "bool") = some false := by rfl
end L2
/-! ### range(a, b, c) -/
namespace L2
open PySem PySem.Spec PyProof.Rows
/-- lo, lo + step, .. (n of them) -/
noncomputable def ItrS (lo step : Int) (n : Nat) : It := ⟨fun i _ => i < n, fun i H x H' => H' = H ∧ x = .int (lo + i * step), fun i _ => n ≤ i⟩
section
variable {X : Cx} {tg : Expr}
end
theorem for_rangeS {lo step : Int} {n : Nat} {g : TG} {tb : TS} {D : Ends} {σ : St} {H : Hp} (Pv : Nat → St → Hp → Prop) (h0 : Pv 0 σ H)
    (hs : ∀ i σ H, i < n → Pv i σ H → g (.int (lo + i * step)) σ H fun σ2 H2 => tb { D with nx := Pv (i + 1), ct := Pv (i + 1), bk := D.nx } σ2 H2) (hd : ∀ σ H, Pv n σ H → D.nx σ H) : forGo g tb D (ItrS lo step n) σ H := by
  refine ⟨fun i m σ H => m = n - i ∧ i ≤ n ∧ Pv i σ H, ⟨n, by simp, Nat.zero_le _, h0⟩, ?_⟩
  rintro i m σ H ⟨rfl, hi, p⟩
  by_cases hlt : i < n
  · refine .inr ⟨hlt, Pv (i + 1), fun σ' H' p' => ⟨n - (i + 1), by omega, rfl, hlt, p'⟩, fun x H' y => ?_⟩
    obtain ⟨e, y⟩ := y
    subst e y
    exact hs i σ _ hlt p
  · have e : i = n := by omega
    subst e
    exact .inl ⟨Nat.le_refl _, hd σ H p⟩
end L2
/-! ### data as it lies: comparisons of nested lists -/
namespace L2
open PySem PySem.Spec PyProof.Rows
section
variable {X : Cx} {pins : List (Addr × Obj)} {σ : St} {H : Hp} {s : Shared}
end
section
variable {X : Cx}
end
section
variable {K : PySem.W.Frag} {H : Hp} {Q : VK} {x y : V}
end
/-! ### insert -/
section
variable {X : Cx}
end
end L2

/-! ### enumerate -/
namespace L2
open PySem PySem.Spec PyProof.Rows
/-- (0, x0), (1, x1), ..: a new tuple each time -/
noncomputable def Ite (K : PySem.W.Frag) (a : Addr) : It :=
  ⟨fun i H => ∃ xs x, SqL K H a xs ∧ xs[i]? = some x, fun i H x H' => ∃ T y, x = .ref T ∧ H T = none ∧ H' = upd H T (.tup [.int i, y]) ∧ ∀ xs, SqL K H a xs → xs[i]? = some y, fun i H => ∃ xs, SqL K H a xs ∧ xs.length ≤ i⟩
theorem turn_enum {P : Program} {w : World} {K : PySem.W.Frag} {elts : List Expr} {x1} {pos : Pos} (a e it : Addr) (hne : e ≠ it) :
    Turn P w K (.Tuple elts x1 pos) (Ite K a) [e, it] e (fun i h => (∃ old, IsEnum h e it ((i : Nat) : Int) old) ∧ h.IsListIter it a i) where
  mem := by simp
  obj := fun i h st b hb => by
    obtain ⟨⟨old, he⟩, o, ho, hc, hd⟩ := st
    rcases List.mem_cons.mp hb with z | hb
    · subst z
      exact ⟨_, he, fun v z => by
        have z' : Data.fields _ = Data.cell v := z
        cases z'⟩
    · have z : b = it := by simpa using hb
      subst z
      exact ⟨o, ho, fun v z => by rw [hd] at z; cases z⟩
  keep := fun i h h' st k => by
    obtain ⟨⟨old, he⟩, o, ho, r⟩ := st
    exact ⟨⟨old, k e (by simp) _ he⟩, o, k it (by simp) _ ho, r⟩
  item := by
    intro X hP hw hK hc i pins s σ H E I hf st hg
    subst hP hw hK
    obtain ⟨⟨old, he⟩, hit⟩ := st
    obtain ⟨xs, x, hS, hx⟩ := hg
    obtain ⟨its, rv, pl, hz⟩ := I.list hS
    obtain ⟨u, hu, ru⟩ := rv.get hx
    obtain ⟨f0, f1, f2, f3, f4, f5⟩ := hf e (by simp)
    obtain ⟨g0, g1, g2, g3, g4, g5⟩ := hf it (by simp)
    have fT : H s.heap.objs.size = none := I.fresh
    refine wpAny_pyNext_enum_item he hit pl.isList (x := u) (by simpa using hu) hne fun h' heo hit' ht hsz hk => ⟨_, rfl, ?_⟩
    refine wpAny_letOwnedTupleGo_enum heo fun h2 he2 hs2 => ?_
    have hs2 : Heap.SameBut e h' h2 := hs2
    have heT : e ≠ s.heap.objs.size := Nat.ne_of_lt (Heap.lt_size he)
    have oldK : ∀ b o, b ≠ e → b ≠ it → s.heap.get? b = some o → h2.get? b = some o := fun b o h1 h2' q => hs2.extBut b o h1 (hk b o h1 h2' q)
    have hT2 : h2.get? s.heap.objs.size = some { cls := .type "tuple", data := .seq #[.int i s.toks, u] } := hs2.extBut _ _ (Ne.symm heT) ht
    have neT : ∀ b o, s.heap.get? b = some o → b ≠ s.heap.objs.size := fun b o q => Nat.ne_of_lt (Heap.lt_size q)
    have nH : ∀ b w', H b = some w' → b ≠ e ∧ b ≠ it := fun b w' q => ⟨fun z => (by rw [z, f0] at q; cases q), fun z => (by rw [z, g0] at q; cases q)⟩
    have I2 : Inv X pins σ (upd H s.heap.objs.size (.tup [.int i, x])) { s with heap := h2, toks := s.toks + 1 } := by
      refine I.step (g' := s.gens) (d' := s.drawn) (t' := s.toks + 1) (ch := [e, it]) (fun b hb => ?_) (fun b o _ _ hb q _ => ?_) (fun b o _ _ hb q _ => ?_) (fun b o _ q n => ?_) (fun b o hb q => ?_)
        (fun b ys q => ?_) (fun b o w' q => ?_) (fun b ps q => ?_) (fun m hm => ?_) (fun b w' q => ?_) I.bare
      · rcases List.mem_cons.mp hb with z | hb
        · subst z; exact ⟨f3, f1, f4, f5⟩
        · have z : b = it := by simpa using hb
          subst z; exact ⟨g3, g1, g4, g5⟩
      · exact oldK b o (fun z => hb (by simp [z])) (fun z => hb (by simp [z])) q
      · exact ⟨o.slots, oldK b o (fun z => hb (by simp [z])) (fun z => hb (by simp [z])) q⟩
      · rw [upd_ne (neT b o q)]; exact n
      · exact ⟨o, oldK b o (fun z => hb (by simp [z])) (fun z => hb (by simp [z])) q⟩
      · rw [upd_ne (ne_of_none q fT)]; exact q
      · rw [upd_ne (ne_of_none q fT)]; exact q
      · exact ⟨#[], by rw [upd_ne (ne_of_none q fT), q]; simp⟩
      · obtain ⟨o, es, ep, ho, r⟩ := hm
        exact ⟨o, es, ep, oldK _ o (Ne.symm f1) (Ne.symm g1) ho, r⟩
      · by_cases hb : b = s.heap.objs.size
        · subst hb
          rw [upd_same] at q
          cases q
          exact ⟨by show 2 ≤ sizeLine; decide, [.int i s.toks, u], .cons ⟨_, rfl⟩ (.cons ru .nil), _, hT2, rfl, _, rfl⟩
        · rw [upd_ne hb] at q
          refine (I.hok b w' q).stay (fun c v hc q' => oldK c v ?_ ?_ q') (fun c q' => ?_) fun c ys q' => ?_
          · rcases hc with z | z
            · rw [z]; exact (nH b w' q).1
            · exact (nH c _ z).1
          · rcases hc with z | z
            · rw [z]; exact (nH b w' q).2
            · exact (nH c _ z).2
          · rw [upd_ne (ne_of_none q' fT)]; exact q'
          · rw [upd_ne (ne_of_none q' fT)]; exact q'
    refine ⟨.ref s.heap.objs.size, _, I2, rfl, ⟨s.heap.objs.size, x, rfl, fT, rfl, fun ys hys => ?_⟩, ⟨⟨u, ?_⟩, ?_⟩, fun b hb => ?_⟩
    · rw [I.list_inj hys hS]; exact hx
    · have e1 : ((i + 1 : Nat) : Int) = (i : Int) + 1 := by omega
      rw [e1]; exact he2
    · exact hit'.extBut hs2.extBut (Ne.symm hne)
    · have : b ≠ s.heap.objs.size := by
        rcases List.mem_cons.mp hb with z | hb
        · rw [z]; exact heT
        · have z : b = it := by simpa using hb
          rw [z]
          obtain ⟨o, ho, _⟩ := hit
          exact neT it o ho
      rw [upd_ne this]
      exact (hf b hb).1
  done := by
    intro X hP hw hK hc i pins s σ H E I hf st hg
    subst hP hw hK
    obtain ⟨⟨old, he⟩, hit⟩ := st
    obtain ⟨xs, hS, hx⟩ := hg
    obtain ⟨its, rv, pl, hz⟩ := I.list hS
    have hl := rv.length
    obtain ⟨g0, g1, g2, g3, g4, g5⟩ := hf it (by simp)
    refine wpAny_pyNext_enum_end (I.ok.hd hc) he hit pl.isList (by simp; omega) fun h' eb => ⟨rfl, I.turned (t' := s.toks) (fun b o hb e' => eb b o hb e') g0 g1 g3 g4 g5⟩
  self := fun A i s Q E st h => by
    obtain ⟨⟨old, he⟩, hit⟩ := st
    exact wpAny_pyIter_enum he h
section
variable {X : Cx}
noncomputable def iEnum (K : PySem.W.Frag) (tl : TE) : TI := fun σ H R => tl σ H fun x H1 => ∃ a, x = .ref a ∧ (∃ xs, SqL K H1 a xs) ∧ R (Ite K a) H1
theorem pi_enum {l : Expr} {tl : TE} {elts : List Expr} {x1} {p pos pt : Pos} (hg : Gl X "enumerate") (hm : X.mg "enumerate" = none) (hl : PE X l tl) (hs : starEach [l] X.env = [(false, eval l X.env)] := by rfl) :
    PI X (.Tuple elts x1 pt) (.Call (.Name "enumerate" p) [l] [] pos) (iEnum X.K tl) := by
  intro pins s σ H R I h
  refine Call_ (ld_blt I hg hm boot_enumerate (PyProof.Rows.callWith_type1 (thn (pa_cons hl pa_nil hs pos pins s σ H (fun vs H1 => ∃ x, vs = [x] ∧ ∃ a, x = .ref a ∧ (∃ xs, SqL X.K H1 a xs) ∧ R (Ite X.K a) H1) I ?_) fun us s1 ⟨vs, H1, I1, r1, q1⟩ => ?_) hs rfl))
  · have mono : tl σ H (fun x H1 => ∃ y, [x] = [y] ∧ ∃ a, y = .ref a ∧ (∃ xs, SqL X.K H1 a xs) ∧ R (Ite X.K a) H1) := by
      have e : (fun (x : V) (H1 : Hp) => ∃ y, [x] = [y] ∧ ∃ a, y = V.ref a ∧ (∃ xs, SqL X.K H1 a xs) ∧ R (Ite X.K a) H1) = fun x H1 => ∃ a, x = V.ref a ∧ (∃ xs, SqL X.K H1 a xs) ∧ R (Ite X.K a) H1 := by
        funext x H1
        simp
      rw [e]
      exact h
    exact mono
  · obtain ⟨x, rfl, a, rfl, ⟨xs, hS⟩, q⟩ := q1
    obtain ⟨u, rfl, ru⟩ := vals1 r1
    cases ru
    obtain ⟨its, rv, pl, hz⟩ := I1.list hS
    refine call_enumerate_list pl.isList fun h' he hit hsz hk => ?_
    have I2 : Inv X pins σ H1 { s1 with heap := h' } := I1.kept (t' := s1.toks) hk
    refine wpAny_pyIter_enum he ?_
    refine ⟨s1.heap.objs.size + 1, [s1.heap.objs.size + 1, s1.heap.objs.size], _, _, H1, rfl, I2, turn_enum a _ _ (Nat.succ_ne_self _), ⟨⟨.none, he⟩, hit⟩, fun b hb => ?_, q⟩
    have hb' : s1.heap.objs.size ≤ b := by
      rcases List.mem_cons.mp hb with z | hb
      · rw [z]; exact Nat.le_succ _
      · have z : b = s1.heap.objs.size := by simpa using hb
        rw [z]; exact Nat.le_refl _
    exact I1.fpOk hb' (I1.hok.fresh hb')
end
end L2
/-! ### zip; walks by their turns -/
namespace L2
open PySem PySem.Spec PyProof.Rows
theorem Inv.turnedL {X : Cx} {pins : List (Addr × Obj)} {σ : St} {H : Hp} {s : Shared} {h' : Heap} {t' : Nat} {ch : List Addr} (I : Inv X pins σ H s) (hf : ∀ b ∈ ch, FpOk X pins H b) (k : ∀ b o, b ∉ ch → s.heap.get? b = some o → h'.get? b = some o) :
    Inv X pins σ H { s with heap := h', toks := t' } := by
  have nit : ∀ b u, H b = some u → b ∉ ch := fun b u e z => by rw [(hf b z).1] at e; cases e
  refine I.step (g' := s.gens) (d' := s.drawn) (ch := ch) (fun b hb => ?_) (fun b o _ _ hc e _ => k b o hc e) (fun b o _ _ hc e _ => ⟨o.slots, k b o hc e⟩) (fun _ _ _ _ n => n)
    (fun b o hc e => ⟨o, k b o hc e⟩) (fun _ _ e => e) (fun _ _ _ e => e) (fun b ps e => ⟨#[], by rw [e]; simp⟩) (fun m hm => ?_) (fun b u e => ?_) I.bare
  · obtain ⟨_, h1, _, h3, h4, h5⟩ := hf b hb
    exact ⟨h3, h1, h4, h5⟩
  · obtain ⟨o, es, ep, ho, r⟩ := hm
    exact ⟨o, es, ep, k _ o (fun z => (hf _ z).2.1 rfl) ho, r⟩
  · refine (I.hok b u e).stay (fun c v hc q => k c v ?_ q) (fun _ q => q) fun _ _ q => q
    rcases hc with z | z
    · rw [z]; exact nit b u e
    · exact nit c _ z
/-- (x0, y0), (x1, y1), ..: a new tuple each time -/
noncomputable def Itz (K : PySem.W.Frag) (a b : Addr) : It :=
  ⟨fun i H => ∃ xs ys x y, SqL K H a xs ∧ SqL K H b ys ∧ xs[i]? = some x ∧ ys[i]? = some y,
   fun i H x H' => ∃ T u v, x = .ref T ∧ H T = none ∧ H' = upd H T (.tup [u, v]) ∧ (∀ xs, SqL K H a xs → xs[i]? = some u) ∧ ∀ ys, SqL K H b ys → ys[i]? = some v,
   fun i H => ∃ xs ys, SqL K H a xs ∧ SqL K H b ys ∧ (xs.length ≤ i ∨ ys.length ≤ i)⟩
theorem turn_zip {P : Program} {w : World} {K : PySem.W.Frag} {elts : List Expr} {x1} {pos : Pos} (a b z TI TO i1 i2 : Addr) (D : ZipApart z TI TO i1 i2 a b) :
    Turn P w K (.Tuple elts x1 pos) (Itz K a b) [z, TO, i1, i2, TI] z (fun i h => IsZip h z TI TO .none ∧ IsPair h TI (.ref i1) (.ref i2) ∧ (∃ u v, IsPair h TO u v) ∧ h.IsListIter i1 a i ∧ h.IsListIter i2 b i) where
  mem := by simp
  obj := fun i h st c hb => by
    obtain ⟨hz, hTI, ⟨u, v, hTO⟩, ⟨o1, ho1, hc1, hd1⟩, o2, ho2, hc2, hd2⟩ := st
    have hb' : c = z ∨ c = TO ∨ c = i1 ∨ c = i2 ∨ c = TI := by simpa using hb
    rcases hb' with rfl | rfl | rfl | rfl | rfl
    · exact ⟨_, hz, fun v q => by have q' : Data.fields _ = Data.cell v := q; cases q'⟩
    · exact ⟨_, hTO, fun v q => by have q' : Data.seq _ _ = Data.cell v := q; cases q'⟩
    · exact ⟨o1, ho1, fun v q => by rw [hd1] at q; cases q⟩
    · exact ⟨o2, ho2, fun v q => by rw [hd2] at q; cases q⟩
    · exact ⟨_, hTI, fun v q => by have q' : Data.seq _ _ = Data.cell v := q; cases q'⟩
  keep := fun i h h' st k => by
    obtain ⟨hz, hTI, ⟨u, v, hTO⟩, ⟨o1, ho1, r1⟩, o2, ho2, r2⟩ := st
    exact ⟨k z (by simp) _ hz, k TI (by simp) _ hTI, ⟨u, v, k TO (by simp) _ hTO⟩, ⟨o1, k i1 (by simp) _ ho1, r1⟩, o2, k i2 (by simp) _ ho2, r2⟩
  item := by
    intro X hP hw hK hc i pins s σ H E I hf st hg
    subst hP hw hK
    obtain ⟨hz, hTI, ⟨u0, v0, hTO⟩, hi1, hi2⟩ := st
    obtain ⟨xs, ys, x, y, hS1, hS2, hx, hy⟩ := hg
    obtain ⟨its1, rv1, pl1, hz1⟩ := I.list hS1
    obtain ⟨its2, rv2, pl2, hz2⟩ := I.list hS2
    obtain ⟨u, hu, ru⟩ := rv1.get hx
    obtain ⟨v, hv, rv⟩ := rv2.get hy
    have fT : H s.heap.objs.size = none := I.fresh
    refine wpAny_pyNext_zip_item D hz hTI hTO hi1 hi2 pl1.isList pl2.isList (x := u) (y := v) (by simpa using hu) (by simpa using hv) fun h' kz kTO k1 k2 hT hsz hk => ⟨_, rfl, ?_⟩
    refine wpAny_letOwnedTupleGo_zip kz fun h2 kz2 hs2 => ?_
    have hs2 : Heap.SameBut z h' h2 := hs2
    have zT : z ≠ s.heap.objs.size := Nat.ne_of_lt (Heap.lt_size hz)
    have oldK : ∀ c o, c ∉ [z, TO, i1, i2, TI] → s.heap.get? c = some o → h2.get? c = some o := fun c o hc q => by
      have hc' : ¬ (c = z ∨ c = TO ∨ c = i1 ∨ c = i2 ∨ c = TI) := by simpa using hc
      exact hs2.extBut c o (fun e => hc' (.inl e)) (hk c o (fun e => hc' (.inl e)) (fun e => hc' (.inr (.inl e))) (fun e => hc' (.inr (.inr (.inl e)))) (fun e => hc' (.inr (.inr (.inr (.inl e))))) q)
    have hT2 : h2.get? s.heap.objs.size = some { cls := .type "tuple", data := .seq #[u, v] } := hs2.extBut _ _ (Ne.symm zT) hT
    have neT : ∀ b o, s.heap.get? b = some o → b ≠ s.heap.objs.size := fun b o q => Nat.ne_of_lt (Heap.lt_size q)
    have nH : ∀ b w', H b = some w' → b ∉ [z, TO, i1, i2, TI] := fun b w' q hb => by rw [(hf b hb).1] at q; cases q
    have I2 : Inv X pins σ (upd H s.heap.objs.size (.tup [x, y])) { s with heap := h2 } := by
      refine I.step (g' := s.gens) (d' := s.drawn) (t' := s.toks) (ch := [z, TO, i1, i2, TI]) (fun b hb => ?_) (fun b o _ _ hb q _ => oldK b o hb q) (fun b o _ _ hb q _ => ⟨o.slots, oldK b o hb q⟩) (fun b o _ q n => ?_) (fun b o hb q => ⟨o, oldK b o hb q⟩)
        (fun b ys q => ?_) (fun b o w' q => ?_) (fun b ps q => ?_) (fun m hm => ?_) (fun b w' q => ?_) I.bare
      · obtain ⟨_, f1, _, f3, f4, f5⟩ := hf b hb
        exact ⟨f3, f1, f4, f5⟩
      · rw [upd_ne (neT b o q)]; exact n
      · rw [upd_ne (ne_of_none q fT)]; exact q
      · rw [upd_ne (ne_of_none q fT)]; exact q
      · exact ⟨#[], by rw [upd_ne (ne_of_none q fT), q]; simp⟩
      · obtain ⟨o, es, ep, ho, r⟩ := hm
        exact ⟨o, es, ep, oldK _ o (fun q => (hf _ q).2.1 rfl) ho, r⟩
      · by_cases hb : b = s.heap.objs.size
        · subst hb
          rw [upd_same] at q
          cases q
          exact ⟨by show 2 ≤ sizeLine; decide, [u, v], .cons ru (.cons rv .nil), _, hT2, rfl, _, rfl⟩
        · rw [upd_ne hb] at q
          refine (I.hok b w' q).stay (fun c v' hc q' => oldK c v' ?_ q') (fun c q' => ?_) fun c ys' q' => ?_
          · rcases hc with e | e
            · rw [e]; exact nH b w' q
            · exact nH c _ e
          · rw [upd_ne (ne_of_none q' fT)]; exact q'
          · rw [upd_ne (ne_of_none q' fT)]; exact q'
    refine ⟨.ref s.heap.objs.size, _, I2, rfl, ⟨s.heap.objs.size, x, y, rfl, fT, rfl, fun xs' hxs => ?_, fun ys' hys => ?_⟩, ⟨kz2, ?_, ⟨u, v, ?_⟩, ?_, ?_⟩, fun b hb => ?_⟩
    · rw [I.list_inj hxs hS1]; exact hx
    · rw [I.list_inj hys hS2]; exact hy
    · exact hs2.extBut _ _ D.TIz (hk _ _ D.TIz D.TITO D.TIi1 D.TIi2 hTI)
    · exact hs2.extBut _ _ D.TOz kTO
    · exact k1.extBut hs2.extBut D.i1z
    · exact k2.extBut hs2.extBut D.i2z
    · have : b ≠ s.heap.objs.size := by
        have hb' : b = z ∨ b = TO ∨ b = i1 ∨ b = i2 ∨ b = TI := by simpa using hb
        obtain ⟨o1, ho1, _⟩ := hi1
        obtain ⟨o2, ho2, _⟩ := hi2
        rcases hb' with rfl | rfl | rfl | rfl | rfl
        · exact zT
        · exact neT _ _ hTO
        · exact neT _ _ ho1
        · exact neT _ _ ho2
        · exact neT _ _ hTI
      rw [upd_ne this]
      exact (hf b hb).1
  done := by
    intro X hP hw hK hc i pins s σ H E I hf st hg
    subst hP hw hK
    obtain ⟨hz, hTI, ⟨u0, v0, hTO⟩, hi1, hi2⟩ := st
    obtain ⟨xs, ys, hS1, hS2, hx⟩ := hg
    obtain ⟨its1, rv1, pl1, hz1⟩ := I.list hS1
    obtain ⟨its2, rv2, pl2, hz2⟩ := I.list hS2
    have hl1 := rv1.length
    have hl2 := rv2.length
    refine wpAny_pyNext_zip_end (I.ok.hd hc) D hz hTI hTO hi1 hi2 pl1.isList pl2.isList ?_ fun h' hk => ⟨rfl, I.turnedL (t' := s.toks) (ch := [z, TO, i1, i2, TI]) hf fun c o hc q => ?_⟩
    · rcases hx with e | e
      · exact .inl (by simp; omega)
      · exact .inr (by simp; omega)
    · have hc' : ¬ (c = z ∨ c = TO ∨ c = i1 ∨ c = i2 ∨ c = TI) := by simpa using hc
      exact hk c o (fun e => hc' (.inl e)) (fun e => hc' (.inr (.inl e))) (fun e => hc' (.inr (.inr (.inl e)))) (fun e => hc' (.inr (.inr (.inr (.inl e))))) q
  self := fun A i s Q E st h => wpAny_pyIter_zip st.1 h
section
variable {X : Cx}
noncomputable def iZip (K : PySem.W.Frag) (ta : TA) : TI := fun σ H R => ta σ H fun vs H1 => ∃ a b, vs = [.ref a, .ref b] ∧ (∃ xs, SqL K H1 a xs) ∧ (∃ ys, SqL K H1 b ys) ∧ R (Itz K a b) H1
theorem pi_zip {a b : Expr} {ta : TA} {elts : List Expr} {x1} {p pos pt : Pos} (hg : Gl X "zip") (hm : X.mg "zip" = none) (ha : PA X [a, b] ta) (hs : starEach [a, b] X.env = (false, eval a X.env) :: starEach [b] X.env := by rfl) (hs2 : (backTo pos (starEach [b] X.env)).any (·.1) = false := by rfl) :
    PI X (.Tuple elts x1 pt) (.Call (.Name "zip" p) [a, b] [] pos) (iZip X.K ta) := by
  intro pins s σ H R I h
  refine Call_ (ld_blt I hg hm boot_zip (PyProof.Rows.callWith_type1 (thn (ha pos pins s σ H _ I h) fun us s1 ⟨vs, H1, I1, r1, q1⟩ => ?_) hs hs2))
  obtain ⟨l1, l2, e, ⟨xs, hS1⟩, ⟨ys, hS2⟩, q⟩ := q1
  subst e
  cases r1 with
  | cons r rr =>
    cases rr with
    | cons r' rr =>
      cases rr
      cases r
      cases r'
      obtain ⟨its1, rv1, pl1, hz1⟩ := I1.list hS1
      obtain ⟨its2, rv2, pl2, hz2⟩ := I1.list hS2
      have lt1 : l1 < s1.heap.objs.size := by obtain ⟨o, e, _⟩ := pl1.isList; exact Heap.lt_size e
      have lt2 : l2 < s1.heap.objs.size := by obtain ⟨o, e, _⟩ := pl2.isList; exact Heap.lt_size e
      refine call_zip_2 pl1.isList pl2.isList fun h' kz kTI kTO k1 k2 hsz hk => ?_
      have I2 : Inv X pins σ H1 { s1 with heap := h' } := I1.kept (t' := s1.toks) hk
      refine wpAny_pyIter_zip kz ?_
      refine ⟨s1.heap.objs.size + 4, [s1.heap.objs.size + 4, s1.heap.objs.size + 3, s1.heap.objs.size, s1.heap.objs.size + 1, s1.heap.objs.size + 2], _, _, H1, rfl, I2, turn_zip l1 l2 _ _ _ _ _ (PySem.W.ktu_apart _ _ _ lt1 lt2), ⟨kz, kTI, ⟨_, _, kTO⟩, k1, k2⟩, fun c hc => ?_, q⟩
      have hc' : s1.heap.objs.size ≤ c := by
        have hc' : c = s1.heap.objs.size + 4 ∨ c = s1.heap.objs.size + 3 ∨ c = s1.heap.objs.size ∨ c = s1.heap.objs.size + 1 ∨ c = s1.heap.objs.size + 2 := by simpa using hc
        rcases hc' with e | e | e | e | e
        · rw [e]; exact Nat.le_add_right _ _
        · rw [e]; exact Nat.le_add_right _ _
        · rw [e]; exact Nat.le_refl _
        · rw [e]; exact Nat.le_add_right _ _
        · rw [e]; exact Nat.le_add_right _ _
      exact I1.fpOk hc' (I1.hok.fresh hc')
end

/-- n turns; at turn i the target makes of the names f i; what is tracked stays, and more may come -/
structure Ys (J : It) (g : TG) (P : Hp → Prop) (n : Nat) (f : Nat → St → St) : Prop where
  go : ∀ i H, i < n → P H → J.go i H
  stop : ∀ H, P H → J.stop n H
  yld : ∀ i H x H' σ (Q : St → Hp → Prop), i < n → P H → J.yld i H x H' → (∀ H'', Same H H'' → Q (f i σ) H'') → g x σ H' Q
theorem ys_list {K : PySem.W.Frag} {a : Addr} {xs : List V} (p : Nat) : Ys (Itl K a) (gName p) (fun H => SqL K H a xs) xs.length (fun i σ => σ.set p (some (xs.getD i .non))) where
  go := fun i H hi h => ⟨xs, xs[i], h, by simp [hi]⟩
  stop := fun H h => ⟨xs, h, Nat.le_refl _⟩
  yld := fun i H x H' σ Q hi h y q => by
    obtain ⟨e, y⟩ := y
    subst e
    have e : xs.getD i .non = x := by simp [List.getD, y xs h]
    have := q _ (Same.refl _)
    rw [e] at this
    exact this
theorem ys_range {lo : Int} {n : Nat} (p : Nat) : Ys (Itr lo n) (gName p) (fun _ => True) n (fun i σ => σ.set p (some (.int (lo + i)))) where
  go := fun i H hi _ => hi
  stop := fun H _ => Nat.le_refl _
  yld := fun i H x H' σ Q hi _ y q => by
    obtain ⟨e, y⟩ := y
    subst e y
    exact q _ (Same.refl _)
theorem ys_enum {K : PySem.W.Frag} {a : Addr} {xs : List V} (p r : Nat) : Ys (Ite K a) (gTup K 2 (gCons (gName p) (gCons (gName r) gNil))) (fun H => SqL K H a xs) xs.length (fun i σ => (σ.set p (some (.int i))).set r (some (xs.getD i .non))) where
  go := fun i H hi h => ⟨xs, xs[i], h, by simp [hi]⟩
  stop := fun H h => ⟨xs, h, Nat.le_refl _⟩
  yld := fun i H x H' σ Q hi h y q => by
    obtain ⟨T, v, rfl, hT, rfl, hv⟩ := y
    have e : xs.getD i .non = v := by simp [List.getD, hv xs h]
    refine ⟨T, _, rfl, SqT.of upd_same, rfl, _, _, rfl, _, _, rfl, rfl, ?_⟩
    have := q _ (Same.updN hT (o := .tup [.int i, v]))
    rw [e] at this
    exact this
theorem ys_zip {K : PySem.W.Frag} {a b : Addr} {xs ys : List V} (p r : Nat) : Ys (Itz K a b) (gTup K 2 (gCons (gName p) (gCons (gName r) gNil))) (fun H => SqL K H a xs ∧ SqL K H b ys) (min xs.length ys.length) (fun i σ => (σ.set p (some (xs.getD i .non))).set r (some (ys.getD i .non))) where
  go := fun i H hi h => ⟨xs, ys, xs[i]'(by omega), ys[i]'(by omega), h.1, h.2, by simp, by simp⟩
  stop := fun H h => ⟨xs, ys, h.1, h.2, by omega⟩
  yld := fun i H x H' σ Q hi h y q => by
    obtain ⟨T, u, v, rfl, hT, rfl, hu, hv⟩ := y
    have e : xs.getD i .non = u := by simp [List.getD, hu xs h.1]
    have e' : ys.getD i .non = v := by simp [List.getD, hv ys h.2]
    refine ⟨T, _, rfl, SqT.of upd_same, rfl, _, _, rfl, _, _, rfl, rfl, ?_⟩
    have := q _ (Same.updN hT (o := .tup [u, v]))
    rw [e, e'] at this
    exact this
/-- a list of tuples of three, each taken apart -/
theorem ys_list3 {K : PySem.W.Frag} {a : Addr} {ts : List Addr} {u v w : Nat → V} (p r t : Nat) :
    Ys (Itl K a) (gTup K 3 (gCons (gName p) (gCons (gName r) (gCons (gName t) gNil)))) (fun H => SqL K H a (ts.map V.ref) ∧ ∀ i b, ts[i]? = some b → SqT K H b [u i, v i, w i]) ts.length (fun i σ => ((σ.set p (some (u i))).set r (some (v i))).set t (some (w i))) where
  go := fun i H hi h => ⟨_, .ref ts[i], h.1, by simp [hi]⟩
  stop := fun H h => ⟨_, h.1, by simp⟩
  yld := fun i H x H' σ Q hi h y q => by
    obtain ⟨e, y⟩ := y
    subst e
    have e : x = .ref ts[i] := by
      have := y _ h.1
      simp [hi] at this
      exact this.symm
    subst e
    exact ⟨ts[i], _, rfl, h.2 i _ (by simp [hi]), rfl, _, _, rfl, _, _, rfl, _, _, rfl, rfl, q _ (Same.refl _)⟩
theorem for_ys {J : It} {g : TG} {P : Hp → Prop} {n : Nat} {f : Nat → St → St} {tb : TS} {D : Ends} {σ : St} {H : Hp} (Y : Ys J g P n f) (Pv : Nat → St → Hp → Prop) (h0 : Pv 0 σ H) (hP : ∀ i σ H, Pv i σ H → P H)
    (hs : ∀ i σ H H', i < n → Pv i σ H → Same H H' → tb { D with nx := Pv (i + 1), ct := Pv (i + 1), bk := D.nx } (f i σ) H') (hd : ∀ σ H, Pv n σ H → D.nx σ H) : forGo g tb D J σ H := by
  refine ⟨fun i m σ H => m = n - i ∧ i ≤ n ∧ Pv i σ H, ⟨n, by simp, Nat.zero_le _, h0⟩, ?_⟩
  rintro i m σ H ⟨rfl, hi, p⟩
  by_cases hlt : i < n
  · exact .inr ⟨Y.go i H hlt (hP _ _ _ p), Pv (i + 1), fun σ' H' p' => ⟨n - (i + 1), by omega, rfl, hlt, p'⟩, fun x H' y => Y.yld i H x H' σ _ hlt (hP _ _ _ p) y fun H'' s => hs i σ H H'' hlt p s⟩
  · have e : i = n := by omega
    subst e
    exact .inl ⟨Y.stop H (hP _ _ _ p), hd σ H p⟩
section
variable {mp : List (Option Nat)} {g : TG} {tt : TT} {te : TE} {J : It} {P : Hp → Prop} {n : Nat} {f : Nat → St → St} {σ : St} {H : Hp} {Q : VK}
/-- all but what lies at l -/
noncomputable def SameX (l : Addr) (H H' : Hp) : Prop := ∀ b o, b ≠ l → H b = some o → H' b = some o
theorem Same.x {H H' : Hp} (s : Same H H') (l : Addr) : SameX l H H' := fun b o _ h => s b o h
theorem sameX_upd {H : Hp} {l : Addr} {o : HO} : SameX l H (upd H l o) := fun b u hb h => by rw [upd_ne hb]; exact h
/-- [te for .. in .. if tt]: fv i: the turn comes in; R: what its value is worth -/
theorem comp_genY (Y : Ys J g P n f) (st : Nat → St) (hf : ∀ i σ', (σ' = liftSt mp σ ∨ ∃ j, σ' = st j) → f i σ' = st i) (hP : ∀ H', Same H H' → P H') (hz : n ≤ sizeLine) (b : Nat → Bool) (R : Addr → Nat → V → Hp → Prop)
    (hR : ∀ l i v H1 H2, SameX l H1 H2 → R l i v H1 → R l i v H2)
    (ht : ∀ i, i < n → ∀ (H' : Hp) (G : Bool → Hp → Prop), Same H H' → (∀ H'', Same H' H'' → G (b i) H'') → tt (st i) H' G)
    (he : ∀ l i, i < n → b i = true → ∀ (H' : Hp) (G : VK), H l = none → (∃ o, H' l = some o) → Same H H' → (∀ v H'', R l i v H'' → Same H' H'' → G v H'') → te (st i) H' G)
    (hd : ∀ l ys H', H l = none → Same H H' → H' l = some (.lst ys) → Paired (fun i v => R l i v H') ((List.range n).filter b) ys → Q (.ref l) H') : tCompK mp g tt te J σ H Q := by
  intro l hl
  refine ⟨fun i m acc σ' H' => m = n - i ∧ i ≤ n ∧ acc.length ≤ i ∧ Same H H' ∧ H' l = some (.lst acc) ∧ Paired (fun i v => R l i v H') ((List.range i).filter b) acc ∧ (σ' = liftSt mp σ ∨ ∃ j, σ' = st j),
    ⟨n, by simp, Nat.zero_le _, Nat.le_refl _, Same.updN hl, upd_same, .nil, .inl rfl⟩, ?_⟩
  rintro i m acc σ' H' ⟨rfl, hi, ha, s, h1, h2, hσ⟩
  by_cases hlt : i < n
  · refine .inr ⟨Y.go i H' hlt (hP _ s), by omega, fun acc' σ2 H2 => i + 1 ≤ n ∧ acc'.length ≤ i + 1 ∧ Same H H2 ∧ H2 l = some (.lst acc') ∧ Paired (fun i v => R l i v H2) ((List.range (i + 1)).filter b) acc' ∧ (σ2 = liftSt mp σ ∨ ∃ j, σ2 = st j), fun acc' σ2 H2 p' => ⟨n - (i + 1), by omega, rfl, p'⟩, fun x H2 y => ?_⟩
    refine Y.yld i H' x H2 σ' _ hlt (hP _ s) y fun H3 s3 => ?_
    rw [hf i σ' hσ]
    refine ht i hlt H3 _ (s.trans s3) fun H4 s4 => ?_
    have s34 := s3.trans s4
    cases hb : b i with
    | false =>
      refine iteF ⟨hlt, by omega, s.trans s34, s34 _ _ h1, ?_, .inr ⟨i, rfl⟩⟩
      rw [List.range_succ, List.filter_append, List.filter_cons, hb]
      simp only [Bool.false_eq_true, if_false, List.filter_nil, List.append_nil]
      exact Paired.mapP h2 fun j v r => hR l j v _ _ (s34.x l) r
    | true =>
      refine iteT ?_
      refine he l i hlt hb H4 _ hl ⟨_, s34 _ _ h1⟩ (s.trans s34) fun v H5 r s5 => ?_
      have s35 := s34.trans s5
      refine ⟨s35 _ _ h1, hlt, ?_, (s.trans s35).upd hl, upd_same, ?_, .inr ⟨i, rfl⟩⟩
      · rw [List.length_append, List.length_singleton]; omega
      · rw [List.range_succ, List.filter_append, List.filter_cons, hb]
        simp only [if_true, List.filter_nil]
        exact (Paired.mapP h2 fun j v r => hR l j v _ _ sameX_upd (hR l j v _ _ (s35.x l) r)).snoc (hR l i v _ _ sameX_upd r)
  · have e : i = n := by omega
    subst e
    exact .inl ⟨Y.stop H' (hP _ s), hd l acc H' hl s h1 h2⟩
theorem paired_map {α : Type} {F : α → V} : ∀ {xs : List α} {ys : List V}, Paired (fun x v => v = F x) xs ys → ys = xs.map F
  | _, _, .nil => rfl
  | _, _, .cons e t => by rw [e, paired_map t]; rfl
/-- each value is F i -/
theorem comp_mapY (Y : Ys J g P n f) (st : Nat → St) (hf : ∀ i σ', (σ' = liftSt mp σ ∨ ∃ j, σ' = st j) → f i σ' = st i) (hP : ∀ H', Same H H' → P H') (hz : n ≤ sizeLine) (F : Nat → V)
    (he : ∀ i, i < n → ∀ (H' : Hp) (G : VK), Same H H' → (∀ H'', Same H' H'' → G (F i) H'') → te (st i) H' G)
    (hd : ∀ l H', H l = none → Same H H' → H' l = some (.lst ((List.range n).map F)) → Q (.ref l) H') : tCompK mp g tYes te J σ H Q := by
  refine comp_genY Y st hf hP hz (fun _ => true) (fun _ i v _ => v = F i) (fun _ _ _ _ _ _ h => h) (fun i hi H' G s k => k H' (Same.refl _)) (fun l i hi _ H' G _ _ s k => he i hi H' G s fun H'' s' => k _ H'' rfl s') fun l ys H' h0 s h1 pr => ?_
  have e := paired_map pr
  rw [List.filter_eq_self.mpr (fun _ _ => rfl)] at e
  subst e
  exact hd l H' h0 s h1
/-- .. where b i -/
theorem comp_filtY (Y : Ys J g P n f) (st : Nat → St) (hf : ∀ i σ', (σ' = liftSt mp σ ∨ ∃ j, σ' = st j) → f i σ' = st i) (hP : ∀ H', Same H H' → P H') (hz : n ≤ sizeLine) (b : Nat → Bool) (F : Nat → V)
    (ht : ∀ i, i < n → ∀ (H' : Hp) (G : Bool → Hp → Prop), Same H H' → (∀ H'', Same H' H'' → G (b i) H'') → tt (st i) H' G)
    (he : ∀ i, i < n → b i = true → ∀ (H' : Hp) (G : VK), Same H H' → (∀ H'', Same H' H'' → G (F i) H'') → te (st i) H' G)
    (hd : ∀ l H', H l = none → Same H H' → H' l = some (.lst (((List.range n).filter b).map F)) → Q (.ref l) H') : tCompK mp g tt te J σ H Q := by
  refine comp_genY Y st hf hP hz b (fun _ i v _ => v = F i) (fun _ _ _ _ _ _ h => h) ht (fun l i hi hb H' G _ _ s k => he i hi hb H' G s fun H'' s' => k _ H'' rfl s') fun l ys H' h0 s h1 pr => ?_
  have e := paired_map pr
  subst e
  exact hd l H' h0 s h1
theorem paired_refs {T : Addr → Nat → Prop} : ∀ {is : List Nat} {ys : List V}, Paired (fun i v => ∃ b, v = .ref b ∧ T b i) is ys → ∃ bs : List Addr, ys = bs.map V.ref ∧ Paired (fun i b => T b i) is bs
  | _, _, .nil => ⟨[], rfl, .nil⟩
  | _, _, .cons ⟨b, e, h⟩ t => by
    obtain ⟨bs, e', p⟩ := paired_refs t
    exact ⟨b :: bs, by rw [e, e']; rfl, .cons h p⟩
/-- each value is a new list: row i -/
theorem comp_rowsY (Y : Ys J g P n f) (st : Nat → St) (hf : ∀ i σ', (σ' = liftSt mp σ ∨ ∃ j, σ' = st j) → f i σ' = st i) (hP : ∀ H', Same H H' → P H') (hz : n ≤ sizeLine) (row : Nat → List V)
    (he : ∀ i, i < n → ∀ (H' : Hp) (G : VK), Same H H' → (∀ b H'', H' b = none → Same H' H'' → H'' b = some (.lst (row i)) → G (.ref b) H'') → te (st i) H' G)
    (hd : ∀ l bs H', H l = none → Same H H' → H' l = some (.lst (bs.map V.ref)) → Paired (fun i b => H b = none ∧ b ≠ l ∧ H' b = some (.lst (row i))) (List.range n) bs → Q (.ref l) H') : tCompK mp g tYes te J σ H Q := by
  refine comp_genY Y st hf hP hz (fun _ => true) (fun l i v H' => ∃ b, v = .ref b ∧ H b = none ∧ b ≠ l ∧ H' b = some (.lst (row i))) (fun l i v H1 H2 s ⟨b, e, h0, hl, h1⟩ => ⟨b, e, h0, hl, s b _ hl h1⟩) (fun i hi H' G s k => k H' (Same.refl _))
    (fun l i hi _ H' G hl ⟨o, ho⟩ s k => he i hi H' G s fun b H'' h0 s' h1 => k _ H'' ⟨b, rfl, s.free h0, (fun e => by rw [e, ho] at h0; cases h0), h1⟩ s') fun l ys H' h0 s h1 pr => ?_
  rw [List.filter_eq_self.mpr (fun _ _ => rfl)] at pr
  obtain ⟨bs, rfl, pr'⟩ := paired_refs (T := fun b i => H b = none ∧ b ≠ l ∧ H' b = some (.lst (row i))) pr
  exact hd l bs H' h0 s h1 pr'
end
/-! ### list(reversed(xs)) -/
/-! ### ints in a list of ints -/
theorem in_ints {i : Int} {ns : List Int} : inV (.int i) (ns.map V.int) = decide (i ∈ ns) := by
  unfold inV
  rw [List.any_map]
  induction ns with
  | nil => simp
  | cons n r ih =>
    rw [List.any_cons, ih]
    show ((n == i) || decide (i ∈ r)) = _
    by_cases h : n = i
    · subst h; simp
    · have : (n == i) = false := by simpa using h
      rw [this, Bool.false_or]
      by_cases h' : i ∈ r
      · simp [h']
      · have : ¬ i ∈ n :: r := fun z => by
          rcases List.mem_cons.mp z with e | e
          · exact h e.symm
          · exact h' e
        rw [decide_eq_false h', decide_eq_false this]
theorem flat_ints (ns : List Int) : (ns.map V.int).all flatV = true := by
  rw [List.all_map]
  exact List.all_eq_true.mpr fun _ _ => rfl
section
variable {K : PySem.W.Frag} {H : Hp} {Q : VK}
theorem r_inI {p : Addr} {ns : List Int} {i : Int} (hs : SqL K H p (ns.map V.int)) (h : Q (.bl (decide (i ∈ ns))) H) : rIn K false (.int i) (.ref p) H Q :=
  ⟨p, _, rfl, .inl hs, rfl, flat_ints ns, by rw [if_neg Bool.false_ne_true, in_ints]; exact h⟩
theorem r_ninI {p : Addr} {ns : List Int} {i : Int} (hs : SqL K H p (ns.map V.int)) (h : Q (.bl (!decide (i ∈ ns))) H) : rIn K true (.int i) (.ref p) H Q :=
  ⟨p, _, rfl, .inl hs, rfl, flat_ints ns, by rw [if_pos rfl, in_ints]; exact h⟩
theorem r_all {p : Addr} {bs : List Bool} (hs : SqL K H p (bs.map V.bl)) (h : Q (.bl (bs.all id)) H) : rAll K [.ref p] H Q := ⟨p, bs, rfl, hs, h⟩
theorem r_enum {te : TE} {σ : St} {R : It → Hp → Prop} (h : te σ H fun x H1 => ∃ a, x = .ref a ∧ (∃ xs, SqL K H1 a xs) ∧ R (Ite K a) H1) : iEnum K te σ H R := h
theorem r_zip {ta : TA} {σ : St} {R : It → Hp → Prop} (h : ta σ H fun vs H1 => ∃ a b, vs = [.ref a, .ref b] ∧ (∃ xs, SqL K H1 a xs) ∧ (∃ ys, SqL K H1 b ys) ∧ R (Itz K a b) H1) : iZip K ta σ H R := h
theorem r_zip' {P : Addr → Addr → Prop} {a b : Addr} {xs ys : List V} (hs : SqL K H a xs) (ht : SqL K H b ys) (h : P a b) : ∃ a' b', ([.ref a, .ref b] : List V) = [.ref a', .ref b'] ∧ (∃ xs, SqL K H a' xs) ∧ (∃ ys, SqL K H b' ys) ∧ P a' b' := ⟨a, b, rfl, ⟨xs, hs⟩, ⟨ys, ht⟩, h⟩
end
/-! ### rows of ints -/
/-- a list of lists of ints -/
noncomputable def RowsAt (K : PySem.W.Frag) (H : Hp) (a : Addr) (rows : List (List Int)) : Prop := ∃ bs : List Addr, SqL K H a (bs.map V.ref) ∧ Paired (fun r b => SqL K H b (r.map V.int)) rows bs
theorem Same.rows {K : PySem.W.Frag} {H H' : Hp} {a : Addr} {rows : List (List Int)} (e : Same H H') (h : RowsAt K H a rows) : RowsAt K H' a rows := by
  obtain ⟨bs, h1, h2⟩ := h
  exact ⟨bs, e.seq h1, Paired.mapP h2 fun _ _ q => e.seq q⟩
theorem paired_at' {α β : Type} {F : α → β → Prop} : ∀ {xs : List α} {ys : List β} {i : Nat} {y : β}, Paired F xs ys → ys[i]? = some y → ∃ x, xs[i]? = some x ∧ F x y
  | _, _, _, _, .nil, e => by simp at e
  | _, _, 0, _, .cons h _, e => by simp at e; subst e; exact ⟨_, rfl, h⟩
  | _, _, i + 1, _, .cons _ t, e => by simpa using paired_at' t (by simpa using e)
end L2
/-! ### list(reversed(xs)) -/
namespace L2
open PySem PySem.Spec PyProof.Rows
section
variable {prog : Program} {w : World} {A : Around} {E : Value → Shared → Prop} {s : Shared}
end
theorem vals_of_get : ∀ {xs : List V} {us : List Value}, xs.length = us.length → (∀ (i : Nat) (x : V) (u : Value), xs[i]? = some x → us[i]? = some u → RelV x u) → Vals xs us
  | [], [], _, _ => .nil
  | x :: r, u :: q, hl, h => .cons (h 0 x u rfl rfl) (vals_of_get (by simpa using hl) fun i y w e e' => h (i + 1) y w (by simpa using e) (by simpa using e'))
end L2
/-! ### what is new by its facts -/
namespace L2
open PySem PySem.Spec PyProof.Rows
noncomputable def rInt1 : List V → Hp → VK → Prop := fun xs H Q => (∃ i, xs = [.int i] ∧ Q (.int i) H) ∨ ∃ k, xs = [.bl k] ∧ Q (.int (if k then 1 else 0)) H
theorem call_intI {X : Cx} : CallR X (.type "int") rInt1 := call_int1
theorem r_intB {k : Bool} {H : Hp} {Q : VK} (h : Q (.int (if k then 1 else 0)) H) : rInt1 [.bl k] H Q := .inr ⟨k, rfl, h⟩
section
variable {K : PySem.W.Frag} {D : Ends} {σ : St} {H : Hp} {Q : VK} {te ta tb : TE} {tl : TA} {xs : List V} {i j : Int}
noncomputable def newL (xs : List V) (H : Hp) (Q : VK) : Prop := xs.length ≤ sizeLine ∧ ∀ p, H p = none → Q (.ref p) (upd H p (.lst xs))
noncomputable def newT (xs : List V) (H : Hp) (Q : VK) : Prop := xs.length ≤ sizeLine ∧ ∀ p, H p = none → Q (.ref p) (upd H p (.tup xs))
theorem r_lstN (h : tl σ H fun xs H1 => newL xs H1 Q) : tLst tl σ H Q := h
theorem r_tupN (h : tl σ H fun xs H1 => newT xs H1 Q) : tTup tl σ H Q := h
theorem r_newL (hz : xs.length ≤ sizeLine) (h : ∀ p H2, H p = none → Same H H2 → H2 p = some (.lst xs) → Q (.ref p) H2) : newL xs H Q := ⟨hz, fun p hp => h p _ hp (Same.updN hp) upd_same⟩
theorem r_newT (hz : xs.length ≤ sizeLine) (h : ∀ p H2, H p = none → Same H H2 → H2 p = some (.tup xs) → Q (.ref p) H2) : newT xs H Q := ⟨hz, fun p hp => h p _ hp (Same.updN hp) upd_same⟩
theorem r_slLN {a : Addr} {lo hi : Option Int} (hs : SqL K H a xs) (h : ∀ p H2, H p = none → Same H H2 → H2 p = some (.lst (cutV xs lo hi)) → Q (.ref p) H2) : rSlL K (.ref a) lo hi H Q := ⟨a, xs, rfl, hs, fun p hp => h p _ hp (Same.updN hp) upd_same⟩
theorem r_listOfN {p : Addr} (hs : SqL K H p xs) (h : ∀ l H2, H l = none → Same H H2 → H2 l = some (.lst xs) → Q (.ref l) H2) : rListOf K [.ref p] H Q := ⟨p, xs, rfl, .inl hs, fun l hl => h l _ hl (Same.updN hl) upd_same⟩
theorem r_catN {l b : Addr} {ys : List V} (h1 : H l = some (.lst xs)) (h2 : H b = some (.lst ys)) (hz : xs.length + ys.length ≤ sizeLine) (h : ∀ p H2, H p = none → Same H H2 → H2 p = some (.lst (xs ++ ys)) → Q (.ref p) H2) : rCat (.ref l) (.ref b) H Q :=
  ⟨l, b, xs, ys, rfl, rfl, h1, h2, hz, fun p hp => h p _ hp (Same.updN hp) upd_same⟩
theorem r_ixN {p : Addr} {v : V} (hs : SqL K H p xs) (h0 : 0 ≤ i) (ha : xs[i.toNat]? = some v) (h : Q v H) : rIxL K (.ref p) (.int i) H Q := ⟨p, xs, i, v, rfl, rfl, hs, by
  have e : ((i.toNat : Nat) : Int) = i := Int.toNat_of_nonneg h0
  rw [← e]
  exact atI_nat ha, h⟩
theorem r_asgT {n : Nat} {g : TGs} (h : te σ H fun x H1 => gTup K n g x σ H1 D.nx) : tAsg te (gTup K n g) D σ H := h
theorem r_appendN {l : Addr} {y : V} (hp : H l = some (.lst xs)) (hz : xs.length < sizeLine) (h : Q .non (upd H l (.lst (xs ++ [y])))) : rAppend (.ref l) [y] H Q := ⟨l, xs, y, rfl, rfl, hp, hz, h⟩
theorem tyL {p : Addr} (hp : H p = some (.lst xs)) : tyV K "list" (.ref p) H := .inl ⟨rfl, _, SqL.of hp⟩
end
section
variable {A B : Prop} {c : Prop} [Decidable c]
theorem iteP (hc : c) (h : A) : if decide c = true then A else B := by rw [decide_eq_true hc]; exact iteT h
theorem iteN (hc : ¬ c) (h : B) : if decide c = true then A else B := by rw [decide_eq_false hc]; exact iteF h
theorem iteNP (hc : ¬ c) (h : A) : if (!decide c) = true then A else B := by rw [decide_eq_false hc]; exact iteT h
theorem iteNT (h : B) : if (!true) = true then A else B := iteF h
theorem iteNF (h : A) : if (!false) = true then A else B := iteT h
theorem iteD (h1 : c → A) (h2 : ¬ c → B) : if decide c = true then A else B := ite2 (fun h => h1 (of_decide_eq_true h)) (fun h => h2 fun z => h (decide_eq_true z))
end
theorem cut_take (ns : List Int) (m : Nat) : cutV (ns.map V.int) none (some (m : Int)) = (ns.take m).map V.int := by
  unfold cutV
  rw [HT.sIx_none, HT.sIx_nat, List.length_map, Nat.sub_zero, List.drop_zero, List.map_take]
  rcases Nat.le_total m ns.length with h | h
  · rw [Nat.min_eq_left h]
  · rw [Nat.min_eq_right h, List.take_of_length_le (by simp), List.take_of_length_le (by simpa using h)]
theorem cutA_drop {α : Type} (f : α → V) (xs : List α) (m : Nat) : cutV (xs.map f) (some (m : Int)) none = (xs.drop m).map f := by
  unfold cutV
  rw [HT.sIx_none, HT.sIx_nat, List.length_map, List.map_drop]
  rcases Nat.le_total m xs.length with h | h
  · rw [Nat.min_eq_left h, List.take_of_length_le (by simp)]
  · rw [Nat.min_eq_right h, List.drop_of_length_le (by simp), List.drop_of_length_le (by simpa using h)]
    simp
theorem cutA_mid {α : Type} (f : α → V) (xs : List α) (m k : Nat) : cutV (xs.map f) (some (m : Int)) (some (k : Int)) = ((xs.drop m).take (k - m)).map f := by
  unfold cutV
  rw [HT.sIx_nat, HT.sIx_nat, List.length_map, List.map_take, List.map_drop]
  rcases Nat.le_total m xs.length with h | h
  · rw [Nat.min_eq_left h]
    rcases Nat.le_total k xs.length with h' | h'
    · rw [Nat.min_eq_left h']
    · rw [Nat.min_eq_right h', List.take_of_length_le (by simp), List.take_of_length_le (by simp; omega)]
  · rw [Nat.min_eq_right h, List.drop_of_length_le (by simp), List.drop_of_length_le (by simpa using h)]
    simp
theorem line64 : (1000 : Nat) ≤ sizeLine := Nat.le_of_lt (small1000 (Nat.le_refl _))
end L2
/-! ### data without truths and dicts: any two of them may be compared -/
namespace L2
open PySem PySem.Spec PyProof.Rows
section
variable {K : PySem.W.Frag} {H : Hp} {Q : VK} {x y : V} {d e : PyData} {n : Nat}
end
/-! ### xs[::-1] -/
section
variable {X : Cx}
end
end L2
/-! ### list.index of an int that is there -/
namespace L2
open PySem PySem.Spec PyProof.Rows
section
variable {X : Cx}
end
end L2
/-! ### dead ends; tuples walked; the list of a range; zip of three -/
namespace L2
open PySem PySem.Spec PyProof.Rows
section
variable {X : Cx}
/-- a list as a test -/
noncomputable def tBL (K : PySem.W.Frag) (t : TE) : TT := fun σ H Q => t σ H fun x H1 => ∃ a xs, x = .ref a ∧ SqL K H1 a xs ∧ Q (!xs.isEmpty) H1
theorem pt_lst {e : Expr} {t : TE} (h : PE X e t) (he : ∀ whole, isTrue e X.env whole = (do let v ← whole; standAt e.pos; holding [v] (truthy v)) := by intro _; rfl) : PT X e (tBL X.K t) := by
  intro pins s σ H Q I hw
  refine isTrue_plain (thn (h pins s σ H _ I hw) fun v s1 ⟨x, H1, I1, r1, q1⟩ => ?_) (he _)
  obtain ⟨a, xs, rfl, hS, q⟩ := q1
  cases r1
  obtain ⟨its, rv, pl, hz⟩ := I1.list hS
  have hl := rv.length
  have hs : its.length ≤ sizeLine := by rw [← hl]; exact hz
  refine wpAny_truthy_list pl.isList (by rw [List.size_toArray]; have : (sizeLine : Int) < 2 ^ 63 := by decide
                                         omega) ?_
  refine ⟨H1, I1.tok _, ?_⟩
  have e1 : its.toArray.isEmpty = xs.isEmpty := by cases xs <;> cases its <;> simp_all
  rw [e1]
  exact q
theorem r_tBL {K : PySem.W.Frag} {t : TE} {σ : St} {H : Hp} {Q : Bool → Hp → Prop} (h : t σ H fun x H1 => ∃ a xs, x = .ref a ∧ SqL K H1 a xs ∧ Q (!xs.isEmpty) H1) : tBL K t σ H Q := h
noncomputable def rngL : List V → Hp → VK → Prop := fun vs H Q => ∃ n : Nat, vs = [.int n] ∧ n ≤ 1000 ∧ ∀ l, H l = none → Q (.ref l) (upd H l (.lst ((List.range n).map fun i : Nat => V.int (i : Int))))
noncomputable def tListRng (ta : TA) : TE := fun σ H Q => ta σ H fun vs H1 => rngL vs H1 Q
theorem r_listRng {ta : TA} {σ : St} {H : Hp} {Q : VK} (h : ta σ H fun vs H1 => rngL vs H1 Q) : tListRng ta σ H Q := h
theorem r_rngL {H : Hp} {Q : VK} {n : Nat} (hn : n ≤ 1000) (h : ∀ l H2, H l = none → Same H H2 → H2 l = some (.lst ((List.range n).map fun i : Nat => V.int (i : Int))) → Q (.ref l) H2) : rngL [.int n] H Q := ⟨n, rfl, hn, fun l hl => h l _ hl (Same.updN hl) upd_same⟩
theorem pe_listRange {a : Expr} {ta : TA} {p p2 pos pos2 : Pos} (hc : X.calm = true) (hg : Gl X "list") (hm : X.mg "list" = none) (hg2 : Gl X "range") (hm2 : X.mg "range" = none) (ha : PA X [a] ta)
    (hs : starEach [.Call (.Name "range" p2) [a] [] pos2] X.env = [(false, eval (.Call (.Name "range" p2) [a] [] pos2) X.env)] := by rfl) (hs2 : starEach [a] X.env = [(false, eval a X.env)] := by rfl) :
    PE X (.Call (.Name "list" p) [.Call (.Name "range" p2) [a] [] pos2] [] pos) (tListRng ta) := by
  intro pins s σ H Q I h
  refine Call_ (ld_blt I hg hm boot_list (PyProof.Rows.callWith_type1 ?_ hs rfl))
  rw [hs]
  show wpAny _ _ (spliced ((false, eval (.Call (.Name "range" p2) [a] [] pos2) X.env) :: [])) _ _ s
  refine Calls.spliced_cons (Call_ (ld_blt I hg2 hm2 boot_range (PyProof.Rows.callWith_type1 (thn (ha pos2 pins s σ H _ I h) fun us s1 ⟨vs, H1, I1, r1, q1⟩ => ?_) hs2 rfl)))
  obtain ⟨n, e, hn, q⟩ := q1
  subst e
  cases r1 with
  | cons r rr =>
    cases rr
    obtain ⟨t, rfl⟩ := r
    refine call_range_1 (Calls.spliced_nil ?_)
    refine call_list_range (n := n) (I1.ok.hd hc) (IsRange.new ..) (small_one (by omega) (by omega) (by omega) (by omega)) (by rw [rangeSize_one]; split <;> omega) (by omega) fun h' tk acc' c' hk hD hacc => ?_
    have keep : ∀ b o, s1.heap.get? b = some o → h'.get? b = some o := fun b o e => hk b o (Heap.get?_push_of_some _ e)
    have hle : ∀ ob : Obj, s1.heap.objs.size ≤ (s1.heap.push ob).objs.size := fun ob => by rw [Heap.size_push]; exact Nat.le_succ _
    refine ⟨.ref _, _, I1.laid (t' := tk) keep (hle _) (show ObjOk X.prog X.w _ h' _ (.lst ((List.range n).map fun i : Nat => V.int (i : Int))) from ⟨by rw [List.length_map, List.length_range]; exact Nat.le_trans hn line64, acc'.toList, c', vals_of_get ?_ ?_, ?_⟩), rfl, q _ (I1.hok.fresh (hle _))⟩
    · have e1 : acc'.size = n := hacc.1
      rw [List.length_map, List.length_range, Array.length_toList, e1]
    · intro i y w e1 e2
      obtain ⟨t', e3⟩ := hacc.2 i w (by rw [← Array.getElem?_toList]; exact e2)
      have hi : i < n := by have z := (List.getElem?_eq_some_iff.mp e1).1; rwa [List.length_map, List.length_range] at z
      have e4 : y = V.int (i : Int) := by simp [hi] at e1; exact e1.symm
      rw [e3, e4]
      exact ⟨t', by simp⟩
    · rw [Array.toArray_toList]; exact hD
end
end L2
/-! ### zip of three lists -/
namespace L2
open PySem PySem.Spec PyProof.Rows
section
variable {prog : Program} {w : World} {A : Around} {E : Value → Shared → Prop} {s : Shared}
end
section
variable {prog : Program} {w : World} {A : Around} {E : Value → Shared → Prop} {s : Shared}
end
section
variable {X : Cx}
end
end L2
/-! ### min of a list of tuples of whole numbers: one of them -/
namespace L2
open PySem PySem.Spec PyProof.Rows
section
variable {prog : Program} {w : World} {A : Around} {R : Result → Shared → Prop} {I : Addr} {fp wr : List Addr} {n : Nat} {P : Nat → Value → Prop} {St : Nat → Heap → Prop}
end
section
variable {prog : Program} {w : World} {A : Around} {E : Value → Shared → Prop} {s : Shared}
end
section
variable {X : Cx}
end
end L2
/-! ### defs by name, their promises -/
namespace L2
open PySem PySem.Spec PyProof.Rows
/-- a def of the text may be called by its name, with this promise -/
structure Cal (P : Program) (w : World) (K : PySem.W.Frag) (mg : Str → Option Value) (base : Heap) (k : Nat) (x : Str) (ps : List Str) (sp : Sp) : Prop where
  ex : ∃ a fd, mg x = some (.ref a) ∧ PySem.W.keepIn K (.ref a) = true ∧ Binds K fd ps [] ∧ FnOk P w K mg base CX0 k a fd ps sp
/-- a def of the text stands under its name -/
structure FunIn (K : PySem.W.Frag) (mg : Str → Option Value) (x : Str) (st : Stmt) (ps : List Str) : Prop where
  ex : ∃ a fd, mg x = some (.ref a) ∧ Fun K x x st a fd ∧ ∀ us : List Value, us.length = ps.length → bindArgs fd ⟨us, []⟩ = pure (ps.zip us)
section
variable {P : Program} {w : World} {K : PySem.W.Frag} {mg : Str → Option Value} {base : Heap}
theorem FunIn.cal {x : Str} {st : Stmt} {ps N : List Str} {rd : TS} {k : Nat} {sp : Sp} (F : FunIn K mg x st ps) (S : FnScope N ps (defScope st)) (len : ∀ vs H Q E, sp vs H Q E → vs.length = ps.length)
    (hb : ∀ (f : Addr) (cdv : Value) (A : Around) (outer : List Env) (s : Shared) (H : Hp) (E : XK), Room k (A.deeper (envOfC x (defScope st) s.heap.objs.size f cdv)) → PSs (cxOf CX0 P w K mg base N x (defScope st) f cdv A outer s H E).nox (defBody st) rd)
    (hr : ∀ vs H Q E, sp vs H Q E → rd { nx := fun _ H' => Q .non H', rt := Q } (start N vs) H) : Cal P w K mg base (k + 1) x ps sp := by
  obtain ⟨a, fd, hm, hF, hbd⟩ := F.ex
  exact ⟨a, fd, hm, hF.kp, .all hbd, hF.ok S len fun cdv A outer s H vs Q E room h => ⟨rd, hb a cdv A outer s H E room, hr vs H Q E h⟩⟩
/-- the law's own def, at the address that the head gives -/
theorem FunIn.law {x : Str} {st : Stmt} {N : List Str} {y : Str} {rd : TS} {k : Nat} {sp : Sp} {fa : Addr} (F : FunIn K mg x st [y]) (hfa : mg x = some (.ref fa)) (S : FnScope N [y] (defScope st)) (len : ∀ vs H Q E, sp vs H Q E → vs.length = 1)
    (hb : ∀ (base : Heap) (f : Addr) (cdv : Value) (A : Around) (outer : List Env) (s : Shared) (H : Hp) (E : XK), Room k (A.deeper (envOfC x (defScope st) s.heap.objs.size f cdv)) → PSs (cxOf CX0 P w K mg base N x (defScope st) f cdv A outer s H E).nox (defBody st) rd)
    (hr : ∀ vs H Q E, sp vs H Q E → rd { nx := fun _ H' => Q .non H', rt := Q } (start N vs) H) :
    ∃ fd : FuncData, (∀ (s : Shared) (u : Value), BindsTo s fd ⟨[u], []⟩ [(y, u)]) ∧ ∀ base : Heap, FnOk P w K mg base CX0 (k + 1) fa fd [y] sp := by
  obtain ⟨a, fd, hm, hF, hbd⟩ := F.ex
  have e := hfa.symm.trans hm
  cases e
  exact ⟨fd, fun s u => .of_eq (hbd [u] rfl), fun base => hF.ok S len fun cdv A outer s H vs Q E room h => ⟨rd, hb base fa cdv A outer s H E room, hr vs H Q E h⟩⟩
theorem fun_in {h : Heap} {x : Str} {st : Stmt} {ps : List Str} {f : Addr} {oc : Value} {od an : Option Addr} {osl : Array (Option Value)} {kV doc pm cdv ct : Value} (X : K.In h) (G : h.Ns mainGlobals mg)
    (a4 : PySem.W.nsIn K mainGlobals x = some (some (.ref f))) (l4 : K.lookup f = some ⟨oc, od, .func (PySem.W.fnOf x x (defArgs st) (defBody st) (defScope st) .none kV doc pm an cdv ct), osl⟩)
    (c4 : PySem.W.codeIn K cdv x = true) (k4 : PySem.W.keepIn K (.ref f) = true)
    (hb : ∀ (kV doc pm : Value) (an : Option Addr) (cdv ct : Value) (us : List Value), us.length = ps.length → bindArgs (PySem.W.fnOf x x (defArgs st) (defBody st) (defScope st) .none kV doc pm an cdv ct) ⟨us, []⟩ = pure (ps.zip us)) : FunIn K mg x st ps :=
  ⟨f, _, PySem.W.mg_of X G a4, fun_mk l4 c4 k4, hb kV doc pm an cdv ct⟩
end
section
variable {X : Cx} {k : Nat} {ps : List Str} {sp : Sp} {x : Str} {p pos : Pos} {e : Expr} {es : List Expr} {t : TA}
/-- f(e, ..) -/
theorem pe_cal (C : Cal X.prog X.w X.K X.mg X.base k x ps sp) (hr : Room k X.A) (ha : PA X (e :: es) t) (hg : Gl X x := by rfl) (hdb : (x == ("__debug__" : Str)) = false := by decide)
    (he : starEach (e :: es) X.env = (false, eval e X.env) :: starEach es X.env := by rfl) (hpl : (backTo pos (starEach es X.env)).any (·.1) = false := by rfl) : PE X (.Call (.Name x p) (e :: es) [] pos) (tCall sp [] E0 t) := by
  obtain ⟨a, fd, hm, hk, hb, F⟩ := C.ex
  exact pe_call F hr hg hm hk hb .nil pass0 ha hdb he hpl
theorem ip_of {op : Operator} {r : R2} (h : OpR X (inplaceOp op) r) : PIp X op r := h
/-- len of a list -/
theorem mg_name {K : PySem.W.Frag} {mg : Str → Option Value} {h : Heap} {x : Str} (X : K.In h) (G : h.Ns mainGlobals mg) (z : PySem.W.nsIn K mainGlobals x = some none) : mg x = none := PySem.W.mg_none_of X G z
end
/-- a promise: so many arguments, and R -/
noncomputable def spOf (n : Nat) (R : List V → Hp → VK → Prop) : Sp := fun vs H Q _ => vs.length = n ∧ R vs H Q
theorem spOf_len {n : Nat} {R : List V → Hp → VK → Prop} {m : Nat} (e : n = m) : ∀ vs H Q E, spOf n R vs H Q E → vs.length = m := fun _ _ _ _ h => h.1.trans e
/-- law's promise: a list of at most 63 ints is handed in, True comes out -/
noncomputable def sp_law (K : PySem.W.Frag) : Sp := spOf 1 fun vs H Q => ∃ (a : Addr) (ns : List Int), vs = [.ref a] ∧ SqL K H a (ns.map V.int) ∧ ns.length ≤ 63 ∧ ∀ H', Q (.bl true) H'
theorem walk_law {l : PySem.W.OpenLaw} {k : Nat} {q : Program} {loose : List Str} {XP : (Str → Option Value) → Heap → Prop} {YP : World → Heap → Prop} {d : DefRec} {K : Params → PySem.W.Frag} (hn : l.most = some 63) (hdf : d.params.defaults = []) (hr : Room k callerA)
    (hY : ∀ (w : World) (h : Heap), YP w h → (K w.params).In h)
    (F : ∀ (w : World) (mg : Str → Option Value) (fa : Addr) (h : Heap), (K w.params).In h → h.Ns mainGlobals mg → mg d.name = some (.ref fa) →
      ∃ fd : FuncData, (∀ (s : Shared) (u : Value), BindsTo s fd ⟨[u], []⟩ [("script", u)]) ∧ ∀ base : Heap, FnOk l.prog w (K w.params) mg base CX0 k fa fd ["script"] (sp_law (K w.params))) :
    PySem.W.WalkO q loose XP YP l.row.toRowW d [] (fun f vs => PySem.call f vs) :=
  walk_of (n := 63) (k := k) (x := "script") (CX := fun _ => CX0) (sp := fun w => sp_law (K w.params)) hn (by decide) hdf hr hY
    (fun w mg fa h KX G e => let ⟨fd, h1, h2⟩ := F w mg fa h KX G e; ⟨fd, h1, fun base _ _ => h2 base⟩) (fun _ _ a ns hl _ hS => ⟨rfl, a, ns, rfl, hS, hl, fun _ => rfl⟩) fun _ _ _ _ _ z => z
end L2

/-! ### exceptions that leave a def: what the leaving changes -/
namespace L2
open PySem PySem.Spec PyProof.Rows
theorem dict_mapF (o : Obj) (f) : (o.mapFields f).dict = o.dict := by
  unfold Obj.mapFields; split <;> rfl
/-- the exception at e, its class, its traceback at T -/
noncomputable def TrT (base h : Heap) (e T : Addr) (cls : Value) : Prop :=
  (∃ oe vs oT ts, h.get? e = some oe ∧ oe.cls = cls ∧ oe.dict = none ∧ oe.data = .fields vs ∧ vs[1]? = some (.ref T) ∧ h.get? T = some oT ∧ oT.data = .fields ts ∧ ts[3]? = some .none) ∧ base.get? T = none ∧ T ≠ e
/-- h' is h but for the exception's record at e, the frames' slots, and new objects; the exception carries its traceback -/
noncomputable def LeftBy (base : Heap) (l : List Env) (e : Addr) (cls : Value) (h h' : Heap) : Prop :=
  (∀ b o, b ≠ e → b ∉ frs l → h.get? b = some o → h'.get? b = some o) ∧ (∀ b o, b ≠ e → h.get? b = some o → ∃ sl, h'.get? b = some { o with slots := sl }) ∧ ∃ T, h.objs.size ≤ T ∧ TrT base h' e T cls
section
variable {M : Model} {A : Around} {E : Value → Shared → Prop} {s : Shared}
theorem newEntry_by {base : Heap} {env : Env} {outer : List Env} {L e : Addr} {oe : Obj} {vs : Array Value} {head : Value} {hadNext : Bool} {Q : Unit → Shared → Prop} (hfr : A.frames = some (env :: outer)) (hl : s.heap.FunFrames base (env :: outer)) (hf : env.frame = some L)
    (he : s.heap.get? e = some oe) (hkb : base.StaysIn s.heap) (hdn : oe.dict = none) (hd : oe.data = .fields vs) (hsz : 1 < vs.size) (h : ∀ h', LeftBy base (env :: outer) e oe.cls s.heap h' → Q () { s with heap := h' }) :
    wpAny M A (do let a ← frameOf env; let pl ← entryPlaceOf L hadNext; let b ← EntryCells.newEntry head a .none (rawInt L) .none pl; setField (.ref e) 1 b) (fun _ s' => wpAny M A (setFlight (.ref e) none) Q E s') E s := by
  have hene : e ∉ (env :: outer).filterMap (·.frame) := fun hm => by
    obtain ⟨_, o, ho, hnf⟩ := hl.mem hm ; rw [he] at ho; injection ho with ho; subst ho; exact hnf vs hd
  refine wpAny_bind (wpAny_frameOf_fun hfr hl hf fun g1 s1 => ?_) ; refine wpAny_bind (wpAny_entryPlaceOf fun pl hpl => ?_)
  unfold EntryCells.newEntry newFields ; refine wpAny_bind (wpAny_newObj_type ?_ (hpl.sizeOk5 _ _ _ _ _))
  have e1 : g1.get? e = some oe := (s1.2.1 e hene).trans he
  have kb1 : base.StaysIn g1 := fun b o hbo => (s1.2.1 b fun hm => by rw [(hl.mem hm).1] at hbo; cases hbo).trans (hkb b o hbo)
  have e2 := Heap.get?_push_of_some (h := g1) { cls := .type "traceback", dict := none, data := .fields ([head, .ref L, .none, rawInt L, .none] ++ (if pl.isEmpty then List.replicate 6 Value.none else pl)).toArray } e1
  refine wpAny_setField e2 hd hsz ?_ ; have hTe : g1.objs.size ≠ e := Nat.ne_of_gt (Heap.lt_size e1)
  have d3 := Obj.data_mapFields hd (·.setIfInBounds 1 (Value.ref g1.objs.size))
  have e3 := Heap.get?_update_self (Obj.mapFields (·.setIfInBounds 1 (Value.ref g1.objs.size))) e2 (Obj.isFreed_of_fields d3)
  have T3 := (Heap.get?_update_other (g1.push { cls := .type "traceback", dict := none, data := .fields ([head, .ref L, .none, rawInt L, .none] ++ (if pl.isEmpty then List.replicate 6 Value.none else pl)).toArray }) (Obj.mapFields (·.setIfInBounds 1 (Value.ref g1.objs.size))) (Ne.symm hTe)).trans (Heap.get?_push_size g1 rfl)
  unfold setFlight ; refine wpAny_bind (wpAny_field e3 d3 (x := .ref g1.objs.size) (by simp [hsz]) ?_)
  rw [if_pos (show (Value.ref g1.objs.size != Value.none) = true from by simp)]
  refine wpAny_setField T3 rfl (by simp only [List.size_toArray, List.length_append, List.length_cons, List.length_nil] <;> omega) (h _ ?_)
  have keep : ∀ b o, b ≠ e → g1.get? b = some o → (((g1.push { cls := .type "traceback", dict := none, data := .fields ([head, .ref L, .none, rawInt L, .none] ++ (if pl.isEmpty then List.replicate 6 Value.none else pl)).toArray }).update e (Obj.mapFields (·.setIfInBounds 1 (Value.ref g1.objs.size)))).update g1.objs.size
        (Obj.mapFields (·.setIfInBounds 3 ((none : Option Addr).elim Value.none fun f => rawInt f)))).get? b = some o := fun b o hbe hb => by
    rw [Heap.get?_update_other _ _ (Nat.ne_of_gt (Heap.lt_size hb)), Heap.get?_update_other _ _ (Ne.symm hbe)] ; exact Heap.get?_push_of_some _ hb
  refine ⟨fun b o hbe hbf hb => keep b o hbe ((s1.2.1 b hbf).trans hb), fun b o hbe hb => ?_, ?_⟩
  · obtain ⟨sl, hs⟩ := s1.2.2 b o hb ; exact ⟨sl, keep b _ hbe hs⟩
  · refine ⟨g1.objs.size, Nat.le_of_eq s1.1.symm, ⟨_, _, _, _, ?_, Obj.cls_mapFields _ _, (dict_mapF _ _).trans hdn, d3, by simp [hsz], Heap.get?_update_self _ T3 (Obj.isFreed_of_fields (Obj.data_mapFields rfl _)), Obj.data_mapFields rfl _, by first | (simp; done) | (rcases hpl with rfl | ⟨_, _, _, _, _, _, _, rfl⟩ <;> simp)⟩, kb1.fresh, hTe⟩
    rw [Heap.get?_update_other _ _ hTe] ; exact e3
theorem leaving_by {base : Heap} {env : Env} {outer : List Env} {L e : Addr} {oe : Obj} {vs : Array Value} {Q : Unit → Shared → Prop} (hfr : A.frames = some (env :: outer)) (hl : s.heap.FunFrames base (env :: outer)) (hf : env.frame = some L)
    (he : s.heap.get? e = some oe) (hkb : base.StaysIn s.heap) (hdn : oe.dict = none) (hd : oe.data = .fields vs) (h1 : vs[1]? = some .none) (h : ∀ h', LeftBy base (env :: outer) e oe.cls s.heap h' → Q () { s with heap := h' }) : wpAny M A (leaving env (.ref e)) Q E s := by
  unfold leaving noteFrame ; simp only [hf]
  refine wpAny_bind (wpAny_bind (wpAny_field he hd h1 ?_)) ; rw [if_neg (by decide)]
  exact newEntry_by hfr hl hf he hkb hdn hd (Array.getElem?_eq_some_iff.mp h1).1 h
end
section
variable {X : Cx} {pins : List (Addr × Obj)} {σ : St} {H : Hp} {s : Shared} {h' : Heap}
/-- the records at ch, and the running frames' slots, may have changed -/
theorem Inv.left0 {ch : List Addr} (I : Inv X pins σ H s) (hch : ∀ b ∈ ch, FpOk X pins H b) (k1 : ∀ b o, b ∉ ch → b ∉ frs X.stack → s.heap.get? b = some o → h'.get? b = some o) (k2 : ∀ b o, b ∉ ch → s.heap.get? b = some o → ∃ sl, h'.get? b = some { o with slots := sl }) : Inv X pins σ H { s with heap := h' } := by
  have nst : ∀ b, b ≠ X.env.locals → b ∉ X.fs → b ∉ frs X.stack := fun b h1 h2 z => (List.mem_cons.mp (I.stkSub b z)).elim h1 h2
  refine I.step (g' := s.gens) (d' := s.drawn) (t' := s.toks) (ch := ch) (fun b hb => ?_) (fun b o h1 h2 hc e _ => k1 b o hc (nst b h1 h2) e) (fun b o _ _ hc e _ => k2 b o hc e) (fun _ _ _ _ n => n) (fun b o hc e => ?_) (fun _ _ e => e) (fun _ _ _ e => e) (fun b ps e => ⟨#[], by rw [e]; simp⟩) (fun m hm => ?_) (fun b u e => ?_) I.bare
  · obtain ⟨_, f1, _, f3, f4, f5⟩ := hch b hb
    exact ⟨f3, f1, f4, f5⟩
  · obtain ⟨sl, q⟩ := k2 b o hc e
    exact ⟨_, q⟩
  · obtain ⟨o, es, ep, ho, r⟩ := hm
    obtain ⟨sl, q⟩ := k2 _ o (fun z => (hch _ z).2.1 rfl) ho
    exact ⟨_, es, ep, q, r⟩
  · have tr : ∀ c u, H c = some u → c ∉ ch ∧ c ∉ frs X.stack := fun c u hc => ⟨(fun z => by rw [(hch c z).1] at hc; cases hc), (fun z => by rw [I.stkFree c z] at hc; cases hc)⟩
    refine (I.hok b u e).stay (fun c v hc q => ?_) (fun _ q => q) fun _ _ q => q
    rcases hc with z | z
    · subst z
      obtain ⟨a1, a2⟩ := tr c u e
      exact k1 c v a1 a2 q
    · obtain ⟨a1, a2⟩ := tr c _ z
      exact k1 c v a1 a2 q
end
/-- an address that nothing holds: free at the entry too -/
noncomputable def FpO (X : Cx) (pins : List (Addr × Obj)) (H : Hp) (b : Addr) : Prop :=
  H b = none ∧ b ≠ X.env.locals ∧ b ∉ X.fs ∧ X.s₀.heap.get? b = none ∧ (∀ x c, X.env.cells.lookup x = some c → c ≠ b) ∧ ∀ p ∈ X.pn ++ pins, p.1 ≠ b
section
variable {X : Cx} {pins : List (Addr × Obj)} {σ : St} {H H' : Hp} {s : Shared} {ch : List Addr}
noncomputable abbrev Cx.wide (X : Cx) (ch : List Addr) : Cx := { X with ex := X.ex ++ ch }
theorem Inv.wide (I : Inv X pins σ H s) (hch : ∀ b ∈ ch, FpO X pins H b) : Inv (X.wide ch) pins σ H s :=
  ⟨⟨I.ok.mod, I.ok.kind, I.ok.glob, I.ok.blt, I.ok.above, I.ok.inj, I.ok.has, I.ok.cab, I.ok.hd, I.ok.frames, I.ok.stk, (fun b hb => (List.mem_append.mp hb).elim (I.ok.exf b) fun z => ⟨(hch b z).2.1, fun x c e => (hch b z).2.2.2.2.1 x c e⟩), I.ok.bs, I.ok.bsz,
    (fun b o e hb => (List.mem_append.mp hb).elim (I.ok.noex b o e) fun z => by have q := (I.ok.bs b o e).1; rw [(hch b z).2.2.2.1] at q; cases q), (fun b hb => (List.mem_append.mp hb).elim (I.ok.exfs b) fun z => (hch b z).2.2.1), I.ok.funs, I.ok.frf⟩, I.os, I.bare, I.base.mono (fun _ z => z) (fun _ z => List.mem_append.mpr (.inl z)), I.loc, I.cell, I.free, I.freeC, I.pin, I.hok, I.len⟩
theorem Inv.shut (ok : X.Ok) (hch : ∀ b ∈ ch, X.s₀.heap.get? b = none) (I : Inv (X.wide ch) pins σ H s) : Inv X pins σ H s := by
  have nx : ∀ b o, X.s₀.heap.get? b = some o → b ∉ X.ex → b ∉ X.ex ++ ch := fun b o e hx z => (List.mem_append.mp z).elim hx fun z => by rw [hch b z] at e; cases e
  exact ⟨ok, I.os, I.bare, ⟨fun b o e n hb hx => I.base.keep b o e n hb (nx b o e hx), fun b o e n hb hx => I.base.slot b o e n hb (nx b o e hx), fun b o e n hx => I.base.free b o e n (nx b o e hx), fun b o e hx => I.base.there b o e (nx b o e hx), I.base.tups, I.base.frzs, I.base.tbls⟩, I.loc, I.cell, I.free, I.freeC, I.pin, I.hok, I.len⟩
theorem Inv.fpO {b : Addr} (I : Inv X pins σ H s) (hb : s.heap.get? b = none) (hx : b ∉ X.ex) (hn : H' b = none) : FpO X pins H' b := by
  refine ⟨hn, fun z => ?_, fun z => ?_, ?_, fun x c e z => ?_, fun p hp z => ?_⟩
  · obtain ⟨m, ⟨o, _, _, ho, _⟩, _⟩ := I.loc
    rw [z, ho] at hb; cases hb
  · obtain ⟨_, o, ho, _⟩ := I.ok.funs.mem z
    cases h0 : X.s₀.heap.get? b with
    | none => rw [ho] at h0; cases h0
    | some o' =>
      obtain ⟨o2, q⟩ := I.base.there b o' h0 hx
      rw [q] at hb; cases hb
  · cases h0 : X.s₀.heap.get? b with
    | none => rfl
    | some o' =>
      obtain ⟨o2, q⟩ := I.base.there b o' h0 hx
      rw [q] at hb; cases hb
  · obtain ⟨v, o, ho, _⟩ := I.cell x c e
    rw [z, hb] at ho; cases ho
  · have q := (I.pin p hp).1
    rw [z, hb] at q; cases q
theorem FpO.ok {b : Addr} (h : FpO X pins H b) (hb : b ∈ ch) : FpOk (X.wide ch) pins H b := ⟨h.1, h.2.1, h.2.2.1, .inl (List.mem_append.mpr (.inr hb)), h.2.2.2.2.1, h.2.2.2.2.2⟩
theorem Inv.left {h' : Heap} (I : Inv X pins σ H s) (hch : ∀ b ∈ ch, FpO X pins H b) (k1 : ∀ b o, b ∉ ch → b ∉ frs X.stack → s.heap.get? b = some o → h'.get? b = some o) (k2 : ∀ b o, b ∉ ch → s.heap.get? b = some o → ∃ sl, h'.get? b = some { o with slots := sl }) : Inv X pins σ H { s with heap := h' } :=
  Inv.shut I.ok (fun b hb => (hch b hb).2.2.2.1) (Inv.left0 (X := X.wide ch) (I.wide hch) (fun b hb => (hch b hb).ok hb) k1 k2)
end
/-- how an exception lies behind a call -/
noncomputable def CXx (P : Program) (w : World) (base : Heap) : CXT := fun outer H s E e s' => ∃ a T cls H', e = .ref a ∧ s'.os = s.os ∧ AllBare s'.gens ∧ Un (frs outer) [] H H' s.heap s'.heap ∧ HOk P w H' s'.heap ∧ H' a = none ∧ H' T = none ∧ TrT base s'.heap a T cls ∧ s.heap.get? a = none ∧ s.heap.get? T = none ∧ E cls none H'
section
variable {P : Program} {w : World} {K : PySem.W.Frag} {mg : Str → Option Value} {base : Heap} {N : List Str} {qual : Str} {scope : Scope} {f : Addr} {cd : Value} {A : Around} {outer : List Env} {s0 s : Shared} {H0 H : Hp} {E : XK} {pins : List (Addr × Obj)} {σ : St}
theorem stk_env {X : Cx} (ok : X.Ok) (h : X.stack = X.env :: X.outer) : X.env.frame = some X.env.locals := by
  rcases ok.stk with e | ⟨_, e⟩
  · rw [h] at e
    have := congrArg List.length e
    simp at this
  · exact e
/-- an exception made here leaves the def -/
theorem leave_new {e : Addr} {oe : Obj} {vs : Array Value} (I : Inv (cxOf (CXx P w base) P w K mg base N qual scope f cd A outer s0 H0 E) pins σ H s) (he : s.heap.get? e = some oe) (hn : H e = none) (hlo : s0.heap.get? e = none) (hfp : FpO (cxOf (CXx P w base) P w K mg base N qual scope f cd A outer s0 H0 E) pins H e) (hdn : oe.dict = none) (hd : oe.data = .fields vs) (h1 : vs[1]? = some .none) (q : E oe.cls none H) :
    (cxOf (CXx P w base) P w K mg base N qual scope f cd A outer s0 H0 E).xe (.ref e) s := by
  have hf := stk_env I.ok rfl
  refine leaving_by (base := base) (env := envOfC qual scope s0.heap.objs.size f cd) (outer := outer) I.ok.frames I.stack hf he I.bk hdn hd h1 fun h' x => ?_
  obtain ⟨k1, k2, T, hT, tr⟩ := x
  have J := I.left (ch := [e]) (h' := h') (fun b hb => by rw [List.mem_singleton.mp hb]; exact hfp) (fun b o hb hs hq => k1 b o (fun z => hb (by simp [z])) hs hq) (fun b o hb hq => k2 b o (fun z => hb (by simp [z])) hq)
  exact ⟨e, T, oe.cls, H, rfl, J.os, J.bare, J.base, J.hok, hn, I.hok.fresh hT, tr, hlo, Heap.get?_none_of_le (Nat.le_trans I.sz hT), q⟩
end
/-! ### caught -/
section
variable {M : Model} {A : Around} {E : Value → Shared → Prop} {s : Shared}
end
section
variable {X : Cx} {pins : List (Addr × Obj)} {σ : St} {H : Hp} {s : Shared}
end
/-! ### try: one call, caught by one clause with a name -/
section
variable {X : Cx} {k : Nat} {f : Addr} {fd : FuncData} {ps : List Str} {sp : Sp} {dvs : List V} {ds : List Value} {E : XK} {x : Str} {p pos : Pos} {e : Expr} {es : List Expr} {t : TA}
end
section
variable {X : Cx} {x n : Str} {C : Value} {i : Nat} {t : XK → TE} {tb : TS} {e : Expr} {b₀ : Stmt} {suite : List Stmt} {pos epos hpos np : Pos}
end
/-! ### isinstance of an exception -/
section
open PySem.W
/-- what the fragment tells of an exception's class -/
structure ExcK (K : Frag) (C : Addr) : Prop where
  ga : findIn K (.ref C) "__getattribute__" = some (some (.builtin "BaseException.__getattribute__"))
  gc : findIn K (.ref C) "__class__" = some (some (.builtin "object.__class__"))
  gn : findIn K (.ref C) "__getattr__" = some none
  ob : mroIn K C (.type "object") = some true
  be : mroIn K C (.type "BaseException") = some true
section
variable {prog : Program} {w : World} {A : Around} {E : Value → Shared → Prop} {h : Heap} {g : Array GenState} {d : Drawn} {t : Nat} {os : OsState} {a C : Addr} {o : Obj} {K : Frag}
end
section
variable {X : Cx} {pins : List (Addr × Obj)} {σ : St} {H : Hp} {s : Shared} {A : Around} {E : Value → Shared → Prop} {Q : Value → Shared → Prop} {c : Value} {b : Bool}
end
end
/-! ### raise -/
/-- raise C(..) -/
noncomputable def tRaise (C : Addr) (E : XK) (t : TA) : TS := fun _ σ H => t σ H fun vs H1 => vs.length ≤ sizeLine ∧ E (.ref C) none H1
section
variable {P : Program} {w : World} {K : PySem.W.Frag} {mg : Str → Option Value} {base : Heap} {N : List Str} {qual : Str} {scope : Scope} {f C : Addr} {cd : Value} {A : Around} {outer : List Env} {s0 : Shared} {H0 : Hp} {E : XK} {x : Str} {np cpos pos : Pos} {e : Expr} {es : List Expr} {t : TA} {B Bn newId nid initId inN : String} {bm bmN : List Value}
theorem HOk.lost {w : World} {P : Program} {H : Hp} {h : Heap} (x : HOk P w H h) {b : Addr} (e : h.get? b = none) : H b = none := by
  cases q : H b with
  | none => rfl
  | some o =>
    have ok := x b o q
    have go : ∀ o, ObjOk P w H h b o → ∃ u, h.get? b = some u := fun o => by
      induction o with
      | lst xs => rintro ⟨_, _, _, _, e⟩; exact ⟨_, e⟩
      | tup xs => rintro ⟨_, _, _, o, e, _⟩; exact ⟨_, e⟩
      | dK kvs => rintro ⟨_, _, _, _, o, _, _, e, _⟩; exact ⟨_, e⟩
      | dT kvs => rintro ⟨_, _, _, _, o, _, _, e, _⟩; exact ⟨_, e⟩
      | set S n => rintro ⟨o, _, _, _, e, _⟩; exact ⟨_, e⟩
      | ins C dx fs => rintro ⟨_, _, _, e, _⟩; exact ⟨_, e⟩
      | own x => exact id
      | xd fs => rintro ⟨_, ⟨o, _, _, e', _⟩, _⟩; exact ⟨_, e'⟩
      | met f x => intro e; exact ⟨_, e⟩
      | rng lo hi => rintro ⟨_, _, _, e⟩; exact ⟨_, e⟩
      | frz o u ih => rintro ⟨e, _⟩; exact ⟨_, e⟩
      | tbl ps => intro e; exact ⟨_, e⟩
      | ext φ => rintro ⟨_, e, _⟩; exact e
    obtain ⟨u, q⟩ := go o ok
    rw [e] at q; cases q
theorem ps_raise (O : OwnCls x C bm newId mg base) (Fn : ExcBaseFacts Bn newId inN bmN) (hBn : bm.contains (.type Bn) = true) (FB : ExcBaseFacts B nid initId bm)
    (hg : Gl (cxOf (CXx P w base) P w K mg base N qual scope f cd A outer s0 H0 E) x) (hc : (cxOf (CXx P w base) P w K mg base N qual scope f cd A outer s0 H0 E).calm = true)
    (ha : PA (cxOf (CXx P w base) P w K mg base N qual scope f cd A outer s0 H0 E) (e :: es) t) (hdb : (x == ("__debug__" : Str)) = false := by decide)
    (he : starEach (e :: es) (cxOf (CXx P w base) P w K mg base N qual scope f cd A outer s0 H0 E).env = (false, eval e (cxOf (CXx P w base) P w K mg base N qual scope f cd A outer s0 H0 E).env) :: starEach es (cxOf (CXx P w base) P w K mg base N qual scope f cd A outer s0 H0 E).env := by rfl)
    (hpl : (backTo cpos (starEach es (cxOf (CXx P w base) P w K mg base N qual scope f cd A outer s0 H0 E).env)).any (·.1) = false := by rfl) :
    PS (cxOf (CXx P w base) P w K mg base N qual scope f cd A outer s0 H0 E) (.Raise (some (.Call (.Name x np) (e :: es) [] cpos)) none pos) (tRaise C E t) := by
  intro pins s σ H D I h
  obtain ⟨tl, Nn, nm, q, bs, hdct, sn, sub, ab, col, dd, k0, k1, k2, k3, k5, mN, hC, hN, hni, T⟩ := O.obj
  refine wpAny_Raise_call_subU (C := C) (nm := nm) (q := q) (N := Nn) (bs := bs) (bm := tl) (hdct := hdct) (sn := sn) (sub := sub) (ab := ab) (col := col) (dd := dd) (k0 := k0) (k1 := k1) (k2 := k2) (k3 := k3) (k5 := k5)
    Fn hBn FB (mN := mN) (T.hasType FB.hasBase) (I.ok.hd hc) (by rw [he]; show (false || (backTo cpos (starEach es _)).any (·.1)) = false; rw [hpl]; rfl) hni (ld_glob I hg O.bound ⟨rfl, ?_⟩ hdb)
  have ha' := ha cpos pins s σ H _ I h
  rw [he] at ha' ⊢
  refine Calls.evalArgs_plain (wpAny_mono ha' (fun us s2 ⟨vs, H1, I1, r, hz, q⟩ => ⟨rfl, by rw [← r.length]; exact hz, I1.bk _ _ hC, hN.keeps I1.bk, T.keeps I1.bk, fun h' e' M => ?_⟩) fun _ _ y => y)
  have J : Inv (cxOf (CXx P w base) P w K mg base N qual scope f cd A outer s0 H0 E) pins σ H1 { s2 with heap := h' } := I1.kept (t' := s2.toks) M.keeps
  obtain ⟨tt, m1, m2, m3⟩ := M.there
  have hn : H1 e' = none := I1.hok.lost M.new
  have fp := I1.fpO (H' := H1) M.new (by simp [cxOf]) hn
  exact leave_new J m1 hn fp.2.2.2.1 fp rfl rfl rfl q
end
/-! ### isinstance(e, C), isinstance(e, (C, D)), f-strings -/
section
variable {X : Cx}
end
/-! ### defs that may raise, by name -/
structure CalX (P : Program) (w : World) (K : PySem.W.Frag) (mg : Str → Option Value) (base : Heap) (k : Nat) (x : Str) (ps : List Str) (sp : Sp) : Prop where
  ex : ∃ a fd, mg x = some (.ref a) ∧ PySem.W.keepIn K (.ref a) = true ∧ Binds K fd ps [] ∧ FnOk P w K mg base (CXx P w base) k a fd ps sp
section
variable {P : Program} {w : World} {K : PySem.W.Frag} {mg : Str → Option Value} {base : Heap}
theorem Fun.okX {x qual : Str} {st : Stmt} {f : Addr} {fd : FuncData} {N ps : List Str} {k : Nat} {sp : Sp} (F : Fun K x qual st f fd) (S : FnScope N ps (defScope st)) (len : ∀ vs H Q E, sp vs H Q E → vs.length = ps.length)
    (hbody : ∀ (cdv : Value) (A : Around) (outer : List Env) (s : Shared) (H : Hp) (vs : List V) (Q : VK) (E : XK), Room k (A.deeper (envOfC qual (defScope st) s.heap.objs.size f cdv)) → sp vs H Q E →
      ∃ t, PSs (cxOf (CXx P w base) P w K mg base N qual (defScope st) f cdv A outer s H E) (defBody st) t ∧ t { nx := fun _ H' => Q .non H', rt := Q } (start N vs) H) : FnOk P w K mg base (CXx P w base) (k + 1) f fd ps sp := by
  obtain ⟨oc, od, kV, doc, pm, an, cdv, ct, osl, rfl, lk, hcd⟩ := F.ex
  exact fn_of lk hcd S len fun A outer s H vs Q E hr hsp => hbody cdv A outer s H vs Q E hr hsp
theorem FunIn.calX {x : Str} {st : Stmt} {ps N : List Str} {rd : XK → TS} {k : Nat} {sp : Sp} (F : FunIn K mg x st ps) (S : FnScope N ps (defScope st)) (len : ∀ vs H Q E, sp vs H Q E → vs.length = ps.length)
    (hb : ∀ (f : Addr) (cdv : Value) (A : Around) (outer : List Env) (s : Shared) (H : Hp) (E : XK), Room k (A.deeper (envOfC x (defScope st) s.heap.objs.size f cdv)) → PSs (cxOf (CXx P w base) P w K mg base N x (defScope st) f cdv A outer s H E) (defBody st) (rd E))
    (hr : ∀ vs H Q E, sp vs H Q E → rd E { nx := fun _ H' => Q .non H', rt := Q } (start N vs) H) : CalX P w K mg base (k + 1) x ps sp := by
  obtain ⟨a, fd, hm, hF, hbd⟩ := F.ex
  exact ⟨a, fd, hm, hF.kp, .all hbd, hF.okX S len fun cdv A outer s H vs Q E room h => ⟨rd E, hb a cdv A outer s H E room, hr vs H Q E h⟩⟩
end
section
variable {X : Cx} {k : Nat} {ps : List Str} {sp : Sp} {x : Str} {p pos : Pos} {e : Expr} {es : List Expr} {t : TA}
end
section
variable {P : Program} {w : World} {K : PySem.W.Frag} {mg : Str → Option Value} {base : Heap} {N : List Str} {qual : Str} {scope : Scope} {f : Addr} {cd : Value} {A : Around} {outer : List Env} {s0 : Shared} {H0 : Hp} {E : XK} {k : Nat} {ps : List Str} {sp : Sp} {x : Str} {p pos : Pos} {e : Expr} {es : List Expr} {t : TA}
end
/-! ### a def that may raise, where it doesn't -/
section
variable {X : Cx} {k : Nat} {x : Str} {ps : List Str} {sp : Sp} {e : Expr} {es : List Expr} {t : TA} {p pos : Pos}
theorem passX0 {P : Program} {w : World} {base : Heap} : Passes (CXx P w base) X E0 := by
  intro pins σ H s v s' I hx
  obtain ⟨_, _, _, _, _, _, _, _, _, _, _, _, _, _, q⟩ := hx
  exact q.elim
theorem pe_calE (C : CalX X.prog X.w X.K X.mg X.base k x ps sp) (hr : Room k X.A) (ha : PA X (e :: es) t) (hg : Gl X x := by rfl) (hdb : (x == ("__debug__" : Str)) = false := by decide)
    (hs : starEach (e :: es) X.env = (false, eval e X.env) :: starEach es X.env := by rfl) (hn : (backTo pos (starEach es X.env)).any (·.1) = false := by rfl) : PE X (.Call (.Name x p) (e :: es) [] pos) (tCall sp [] E0 t) := by
  obtain ⟨a, fd, hm, hk, hb, F⟩ := C.ex
  exact pe_call F hr hg hm hk hb .nil passX0 ha hdb hs hn
end
/-! ### the text's own exception classes -/
/-- the address under a class's name -/
noncomputable def clsA (K : PySem.W.Frag) (x : Str) : Addr := match PySem.W.nsIn K mainGlobals x with
  | some (some (.ref C)) => C
  | _ => 0
theorem clsA_of {K : PySem.W.Frag} {x : Str} {C : Addr} (e : PySem.W.nsIn K mainGlobals x = some (some (.ref C))) : clsA K x = C := by
  unfold clsA; rw [e]
noncomputable def keysOk (es : Array DictEntry) : Bool := es.toList.all fun e => match e.key with | .str _ _ => true | _ => false
theorem keysOk_of {es : Array DictEntry} (h : keysOk es = true) : StrKeys es := by
  intro e he
  have := (List.all_eq_true.mp h) e (Array.mem_toList_iff.mpr he)
  revert this
  cases hk : e.key <;> intro q <;> first | exact ⟨_, _, rfl⟩ | cases q
/-- a class under its name, its way up to ValueError -/
structure ExcIn (K : PySem.W.Frag) (mg : Str → Option Value) (x : Str) : Prop where
  bound : mg x = some (.ref (clsA K x))
  some : (PySem.W.clsIn K (clsA K x)).isSome = true
  ek : ExcK K (clsA K x)
  own : ∀ h : Heap, K.In h → OwnCls x (clsA K x) [.type "ValueError", .type "Exception", .type "BaseException", .type "object"] "ValueError.__new__" mg h
section
variable {K : PySem.W.Frag} {mg : Str → Option Value} {h : Heap} {x : Str} {C N : Addr} {nm q : Str} {bs bm : List Value} {hdct : Bool} {sn : List Str} {sub : List Value} {ab : Bool} {col : Option Bool} {dd : Option Addr} {k0 k1 k2 k3 k5 : Option Value}
  {c : Value} {d : Option Addr} {es : Array DictEntry} {ep : Nat} {sl : Array (Option Value)} {cdat : ClassData}
theorem ns_K {h : Heap} (X : K.In h) (n : K.lookup N = some ⟨c, d, .dict es ep, sl⟩) (hk : keysOk es = true) : h.Ns N (fun y => nsFind es y) := ⟨_, es, ep, X _ _ n, rfl, keysOk_of hk, fun _ => rfl⟩
/-- below one class of that kind -/
theorem exc_in1 {C1 : Addr} {c1 c2 : Value} {d1 d2 : Option Addr} {es1 : Array DictEntry} {ep1 : Nat} {sl1 sl2 : Array (Option Value)} {cd1 : ClassData} (X : K.In h) (G : h.Ns mainGlobals mg) (a : PySem.W.nsIn K mainGlobals x = some (some (.ref C))) (l : K.lookup C = some (excClassObj nm q C N bs (.ref C1 :: [.type "ValueError", .type "Exception", .type "BaseException", .type "object"]) hdct sn sub ab col dd k0 k1 k2 k3 k5 "ValueError.__new__"))
    (n : K.lookup N = some ⟨c, d, .dict es ep, sl⟩) (l1 : K.lookup C1 = some { cls := c1, dict := d1, data := .cls cd1, slots := sl1 }) (n1 : K.lookup cd1.ns = some ⟨c2, d2, .dict es1 ep1, sl2⟩)
    (g1 : PySem.W.findIn K (.ref C) "__getattribute__" = some (some (.builtin "BaseException.__getattribute__"))) (g2 : PySem.W.findIn K (.ref C) "__class__" = some (some (.builtin "object.__class__"))) (g3 : PySem.W.findIn K (.ref C) "__getattr__" = some none)
    (g4 : PySem.W.mroIn K C (.type "object") = some true) (g5 : PySem.W.mroIn K C (.type "BaseException") = some true) (g6 : PySem.W.clsIn K C = some cdat) (hk : keysOk es = true) (hi : nsFind es "__init__" = none) (hk1 : keysOk es1 = true) (hi1 : nsFind es1 "__init__" = none) : ExcIn K mg x := by
  have e := clsA_of a
  refine ⟨?_, ?_, ?_, fun h' X' => ?_⟩
  · rw [e]; exact PySem.W.mg_of X G a
  · rw [e, g6]; rfl
  · rw [e]; exact ⟨g1, g2, g3, g4, g5⟩
  · rw [e]; exact ⟨PySem.W.mg_of X G a, _, N, nm, q, bs, hdct, sn, sub, ab, col, dd, k0, k1, k2, k3, k5, _, X' _ _ l, ns_K X' n hk, hi, .own (X' _ _ l1) (ns_K X' n1 hk1) hi1 .base⟩
end
section
variable {K : PySem.W.Frag} {x y : Str} {C D : Addr} {cd : ClassData} {r : Bool} {T : String}
end
section
variable {P : Program} {w : World} {K : PySem.W.Frag} {mg : Str → Option Value} {base : Heap} {N : List Str} {qual : Str} {scope : Scope} {f : Addr} {cd : Value} {A : Around} {outer : List Env} {s0 : Shared} {H0 : Hp} {E : XK} {x : Str} {np cpos pos : Pos} {e : Expr} {es : List Expr} {t : TA}
/-- raise C(e, ..) of a class of the text -/
theorem ps_raiseK (O : ExcIn K mg x) (ha : PA (cxOf (CXx P w base) P w K mg base N qual scope f cd A outer s0 H0 E) (e :: es) t) (hg : Gl (cxOf (CXx P w base) P w K mg base N qual scope f cd A outer s0 H0 E) x := by rfl) (hc : (cxOf (CXx P w base) P w K mg base N qual scope f cd A outer s0 H0 E).calm = true := by rfl) (hdb : (x == ("__debug__" : Str)) = false := by decide)
    (he : starEach (e :: es) (cxOf (CXx P w base) P w K mg base N qual scope f cd A outer s0 H0 E).env = (false, eval e (cxOf (CXx P w base) P w K mg base N qual scope f cd A outer s0 H0 E).env) :: starEach es (cxOf (CXx P w base) P w K mg base N qual scope f cd A outer s0 H0 E).env := by rfl)
    (hpl : (backTo cpos (starEach es (cxOf (CXx P w base) P w K mg base N qual scope f cd A outer s0 H0 E).env)).any (·.1) = false := by rfl) :
    PS (cxOf (CXx P w base) P w K mg base N qual scope f cd A outer s0 H0 E) (.Raise (some (.Call (.Name x np) (e :: es) [] cpos)) none pos) (tRaise (clsA K x) E t) := fun pins s σ H D I h =>
  ps_raise (O.own base I.ok.mod.kin) F.excBase_ValueError (by decide) F.excBase_ValueError hg hc ha hdb he hpl pins s σ H D I h
end
theorem PS.nox {X : Cx} {st : Stmt} {t : TS} (h : PS X.nox st t) : PS X st t := fun pins s σ H D I hw =>
  wpAny_mono (h pins s σ H D (I.wish _) hw) (fun f s' q => by
    cases f with
    | next => obtain ⟨a, b, c, d⟩ := q; exact ⟨a, b, c.unwish, d⟩
    | brk => obtain ⟨a, b, c, d⟩ := q; exact ⟨a, b, c.unwish, d⟩
    | cont => obtain ⟨a, b, c, d⟩ := q; exact ⟨a, b, c.unwish, d⟩
    | ret u => obtain ⟨v, a, b, c, d⟩ := q; exact ⟨v, a, b, c.unwish, d⟩) fun _ _ z => z.elim
end L2

/-! ### the sorting tree, for keys that all differ -/
namespace L2
open PySem PySem.W PyProof.Rows
section
variable {N : Nat} {lt : Nat → Nat → Bool} {cmp : Nat → Nat → (Bool → Shared → Prop) → Shared → Prop} {s : Shared}
structure SOk (N : Nat) (p : Array Nat) : Prop where
  sz : p.size = N
  pm : p.toList.Perm (List.range N)
theorem SOk.bnd {p : Array Nat} (h : SOk N p) {i : Nat} (hi : i < N) : p.getD i 0 < N := by
  have e : p.getD i 0 = p[i]'(by rw [h.sz]; exact hi) := by simp [Array.getD, h.sz, hi]
  rw [e]
  exact List.mem_range.mp (h.pm.mem_iff.mp (by simp))
theorem SOk.inj {p : Array Nat} (h : SOk N p) {i j : Nat} (hi : i < N) (hj : j < N) (hij : i ≠ j) : p.getD i 0 ≠ p.getD j 0 := by
  have hi' : i < p.size := by rw [h.sz]; exact hi
  have hj' : j < p.size := by rw [h.sz]; exact hj
  have e : p.getD i 0 = p[i]'hi' := by simp [Array.getD, hi']
  have e2 : p.getD j 0 = p[j]'hj' := by simp [Array.getD, hj']
  have nd : p.toList.Nodup := h.pm.nodup_iff.mpr List.nodup_range
  rw [e, e2]
  intro q
  exact hij ((List.getElem_inj (h₀ := by simpa using hi') (h₁ := by simpa using hj') nd).mp (by simpa using q))
theorem getD_of {p q : Array Nat} {i j : Nat} (h : p[i]? = q[j]?) : p.getD i 0 = q.getD j 0 := by
  rw [Array.getD_eq_getD_getElem?, Array.getD_eq_getD_getElem?, h]
theorem SOk.rev {p : Array Nat} (h : SOk N p) (i j : Nat) : SOk N (kas_rev p i j) :=
  ⟨(mirror_size _ _ _ _).trans h.sz, (Array.perm_iff_toList_perm.mp (mirror_perm p i j _)).trans h.pm⟩
theorem SOk.bub {p : Array Nat} (h : SOk N p) (i j : Nat) : SOk N (bubble p i j) :=
  ⟨(bubble_size _ _ _).trans h.sz, (Array.perm_iff_toList_perm.mp (bubble_perm p i j)).trans h.pm⟩
structure SLt (N : Nat) (lt : Nat → Nat → Bool) : Prop where
  tr : ∀ i j k, i < N → j < N → k < N → lt i j = true → lt j k = true → lt i k = true
  tt : ∀ i j, i < N → j < N → i ≠ j → lt i j = false → lt j i = true
noncomputable def SCmp (N : Nat) (lt : Nat → Nat → Bool) (cmp : Nat → Nat → (Bool → Shared → Prop) → Shared → Prop) (s : Shared) : Prop :=
  ∀ i j C, i < N → j < N → i ≠ j → C (lt i j) s → cmp i j C s
noncomputable def SUp (lt : Nat → Nat → Bool) (p : Array Nat) (m : Nat) : Prop := ∀ k, 1 ≤ k → k < m → lt (p.getD (k - 1) 0) (p.getD k 0) = true
theorem SUp.chain (T : SLt N lt) {p : Array Nat} (h : SOk N p) {m : Nat} (hm : m ≤ N) (u : SUp lt p m) : ∀ (d i : Nat), i + d + 1 < m → lt (p.getD i 0) (p.getD (i + d + 1) 0) = true
  | 0, i, hi => u (i + 1) (by omega) hi
  | d + 1, i, hi => T.tr _ _ _ (h.bnd (by omega)) (h.bnd (by omega)) (h.bnd (by omega)) (SUp.chain T h hm u d i (by omega)) (u (i + d + 2) (by omega) hi)
theorem SUp.les (T : SLt N lt) {p : Array Nat} (h : SOk N p) {m : Nat} (hm : m ≤ N) (u : SUp lt p m) {i j : Nat} (hij : i < j) (hj : j < m) : lt (p.getD i 0) (p.getD j 0) = true := by
  have := SUp.chain T h hm u (j - i - 1) i (by omega)
  rwa [show i + (j - i - 1) + 1 = j by omega] at this
theorem asc_wp (c : SCmp N lt cmp s) {p : Array Nat} (h : SOk N p) {Q : Nat → Shared → Prop} : ∀ (f n : Nat), 1 ≤ n → n + f ≤ N →
    (∀ n', n ≤ n' → n' ≤ n + f → (∀ k, n ≤ k → k < n' → lt (p.getD k 0) (p.getD (k - 1) 0) = false) → (n' < n + f → lt (p.getD n' 0) (p.getD (n' - 1) 0) = true) → Q n' s) →
    (kas_asc p f n).kasWp cmp Q s
  | 0, n, _, _, q => q n (Nat.le_refl _) (Nat.le_refl _) (fun k _ _ => by omega) (fun _ => by omega)
  | f + 1, n, hn, hf, q => by
    refine c _ _ _ (h.bnd (by omega)) (h.bnd (by omega)) (h.inj (by omega) (by omega) (by omega)) ?_
    cases e : lt (p.getD n 0) (p.getD (n - 1) 0) with
    | true => exact q n (Nat.le_refl _) (by omega) (fun k _ _ => by omega) (fun _ => e)
    | false =>
      refine asc_wp c h f (n + 1) (by omega) (by omega) fun n' h1 h2 h3 h4 => q n' (by omega) (by omega) (fun k k1 k2 => ?_) (fun k => h4 (by omega))
      by_cases hk : k = n
      · subst hk; exact e
      · exact h3 k (by omega) k2
theorem desc_wp (T : SLt N lt) (c : SCmp N lt cmp s) {p : Array Nat} (h : SOk N p) {Q : Array Nat × Nat × Nat → Shared → Prop} : ∀ (f n : Nat), 1 ≤ n → n + f ≤ N →
    (∀ n', n ≤ n' → n' ≤ n + f → (∀ k, n ≤ k → k < n' → lt (p.getD k 0) (p.getD (k - 1) 0) = true) → Q (p, n', 0) s) →
    (kas_desc f p n 0).kasWp cmp Q s
  | 0, n, _, _, q => q n (Nat.le_refl _) (Nat.le_refl _) (fun k _ _ => by omega)
  | f + 1, n, hn, hf, q => by
    have a1 := h.bnd (show n < N by omega)
    have a2 := h.bnd (show n - 1 < N by omega)
    have a3 := h.inj (show n < N by omega) (show n - 1 < N by omega) (by omega)
    refine c _ _ _ a1 a2 a3 ?_
    cases e : lt (p.getD n 0) (p.getD (n - 1) 0) with
    | true =>
      refine desc_wp T c h f (n + 1) (by omega) (by omega) fun n' h1 h2 h3 => q n' (by omega) (by omega) (fun k k1 k2 => ?_)
      by_cases hk : k = n
      · subst hk; exact e
      · exact h3 k (by omega) k2
    | false =>
      refine c _ _ _ a2 a1 (Ne.symm a3) ?_
      rw [T.tt _ _ a1 a2 a3 e]
      exact q n (Nat.le_refl _) (by omega) (fun k _ _ => by omega)
theorem count_wp (T : SLt N lt) (c : SCmp N lt cmp s) {p : Array Nat} (h : SOk N p) (hN : 2 ≤ N) {Q : Nat × Array Nat → Shared → Prop}
    (q : ∀ m p', SOk N p' → 1 ≤ m → m ≤ N → SUp lt p' m → Q (m, p') s) : (kas_count N p).kasWp cmp Q s := by
  unfold kas_count
  rw [KasT.kasWp_bind]
  refine asc_wp c h (N - 1) 1 (Nat.le_refl _) (by omega) fun n h1 h2 h3 h4 => ?_
  have up : SUp lt p n := fun k k1 k2 => T.tt _ _ (h.bnd (by omega)) (h.bnd (by omega)) (h.inj (by omega) (by omega) (by omega)) (h3 k k1 k2)
  by_cases e : (n == N) = true
  · rw [if_pos e]
    exact q n p h h1 (by omega) up
  · have hne : n ≠ N := by simpa using e
    rw [if_neg e]
    by_cases hn : n > 1
    · rw [if_pos hn]
      refine c _ _ _ (h.bnd (by omega)) (h.bnd (by omega)) (h.inj (by omega) (by omega) (by omega)) ?_
      rw [up.les T h (by omega) (show 0 < n - 1 by omega) (by omega)]
      exact q n p h h1 (by omega) up
    · rw [if_neg hn]
      have hn1 : n = 1 := by omega
      subst hn1
      unfold kas_descPart
      rw [KasT.kasWp_bind]
      refine desc_wp T c h (N - (1 + 1)) (1 + 1) (by omega) (by omega) fun n' g1 g2 g3 => ?_
      have dn : ∀ k, 1 ≤ k → k < n' → lt (p.getD k 0) (p.getD (k - 1) 0) = true := fun k k1 k2 => by
        by_cases hk : k = 1
        · subst hk; exact h4 (by omega)
        · exact g3 k (by omega) k2
      show (kas_tail3 n' N p).kasWp cmp Q s
      unfold kas_tail3
      have hr := h.rev 0 n'
      have gr : ∀ k, k < n' → (kas_rev p 0 n').getD k 0 = p.getD (n' - 1 - k) 0 := fun k hk => by
        apply getD_of
        unfold kas_rev
        rw [getElem?_mirror_all (by rw [h.sz]; omega), if_pos ⟨by omega, hk⟩]
        congr 1; omega
      rw [KasT.kasWp_bind]
      refine asc_wp c hr (N - n') n' (by omega) (by omega) fun m k1 k2 k3 k4 => ?_
      refine q m _ hr (by omega) (by omega) fun k j1 j2 => ?_
      by_cases hk : k < n'
      · rw [gr k hk, gr (k - 1) (by omega)]
        have := dn (n' - k) (by omega) (by omega)
        rwa [show n' - 1 - (k - 1) = n' - k by omega, show n' - 1 - k = n' - k - 1 by omega]
      · exact T.tt _ _ (hr.bnd (by omega)) (hr.bnd (by omega)) (hr.inj (by omega) (by omega) (by omega)) (k3 k (by omega) j2)
theorem place_wp (T : SLt N lt) (c : SCmp N lt cmp s) {p : Array Nat} (h : SOk N p) {k : Nat} (hk : k < N) (up : SUp lt p k) {Q : Nat → Shared → Prop}
    (q : ∀ l, l ≤ k → (∀ i, i < l → lt (p.getD i 0) (p.getD k 0) = true) → (∀ i, l ≤ i → i < k → lt (p.getD k 0) (p.getD i 0) = true) → Q l s) : ∀ (f l r : Nat), l ≤ r → r ≤ k → r - l ≤ f →
    (∀ i, i < l → lt (p.getD i 0) (p.getD k 0) = true) → (∀ i, r ≤ i → i < k → lt (p.getD k 0) (p.getD i 0) = true) →
    (kas_place p k f l r).kasWp cmp Q s
  | 0, l, r, h1, h2, h3, a, b => q l (by omega) a fun i i1 i2 => b i (by omega) i2
  | f + 1, l, r, h1, h2, h3, a, b => by
    unfold kas_place
    by_cases e : l ≥ r
    · rw [if_pos e]
      exact q l (by omega) a fun i i1 i2 => b i (by omega) i2
    · rw [if_neg e]
      have m1 : (l + r) / 2 < k := by omega
      refine c _ _ _ (h.bnd hk) (h.bnd (by omega)) (h.inj hk (by omega) (by omega)) ?_
      cases e2 : lt (p.getD k 0) (p.getD ((l + r) / 2) 0) with
      | true =>
        refine place_wp T c h hk up q f l _ (by omega) (by omega) (by omega) a fun i i1 i2 => ?_
        by_cases hi : i = (l + r) / 2
        · rw [hi]; exact e2
        · exact T.tr _ _ _ (h.bnd hk) (h.bnd (by omega)) (h.bnd (by omega)) e2 (up.les T h (by omega) (by omega) i2)
      | false =>
        have e3 := T.tt _ _ (h.bnd hk) (h.bnd (by omega)) (h.inj hk (by omega) (by omega)) e2
        refine place_wp T c h hk up q f _ r (by omega) (by omega) (by omega) (fun i i1 => ?_) b
        by_cases hi : i = (l + r) / 2
        · rw [hi]; exact e3
        · exact T.tr _ _ _ (h.bnd (by omega)) (h.bnd (by omega)) (h.bnd hk) (up.les T h (by omega) (show i < (l + r) / 2 by omega) (by omega)) e3
theorem bin_wp (T : SLt N lt) (c : SCmp N lt cmp s) {Q : Array Nat → Shared → Prop} (q : ∀ p, SOk N p → SUp lt p N → Q p s) : ∀ (f : Nat) (p : Array Nat) (k : Nat), SOk N p → SUp lt p k → k + f = N →
    (kas_bin f p k).kasWp cmp Q s
  | 0, p, k, h, up, e => q p h (by rw [← e]; exact up)
  | f + 1, p, k, h, up, e => by
    unfold kas_bin
    rw [KasT.kasWp_bind]
    have hk : k < N := by omega
    refine place_wp T c h hk up (fun l hl lo hi => ?_) k 0 k (Nat.zero_le _) (Nat.le_refl _) (by omega) (fun i hi => by omega) (fun i h1 h2 => by omega)
    refine bin_wp T c q f _ (k + 1) (h.bub k (k - l)) (fun i i1 i2 => ?_) (by omega)
    have gb : ∀ j, (bubble p k (k - l)).getD j 0 = if j = l then p.getD k 0 else if l < j ∧ j ≤ k then p.getD (j - 1) 0 else p.getD j 0 := fun j => by
      have := getElem?_bubble (xs := p) (src := k) (by rw [h.sz]; exact hk) (k - l) (by omega) j
      rw [show k - (k - l) = l by omega] at this
      rw [Array.getD_eq_getD_getElem?, this]
      split
      · rw [Array.getD_eq_getD_getElem?]
      · split
        · rw [Array.getD_eq_getD_getElem?]
        · rw [Array.getD_eq_getD_getElem?]
    rw [gb, gb]
    by_cases c1 : i = l
    · rw [if_neg (by omega), if_neg (by omega), if_pos c1]
      exact lo _ (by omega)
    · rw [if_neg c1]
      by_cases c2 : i - 1 = l
      · rw [if_pos c2, if_pos ⟨by omega, by omega⟩]
        exact hi _ (by omega) (by omega)
      · rw [if_neg c2]
        by_cases c3 : l < i
        · rw [if_pos ⟨by omega, by omega⟩, if_pos ⟨by omega, by omega⟩]
          exact up (i - 1) (by omega) (by omega)
        · rw [if_neg (by omega), if_neg (by omega)]
          exact up i i1 (by omega)
theorem sort_wp (T : SLt N lt) (c : SCmp N lt cmp s) (hN : 2 ≤ N) {Q : Array Nat → Shared → Prop} (q : ∀ p, SOk N p → SUp lt p N → Q p s) : (kas_sort N).kasWp cmp Q s := by
  unfold kas_sort
  rw [KasT.kasWp_bind]
  refine count_wp T c ⟨by simp, by simp⟩ hN fun m p h h1 h2 up => ?_
  dsimp only
  by_cases e : m < N
  · rw [if_pos e, show max m 1 = m by omega]
    exact bin_wp T c q _ _ _ h up (by omega)
  · rw [if_neg e]
    exact q p h (by rwa [show N = m by omega])
end
end L2
/-! ### sorted, of a list of tuples of whole numbers that all differ -/
namespace L2
open PySem PySem.W PySem.Spec PyProof.Rows
theorem lex_tr : ∀ (a b c : List Int), HT.lexLt a b = true → HT.lexLt b c = true → HT.lexLt a c = true
  | [], [], _, h, _ => by cases h
  | [], _ :: _, [], _, h => by cases h
  | [], _ :: _, _ :: _, _, _ => rfl
  | _ :: _, [], _, h, _ => by cases h
  | _ :: _, _ :: _, [], _, h => by cases h
  | x :: a, y :: b, z :: c, h1, h2 => by
    rw [HT.lexLt_cons] at *
    by_cases e1 : x = y
    · rw [if_pos e1] at h1
      by_cases e2 : y = z
      · rw [if_pos e2] at h2
        rw [if_pos (e1.trans e2)]
        exact lex_tr a b c h1 h2
      · rw [if_neg e2] at h2
        rw [if_neg (fun e => e2 (e1.symm.trans e))]
        have := of_decide_eq_true h2
        exact decide_eq_true (by omega)
    · rw [if_neg e1] at h1
      have l1 := of_decide_eq_true h1
      by_cases e2 : y = z
      · rw [if_neg (by omega)]
        exact decide_eq_true (by omega)
      · rw [if_neg e2] at h2
        have l2 := of_decide_eq_true h2
        rw [if_neg (by omega)]
        exact decide_eq_true (by omega)
theorem lex_tt : ∀ (a b : List Int), a ≠ b → HT.lexLt a b = false → HT.lexLt b a = true
  | [], [], h, _ => (h rfl).elim
  | [], _ :: _, _, h => by cases h
  | _ :: _, [], _, _ => rfl
  | x :: a, y :: b, h1, h2 => by
    rw [HT.lexLt_cons] at *
    by_cases e1 : x = y
    · rw [if_pos e1] at h2
      rw [if_pos e1.symm]
      exact lex_tt a b (fun e => h1 (by rw [e1, e])) h2
    · rw [if_neg e1] at h2
      rw [if_neg (Ne.symm e1)]
      have := of_decide_eq_false h2
      exact decide_eq_true (by omega)
section
variable {prog : Program} {w : World} {A : Around} {E : Value → Shared → Prop} {s : Shared}
theorem katLex_ints {b fin : Bool} {Q : Bool → Shared → Prop} : ∀ (r r' : List Int) (us ws : List Value) (i : Nat), IntsAre us r → IntsAre ws r' → r.length = r'.length → fin = false → (i = 0 → b = true) → (b = true) → Q (HT.lexLt r r') s →
    KatLex prog w A b fin Q (us.zip ws) i s
  | [], [], [], [], _, _, _, _, hf, _, _, q => by subst hf; exact q
  | x :: r, y :: r', u :: us, v :: ws, i, h1, h2, hl, hf, hb, hb1, q => by
    cases h1 with
    | cons _ t h1' =>
    cases h2 with
    | cons _ t' h2' =>
    refine kat_cons (wpAny_eqBool_int ?_)
    rw [HT.lexLt_cons] at q
    by_cases e : x = y
    · rw [if_pos e] at q
      have e' : (x == y) = true := by simp [e]
      rw [e']
      exact kat_yes (katLex_ints r r' us ws (i + 1) h1' h2' (by simpa using hl) hf (fun h => hb1) hb1 q)
    · rw [if_neg e] at q
      have e' : (x == y) = false := by simp [e]
      rw [e']
      refine kat_no ?_
      cases z : (b && i == 0) with
      | true => exact oneLt_int q
      | false => exact kat_one _ _ (lt_int (show PySem.W.BoolBack Q _ _ from q))
  | [], _ :: _, _, _, _, _, _, hl, _, _, _, _ => by simp at hl
  | _ :: _, [], _, _, _, _, _, hl, _, _, _, _ => by simp at hl
  | _ :: _, _, [], _, _, h, _, _, _, _, _, _ => by cases h
  | _, _ :: _, _, [], _, _, h, _, _, _, _, _ => by cases h
  | [], [], _ :: _, _, _, h, _, _, _, _, _, _ => by cases h
  | [], [], _, _ :: _, _, _, h, _, _, _, _, _ => by cases h
end
end L2
namespace L2
open PySem PySem.W PySem.Spec PyProof.Rows
section
variable {prog : Program} {w : World} {A : Around} {E : Value → Shared → Prop} {s : Shared}
noncomputable def outOf (vs : List Value) (p : Array Nat) : Array Value := List.toArray (p.toList.map fun i => vs.getD i Value.none)
theorem outOf_range (vs : List Value) : outOf vs (List.range vs.length).toArray = vs.toArray := by
  unfold outOf
  congr 1
  refine List.ext_getElem (by simp) fun i h1 h2 => ?_
  simp [h2]
/-- how the keys are looked at, on a heap where all but a stays -/
noncomputable def KeysGo (prog : Program) (w : World) (A : Around) (s : Shared) (a : Addr) (vs : List Value) (lt : Nat → Nat → Bool) : Prop :=
  ∀ hp : Heap, (∀ b o, b ≠ a → s.heap.get? b = some o → hp.get? b = some o) → 2 ≤ vs.length →
    ∃ κ, (∀ (Q : SortKind → Shared → Prop) (E : Value → Shared → Prop), Q κ { s with heap := hp } → wpAny (model prog w) A (keyKind' vs.toArray) Q E { s with heap := hp }) ∧ SCmp vs.length lt (kas_ask prog w A κ vs) { s with heap := hp }
theorem sort_own {a : Addr} {vs : List Value} {n : Nat} {lt : Nat → Nat → Bool} {P : PySem.Fin → Shared → Prop} (ho : s.heap.get? a = some (seqObj "list" vs.toArray n)) (h64 : vs.length < 64)
    (T : SLt vs.length lt) (hk : KeysGo prog w A s a vs lt)
    (q : ∀ p, SOk vs.length p → SUp lt p vs.length → P (.done (.ret .none)) { s with heap := sortedHeap s.heap a vs (outOf vs p) }) :
    wpAny (model prog w) A (Builtin.«list.sort» ⟨[.ref a], []⟩) P E s := by
  have la : a < s.heap.objs.size := Heap.lt_size ho
  have h0 : ∃ e1, (s.heap.update a (Obj.mapSeq fun _ => #[])).get? a = some (seqObj "list" #[] e1) := ⟨_, get?_update_seq ho (fun _ => #[])⟩
  obtain ⟨e1, ho1⟩ := h0
  let h5 : Heap := ((s.heap.update a (Obj.mapSeq fun _ => #[])).push (seqObj "tuple" vs.toArray 0)).push (seqObj "list" #[] 0)
  have up2 : ∀ b o, (s.heap.update a (Obj.mapSeq fun _ => #[])).get? b = some o → h5.get? b = some o := fun b o e => Heap.get?_push_of_some _ (Heap.get?_push_of_some _ e)
  have ho6 := up2 a _ ho1
  have keep : ∀ b o, b ≠ a → s.heap.get? b = some o → h5.get? b = some o := fun b o hb e => up2 b o ((Heap.get?_update_other _ _ (Ne.symm hb)).trans e)
  have fitsO : ∀ p : Array Nat, p.size = vs.length → (outOf vs p).size ≤ sizeLine := fun p hp => by
    unfold outOf
    rw [List.size_toArray, List.length_map, Array.length_toList, hp, sizeLine_eq]; omega
  have fin : ∀ p : Array Nat, SOk vs.length p → SUp lt p vs.length →
      wpAny (model prog w) A (do
        let touched := (← seqEpoch a) != e1
        Builtin.List.listUpdate (.ref a) fun _ => outOf vs p
        if touched then rule "list.sort.modified"; raiseError "ValueError" "list modified during sort"
        ret .none) P E { s with heap := h5 } := fun p h1 h2 => by
    refine wpAny_bind (seqEpoch_at ho6 rfl ?_)
    refine wpAny_bind (listUpdate_at ho6 rfl ?_ (Nat.zero_le _) (Nat.le_succ_of_le (fitsO p h1.sz)))
    simp only [bne_self_eq_false, Bool.false_eq_true, if_false]
    exact wpAny_pure (q p h1 h2)
  rw [list_sort_plain]
  refine wpAny_bind (listItems_at ho rfl ?_) ; refine wpAny_bind (listUpdate_at ho rfl ?_ (by rw [List.size_toArray, sizeLine_eq]; omega) (Nat.zero_le _))
  refine wpAny_bind (seqEpoch_at ho1 rfl ?_) ; refine wpAny_bind (wpAny_newTuple ?_ (by show vs.length ≤ _; rw [sizeLine_eq]; omega))
  refine wpAny_bind (wpAny_newList ?_ (Nat.zero_le _)) ; refine wpAny_holding ?_
  show wpAny (model prog w) A _ P E { s with heap := h5 }
  dsimp only
  by_cases small : vs.toArray.size < 2
  · have sm : vs.length < 2 := by simpa using small
    rw [if_pos small, if_pos small]
    refine wpAny_bind (wpAny_pure ?_) ; rw [StateT.run_pure] ; refine wpAny_bind (wpAny_pure ?_)
    have e : (arrOf (SortSt.mk' general' (vs.toArray.zip vs.toArray) #[] 7 none)).map (·.2) = outOf vs (List.range vs.length).toArray := by
      rw [outOf_range]
      show (vs.toArray.zip vs.toArray).map (·.2) = vs.toArray
      refine Array.ext (by simp) fun i h1 h2 => by simp
    dsimp only
    rw [e]
    exact fin _ ⟨by simp, by simp⟩ fun k k1 k2 => by omega
  · have big : 2 ≤ vs.length := by have : ¬ vs.length < 2 := by simpa using small
                                   omega
    rw [if_neg small, if_neg small]
    obtain ⟨κ, kk, kc⟩ := hk h5 keep big
    refine wpAny_bind (kk _ _ ?_)
    refine wpAny_bind (wpAny_mono (kat_run (ks := vs) (vs := vs) (G := fun p s' => s' = { s with heap := h5 } ∧ SOk vs.length p ∧ SUp lt p vs.length)
      (Q := fun st' s' => ∃ p : Array Nat, s' = { s with heap := h5 } ∧ SOk vs.length p ∧ SUp lt p vs.length ∧ arrOf st' = p.map (kas_item (vs.toArray.zip vs.toArray)) ∧ failedOf st' = none) rfl big h64
      (fun p st' s' _ b1 b2 b3 => ⟨p, b3.1, b3.2.1, b3.2.2, b1, b2⟩) (sort_wp T kc big fun p p1 p2 => ⟨rfl, p1, p2⟩)) ?_ fun _ _ x => x)
    rintro ⟨⟨⟩, st'⟩ s' ⟨p, rfl, p1, p2, p3, p4⟩
    dsimp only
    rw [kat_snds rfl p3, p4]
    exact fin p p1 p2
theorem sorted_own {l : Addr} {vs : List Value} {lt : Nat → Nat → Bool} {Q : Value → Shared → Prop} (hl : s.heap.IsList l vs.toArray) (h64 : vs.length < 64) (T : SLt vs.length lt)
    (hk : ∀ (s' : Shared) (a : Addr), (∀ b o, s.heap.get? b = some o → s'.heap.get? b = some o) → (∀ b o, s.heap.get? b = some o → b ≠ a) → KeysGo prog w A.in1.in1 s' a vs lt)
    (q : ∀ p, SOk vs.length p → SUp lt p vs.length → Q (.ref (s.heap.objs.size + 1)) { s with heap := sortedAll s.heap vs (outOf vs p) }) :
    wpAny (model prog w) A (call (.builtin "sorted") [.ref l]) Q E s := by
  have fits : vs.length ≤ sizeLine := by rw [sizeLine_eq]; omega
  let h1 : Heap := (s.heap.push (seqObj "list" #[] 0)).update s.heap.objs.size (Obj.mapSeq (· ++ vs.toArray))
  have z1 : h1.objs.size = s.heap.objs.size + 1 := by show (Heap.update _ _ _).objs.size = _; rw [Heap.size_update, size_push']
  let h2 : Heap := h1.push (seqObj "list" vs.toArray 0)
  have at2 : h2.get? (s.heap.objs.size + 1) = some (seqObj "list" vs.toArray 0) := by rw [← z1]; exact Heap.get?_push_size _ rfl
  have k1 : ∀ b o, s.heap.get? b = some o → h2.get? b = some o := fun b o e => by
    have lb : b < s.heap.objs.size := Heap.lt_size e
    refine Heap.get?_push_of_some _ ?_
    exact (Heap.get?_update_other _ _ (Nat.ne_of_gt lb)).trans (Heap.get?_push_of_some _ e)
  refine Calls.call_function_entry kind_sorted plain_sorted entry_sorted (args_sorted1 _) ?_
  unfold Builtin.«sorted» ; refine wpAny_bind (m := checkCount "sorted" 1 1 _) (wpAny_pure ?_)
  refine wpAny_bind (collect_list hl ?_ fits) ; refine wpAny_bind (wpAny_newList ?_ fits)
  show wpAny _ _ _ _ _ { s with heap := h2 }
  show wpAny _ _ (holding [.ref h1.objs.size] _ >>= fun _ => _) _ _ { s with heap := h2 }
  rw [z1]
  refine wpAny_bind (wpAny_holding (wpAny_call_entry slot_list_sort ⟨_, at2, rfl⟩ entry_list_sort ?_ (args_list_sort _)))
  refine sort_own (s := { s with heap := h2 }) at2 h64 T (hk { s with heap := h2 } _ k1 fun b o e => Nat.ne_of_lt (Nat.lt_succ_of_lt (Heap.lt_size e))) fun p p1 p2 => ?_
  exact ⟨_, rfl, wpAny_pure ⟨_, rfl, q p p1 p2⟩⟩
end
end L2
namespace L2
open PySem PySem.W PySem.Spec PyProof.Rows
theorem Paired.getL {α β : Type} {F : α → β → Prop} : ∀ {l₁ : List α} {l₂ : List β} {i : Nat} {a : α}, Paired F l₁ l₂ → l₁[i]? = some a → ∃ b, l₂[i]? = some b ∧ F a b
  | _, _, _, _, .nil, e => by simp at e
  | _, _, 0, _, .cons r _, e => by simp at e; subst e; exact ⟨_, rfl, r⟩
  | _, _, i + 1, x, .cons _ t, e => by
    obtain ⟨u, h1, h2⟩ := Paired.getL (i := i) (a := x) t (by simpa using e)
    exact ⟨u, by simpa using h1, h2⟩
/-- the tuples of whole numbers that a list holds -/
noncomputable def TupsN (H : Hp) (rows : List (List Int)) (bs : List Addr) : Prop := Paired (fun r b => H b = some (.tup (r.map V.int))) rows bs
theorem paired_of {α β : Type} {F : α → β → Prop} : ∀ (l₁ : List α) (l₂ : List β), l₁.length = l₂.length → (∀ i (h : i < l₁.length) (h' : i < l₂.length), F l₁[i] l₂[i]) → Paired F l₁ l₂
  | [], [], _, _ => .nil
  | [], _ :: _, h, _ => by simp at h
  | _ :: _, [], h, _ => by simp at h
  | a :: l, b :: l', h, f => .cons (f 0 (by simp) (by simp)) (paired_of l l' (by simpa using h) fun i h1 h2 => f (i + 1) (by simpa using h1) (by simpa using h2))
theorem sorted_perm {α : Type} {n : Nat} {p : Array Nat} (h : SOk n p) (xs : List α) (d : α) (hn : xs.length = n) : (p.toList.map fun i => xs.getD i d).Perm xs := by
  have e : ((List.range n).map fun i => xs.getD i d) = xs := by
    refine List.ext_getElem (by simp [hn]) fun i h1 h2 => ?_
    simp [h2]
  have := h.pm.map fun i => xs.getD i d
  rwa [e] at this
section
variable {X : Cx}
noncomputable def rSortT : List V → Hp → VK → Prop := fun xs H Q => ∃ (p : Addr) (bs : List Addr) (rows : List (List Int)) (k : Nat), xs = [.ref p] ∧ H p = some (.lst (bs.map V.ref)) ∧ TupsN H rows bs ∧ (∀ r ∈ rows, r.length = k + 1) ∧ rows.Nodup ∧ rows.length < 64 ∧
  ∀ (l : Addr) (bs' : List Addr) (rows' : List (List Int)), H l = none → TupsN H rows' bs' → rows'.Perm rows → rows'.Pairwise (fun a b => HT.lexLt a b = true) → Q (.ref l) (upd H l (.lst (bs'.map V.ref)))
theorem call_sortedT : CallR X (.builtin "sorted") rSortT := by
  intro pins s σ H xs us Q I r h
  obtain ⟨p, bs, rows, k, rfl, hp, hT, hk, nd, h64, q⟩ := h
  obtain ⟨u, rfl, ru⟩ := vals1 r
  cases ru
  obtain ⟨hz, its, c, rv, hl, e⟩ := I.lstM hp
  have lbs : rows.length = bs.length := Paired.length hT
  have hlen : its.length = rows.length := by rw [← hl, List.length_map, lbs]
  have it_i : ∀ i, i < rows.length → ∃ (b : Addr) (us : List Value), its[i]? = some (.ref b) ∧ bs[i]? = some b ∧ H b = some (.tup ((rows.getD i []).map V.int)) ∧ IsTup s.heap b us.toArray ∧ IntsAre us (rows.getD i []) := fun i hi => by
    obtain ⟨b, hb, hH⟩ := Paired.getL hT (show rows[i]? = some (rows.getD i []) by simp [hi])
    obtain ⟨w', hw, rw'⟩ := rv.get (show (bs.map V.ref)[i]? = some (.ref b) by rw [List.getElem?_map, hb]; rfl)
    cases rw'
    obtain ⟨_, us, ru, tu⟩ := I.hok b _ hH
    exact ⟨b, us, hw, hb, hH, tu, intsAre_of ru⟩
  let lt : Nat → Nat → Bool := fun i j => HT.lexLt (rows.getD i []) (rows.getD j [])
  have T : SLt its.length lt := by
    rw [hlen]
    refine ⟨fun i j k _ _ _ h1 h2 => lex_tr _ _ _ h1 h2, fun i j hi hj hij h1 => lex_tt _ _ (fun e => hij ?_) h1⟩
    have e1 : rows.getD i [] = rows[i] := by simp [hi]
    have e2 : rows.getD j [] = rows[j] := by simp [hj]
    rw [e1, e2] at e
    exact (List.getElem_inj nd).mp e
  have isl : s.heap.IsList p its.toArray := ⟨_, e, rfl, _, rfl⟩
  refine sorted_own isl (by omega) T (fun s' a k1 k2 hpp kk big => ?_) fun pm p1 p2 => ?_
  · have kept : ∀ b o, s.heap.get? b = some o → hpp.get? b = some o := fun b o e => kk b o (k2 b o e) (k1 b o e)
    refine ⟨tuples' (Value.type "int" != Value.type "tuple"), fun Q' E' hq => ?_, fun i j C hi hj hij hq => ?_⟩
    · have ht : ∀ (vs : List Value) (rs : List (List Int)), vs.length = rs.length → (∀ i, i < vs.length → ∃ (b : Addr) (us : List Value), vs[i]? = some (.ref b) ∧ IsTup s.heap b us.toArray ∧ IntsAre us (rs.getD i []) ∧ (rs.getD i []).length = k + 1) →
          ∃ fs, KatTups hpp vs fs ∧ fs.length = vs.length ∧ ∀ v ∈ fs, ∃ n t, v = Value.int n t := by
        intro vs
        induction vs with
        | nil => intro rs _ _; exact ⟨[], trivial, rfl, by simp⟩
        | cons v vs ih =>
          intro rs hl2 hh
          cases rs with
          | nil => simp at hl2
          | cons r0 rs =>
            obtain ⟨fs, f1, f2, f3⟩ := ih rs (by simpa using hl2) fun i hi => by
              have := hh (i + 1) (by simpa using hi)
              simpa using this
            obtain ⟨b, us, g1, ⟨o, ho, hc, n, hd⟩, g3, g4⟩ := hh 0 (by simp)
            have g1 : v = .ref b := by simpa using g1
            have g3 : IntsAre us r0 := by simpa using g3
            have g4 : r0.length = k + 1 := by simpa using g4
            cases g3 with
            | nil => simp at g4
            | cons n' t' g5 =>
              refine ⟨_ :: fs, ⟨⟨b, o, _, n, g1, kept _ _ ho, hc, hd, rfl⟩, f1⟩, by simp [f2], fun v hv => ?_⟩
              rcases List.mem_cons.mp hv with rfl | hv
              · exact ⟨_, _, rfl⟩
              · exact f3 v hv
      obtain ⟨fs, f1, f2, f3⟩ := ht its rows hlen fun i hi => by
        obtain ⟨b, us, g1, g2, g3, g4, g5⟩ := it_i i (by omega)
        exact ⟨b, us, g1, g4, g5, hk _ (by rw [show rows.getD i [] = rows[i]'(by omega) by simp [show i < rows.length by omega]]; exact List.getElem_mem _)⟩
      refine kat_kind (T := Value.type "int") f1 (by omega) (fun v hv => ?_) (by decide) hq
      obtain ⟨n, t, rfl⟩ := f3 v hv
      exact .now
    · obtain ⟨b1, u1, a1, _, _, ⟨o1, ho1, hc1, n1, hd1⟩, a5⟩ := it_i i (by omega)
      obtain ⟨b2, u2, c1, _, _, ⟨o2, ho2, hc2, n2, hd2⟩, c5⟩ := it_i j (by omega)
      show wpAny _ _ (keyLt' _ (its.getD i Value.none) (its.getD j Value.none)) C _ _
      have e1 : its.getD i Value.none = .ref b1 := by rw [List.getD_eq_getElem?_getD, a1]; rfl
      have e2 : its.getD j Value.none = .ref b2 := by rw [List.getD_eq_getElem?_getD, c1]; rfl
      rw [e1, e2]
      have l1 := a5.length
      have l2 := c5.length
      have m1 : (rows.getD i []).length = k + 1 := hk _ (by rw [show rows.getD i [] = rows[i]'(by omega) by simp [show i < rows.length by omega]]; exact List.getElem_mem _)
      have m2 : (rows.getD j []).length = k + 1 := hk _ (by rw [show rows.getD j [] = rows[j]'(by omega) by simp [show j < rows.length by omega]]; exact List.getElem_mem _)
      refine kat_lt (kept _ _ ho1) hd1 (kept _ _ ho2) hd2 (katLex_ints _ _ _ _ 0 a5 c5 (by omega) ?_ (fun _ => by decide) (by decide) hq)
      simp only [List.size_toArray, decide_eq_false_iff_not]
      omega
  · obtain ⟨e2, he2⟩ := sortedAll_at s.heap its (outOf its pm)
    have hf : H (s.heap.objs.size + 1) = none := I.hok.fresh (Nat.le_succ _)
    rw [hlen] at p1 p2
    let bs' := pm.toList.map fun i => bs.getD i 0
    let rows' := pm.toList.map fun i => rows.getD i []
    have lpm : pm.toList.length = rows.length := by rw [Array.length_toList, p1.sz]
    have mem_lt : ∀ i ∈ pm.toList, i < rows.length := fun i hi => List.mem_range.mp (p1.pm.mem_iff.mp hi)
    have hT' : TupsN H rows' bs' := by
      refine paired_of _ _ (by simp [rows', bs']) fun i h1 h2 => ?_
      have hi : i < pm.toList.length := by simpa [rows'] using h1
      obtain ⟨b, us, g1, g2, g3, _⟩ := it_i _ (mem_lt _ (List.getElem_mem hi))
      have : bs'[i] = b := by
        show (pm.toList.map fun i => bs.getD i 0)[i] = b
        rw [List.getElem_map, List.getD_eq_getElem?_getD, g2]; rfl
      rw [this]
      show H b = some (.tup (((pm.toList.map fun i => rows.getD i [])[i]).map V.int))
      rw [List.getElem_map]
      exact g3
    have hv : Vals (bs'.map V.ref) (outOf its pm).toList := by
      refine paired_of _ _ (by simp [bs', outOf]) fun i h1 h2 => ?_
      have hi : i < pm.toList.length := by simpa [bs'] using h1
      obtain ⟨b, us, g1, g2, g3, _⟩ := it_i _ (mem_lt _ (List.getElem_mem hi))
      have e3 : (bs'.map V.ref)[i] = .ref b := by
        simp only [bs', List.getElem_map, List.getD_eq_getElem?_getD, g2, Option.getD_some]
      have e4 : (outOf its pm).toList[i] = .ref b := by
        simp only [outOf, List.getElem_map, List.getD_eq_getElem?_getD, g1, Option.getD_some]
      rw [e3, e4]
      exact rfl
    refine ⟨.ref (s.heap.objs.size + 1), _, I.laid (t' := s.toks) (a := s.heap.objs.size + 1) (o := .lst (bs'.map V.ref)) (fun b u e => sortedAll_old e) (Nat.le_succ _) ⟨?_, (outOf its pm).toList, e2, hv, ?_⟩, rfl, q _ bs' rows' hf hT' (sorted_perm p1 rows [] rfl) ?_⟩
    · rw [List.length_map]
      show (pm.toList.map _).length ≤ _
      rw [List.length_map, lpm]
      exact Nat.le_trans (Nat.le_of_lt h64) (by decide)
    · rw [Array.toArray_toList]
      exact he2
    · rw [List.pairwise_iff_getElem]
      intro i j h1 h2 hij
      have hi : i < pm.toList.length := by simpa [rows'] using h1
      have hj : j < pm.toList.length := by simpa [rows'] using h2
      have := p2.les (hlen ▸ T) p1 (Nat.le_refl _) hij (by omega)
      show HT.lexLt ((pm.toList.map fun i => rows.getD i [])[i]) ((pm.toList.map fun i => rows.getD i [])[j]) = true
      rw [List.getElem_map, List.getElem_map]
      have d1 : pm.getD i 0 = pm.toList[i] := by simp [Array.getD, show i < pm.size by simpa using hi]
      have d2 : pm.getD j 0 = pm.toList[j] := by simp [Array.getD, show j < pm.size by simpa using hj]
      rw [d1, d2] at this
      exact this
end
end L2
namespace L2
open PySem PySem.Spec PyProof.Rows
theorem paired_mapL {α β γ : Type} {F : β → γ → Prop} {f : α → β} : ∀ {xs : List α} {ys : List γ}, Paired (fun x y => F (f x) y) xs ys → Paired F (xs.map f) ys
  | _, _, .nil => .nil
  | _, _, .cons h t => .cons h (paired_mapL t)
theorem TupsN.same {H H' : Hp} {rows : List (List Int)} {bs : List Addr} (s : Same H H') (h : TupsN H rows bs) : TupsN H' rows bs := Paired.mapP h fun _ _ q => s _ _ q
theorem TupsN.get {H : Hp} {rows : List (List Int)} {bs : List Addr} (h : TupsN H rows bs) {i : Nat} {b : Addr} (e : bs[i]? = some b) : ∃ r, rows[i]? = some r ∧ H b = some (.tup (r.map V.int)) := by
  have hl : rows.length = bs.length := Paired.length h
  have hi : i < rows.length := by rw [hl]; exact (List.getElem?_eq_some_iff.mp e).1
  obtain ⟨b', h1, h2⟩ := Paired.getL h (List.getElem?_eq_getElem hi)
  rw [e] at h1
  cases h1
  exact ⟨_, List.getElem?_eq_getElem hi, h2⟩
section
variable {mp : List (Option Nat)} {g : TG} {tt : TT} {te : TE} {J : It} {P : Hp → Prop} {n : Nat} {f : Nat → St → St} {σ : St} {H : Hp} {Q : VK}
/-- each value is a new tuple of ints: row i, where b i -/
theorem comp_tupsY (Y : Ys J g P n f) (st : Nat → St) (hf : ∀ i σ', (σ' = liftSt mp σ ∨ ∃ j, σ' = st j) → f i σ' = st i) (hP : ∀ H', Same H H' → P H') (hz : n ≤ sizeLine) (b : Nat → Bool) (row : Nat → List Int)
    (ht : ∀ i, i < n → ∀ (H' : Hp) (G : Bool → Hp → Prop), Same H H' → (∀ H'', Same H' H'' → G (b i) H'') → tt (st i) H' G)
    (he : ∀ i, i < n → b i = true → ∀ (H' : Hp) (G : VK), Same H H' → (∀ a H'', H' a = none → Same H' H'' → H'' a = some (.tup ((row i).map V.int)) → G (.ref a) H'') → te (st i) H' G)
    (hd : ∀ l bs H', H l = none → Same H H' → H' l = some (.lst (bs.map V.ref)) → TupsN H' (((List.range n).filter b).map row) bs → Q (.ref l) H') : tCompK mp g tt te J σ H Q := by
  refine comp_genY Y st hf hP hz b (fun l i v H' => ∃ a, v = .ref a ∧ a ≠ l ∧ H' a = some (.tup ((row i).map V.int))) (fun l i v H1 H2 s ⟨a, e, hl, h1⟩ => ⟨a, e, hl, s a _ hl h1⟩) ht
    (fun l i hi hb H' G hl ⟨o, ho⟩ s k => he i hi hb H' G s fun a H'' h0 s' h1 => k _ H'' ⟨a, rfl, (fun e => by rw [e, ho] at h0; cases h0), h1⟩ s') fun l ys H' h0 s h1 pr => ?_
  obtain ⟨bs, rfl, pr'⟩ := paired_refs (T := fun a i => a ≠ l ∧ H' a = some (.tup ((row i).map V.int))) pr
  exact hd l bs H' h0 s h1 (paired_mapL (Paired.mapP pr' fun _ _ q => q.2))
end
theorem r_sortT {p : Addr} {bs : List Addr} {rows : List (List Int)} {k : Nat} {H : Hp} {Q : VK} (h1 : H p = some (.lst (bs.map V.ref))) (h2 : TupsN H rows bs) (h3 : ∀ r ∈ rows, r.length = k + 1) (h4 : rows.Nodup) (h5 : rows.length < 64)
    (h : ∀ l bs' rows' H2, H l = none → Same H H2 → H2 l = some (.lst (bs'.map V.ref)) → TupsN H2 rows' bs' → rows'.Perm rows → rows'.Pairwise (fun a b => HT.lexLt a b = true) → Q (.ref l) H2) : rSortT [.ref p] H Q :=
  ⟨p, bs, rows, k, rfl, h1, h2, h3, h4, h5, fun l bs' rows' hl a1 a2 a3 => h l bs' rows' _ hl (Same.updN hl) upd_same (a1.same (Same.updN hl)) a2 a3⟩
end L2
namespace L2
open PySem PySem.Spec PyProof.Rows
section
variable {X : Cx}
end
end L2

/-! ### a set of small whole numbers and its table: walked, sorted -/
namespace L2
open PySem PySem.Spec
theorem below_go (xs : Array Nat) (j : Nat) (hr : ∀ a b, a < b → b < xs.size → xs.getD a 0 < xs.getD b 0) : ∀ (f lo hi : Nat), hi - lo ≤ f → lo ≤ hi → hi ≤ xs.size → (∀ i, i < lo → xs.getD i 0 < j) → (∀ i, hi ≤ i → i < xs.size → j ≤ xs.getD i 0) →
    SetTable.below.go xs j f lo hi ≤ xs.size ∧ (∀ i, i < SetTable.below.go xs j f lo hi → xs.getD i 0 < j) ∧ ∀ i, SetTable.below.go xs j f lo hi ≤ i → i < xs.size → j ≤ xs.getD i 0
  | 0, lo, hi, hf, h1, h2, h3, h4 => by
    have e : lo = hi := by omega
    subst e
    exact ⟨h2, h3, h4⟩
  | f + 1, lo, hi, hf, h1, h2, h3, h4 => by
    unfold SetTable.below.go
    by_cases hl : lo < hi
    · rw [if_pos hl]
      have hm : (lo + hi) / 2 < xs.size := by omega
      have eg : xs.getD ((lo + hi) / 2) j = xs.getD ((lo + hi) / 2) 0 := by simp [Array.getD, hm]
      simp only [eg]
      by_cases hc : xs.getD ((lo + hi) / 2) 0 < j
      · rw [if_pos hc]
        refine below_go xs j hr f _ hi (by omega) (by omega) h2 (fun i hi' => ?_) h4
        by_cases e : i = (lo + hi) / 2
        · rw [e]; exact hc
        · have := hr i ((lo + hi) / 2) (by omega) hm
          omega
      · rw [if_neg hc]
        refine below_go xs j hr f lo _ (by omega) (by omega) (by omega) h3 (fun i hi' hs => ?_)
        by_cases e : i = (lo + hi) / 2
        · rw [e]; omega
        · have := hr ((lo + hi) / 2) i (by omega) hs
          omega
    · rw [if_neg hl]
      have e : lo = hi := by omega
      subst e
      exact ⟨h2, h3, h4⟩
theorem below_is (xs : Array Nat) (j : Nat) (hr : ∀ a b, a < b → b < xs.size → xs.getD a 0 < xs.getD b 0) :
    SetTable.below xs j ≤ xs.size ∧ (∀ i, i < SetTable.below xs j → xs.getD i 0 < j) ∧ ∀ i, SetTable.below xs j ≤ i → i < xs.size → j ≤ xs.getD i 0 :=
  below_go xs j hr xs.size 0 xs.size (by omega) (by omega) (Nat.le_refl _) (by omega) (by omega)
noncomputable def RiseA (xs : Array Nat) : Prop := ∀ a b, a < b → b < xs.size → xs.getD a 0 < xs.getD b 0
theorem below_eq {xs : Array Nat} {j p : Nat} (hr : RiseA xs) (hp : p ≤ xs.size) (h1 : ∀ i, i < p → xs.getD i 0 < j) (h2 : p < xs.size → j ≤ xs.getD p 0) : SetTable.below xs j = p := by
  obtain ⟨a, b, c⟩ := below_is xs j hr
  rcases Nat.lt_trichotomy (SetTable.below xs j) p with h | h | h
  · have := h1 _ h
    have := c _ (Nat.le_refl _) (by omega)
    omega
  · exact h
  · have := b p h
    have := h2 (by omega)
    omega
/-- j stands nowhere: the slot is empty -/
theorem slot_empty {t : SetTable} {j : Nat} (hd : t.dummies = #[]) (hn : j ∉ t.place.toList) : t.slot j = .empty := by
  unfold SetTable.slot
  have h1 : (t.place[SetTable.below t.place j]? == some j) = false := by
    cases h : t.place[SetTable.below t.place j]? with
    | none => rfl
    | some x =>
      have : x ∈ t.place.toList := by
        rw [← Array.getElem?_toList] at h
        exact List.mem_of_getElem? h
      have : x ≠ j := fun e => hn (e ▸ this)
      simpa using this
  simp [h1, hd, SetTable.has]
theorem slot_live {t : SetTable} {j : Nat} (hr : RiseA t.place) (hn : j ∈ t.place.toList) : ∃ i, t.slot j = .live i := by
  obtain ⟨i, hi, e⟩ := List.getElem_of_mem hn
  have hi' : i < t.place.size := by simpa using hi
  have eg : t.place.getD i 0 = j := by simp [Array.getD, hi']; simpa using e
  have hb : SetTable.below t.place j = i := below_eq hr (by omega) (fun k hk => by have := hr k i hk hi'; omega) (fun _ => by omega)
  refine ⟨i, ?_⟩
  unfold SetTable.slot
  simp only [hb]
  have : t.place[i]? = some j := by rw [← Array.getElem?_toList, List.getElem?_eq_getElem hi, e]
  simp [this]
noncomputable def nx8 : Nat → Nat → Nat
  | 0, i => i
  | k + 1, i => nx8 k ((i * 5 + 1) % 8)
theorem probe7 {t : SetTable} {h : Int} (hm : t.mask = 7) (hd : t.dummies = #[]) (hr : RiseA t.place) : ∀ (f i q : Nat), i < 8 → q < 32 → (∃ k, k < f ∧ nx8 k i ∉ t.place.toList) →
    ∃ j, j < 8 ∧ j ∉ t.place.toList ∧ SetTable.probe.go t (fun _ => h + 1) h f { j := i, more := 0, i := i, perturb := q, dummy := none } = some (.empty j none)
  | 0, i, q, _, _, ⟨k, hk, _⟩ => absurd hk (Nat.not_lt_zero _)
  | f + 1, i, q, hi, hq, ⟨k, hk, hn⟩ => by
    by_cases hin : i ∈ t.place.toList
    · obtain ⟨l, hl⟩ := slot_live hr hin
      cases k with
      | zero => exact absurd hin hn
      | succ k =>
        obtain ⟨j, h1, h2, h3⟩ := probe7 hm hd hr f ((i * 5 + 1) % 8) 0 (Nat.mod_lt _ (by omega)) (by omega) ⟨k, by omega, hn⟩
        refine ⟨j, h1, h2, ?_⟩
        unfold SetTable.probe.go
        simp only [hl]
        have hb : ((h + 1 : Int) == h) = false := by
          have : (h + 1 : Int) ≠ h := by omega
          simpa using this
        simp only [hb, Bool.false_eq_true, if_false]
        have eq0 : q / 32 = 0 := by omega
        have er : SetTable.runEnd 7 ((i * 5 + 1) % 8) - (i * 5 + 1) % 8 = 0 := by
          unfold SetTable.runEnd
          rw [if_neg (by omega)]; omega
        simp only [SetTable.advance, Nat.lt_irrefl, if_false, hm, SetTable.leap, eq0, Nat.add_zero, er, gt_iff_lt]
        exact h3
    · refine ⟨i, hi, hin, ?_⟩
      unfold SetTable.probe.go
      simp only [slot_empty hd hin]
theorem some_free {p : List Nat} (hp : p.length ≤ 4) {i : Nat} (hi : i < 8) : ∃ k, k < 220 ∧ nx8 k i ∉ p := by
  apply Classical.byContradiction
  intro hc
  have all : ∀ k, k < 5 → nx8 k i ∈ p := fun k hk => Classical.byContradiction fun hn => hc ⟨k, by omega, hn⟩
  have nd : ((List.range 5).map fun k => nx8 k i).Nodup := by
    rcases i with _ | _ | _ | _ | _ | _ | _ | _ | i
    all_goals first | decide | omega
  have sub : ((List.range 5).map fun k => nx8 k i) ⊆ p := by
    intro x hx
    obtain ⟨k, hk, rfl⟩ := List.mem_map.mp hx
    exact all k (List.mem_range.mp hk)
  have := List.Nodup.length_le_of_subset nd sub
  simp at this
  omega
theorem bits_small {h : Int} (h0 : 0 ≤ h) (h1 : h < 20) : SetTable.bits h = h.toNat := by
  unfold SetTable.bits
  rw [Int.emod_eq_of_lt h0 (by omega)]
theorem freeSlot7 {t : SetTable} {h : Int} (hm : t.mask = 7) (hd : t.dummies = #[]) (hr : RiseA t.place) (hs : t.place.size ≤ 4) (h0 : 0 ≤ h) (h1 : h < 20) :
    ∃ j, j < 8 ∧ j ∉ t.place.toList ∧ t.freeSlot h = some (j, false) := by
  have hi : h.toNat % 8 < 8 := Nat.mod_lt _ (by omega)
  obtain ⟨j, a, b, c⟩ := probe7 (h := h) hm hd hr 220 (h.toNat % 8) h.toNat hi (by omega) (some_free (by simpa using hs) hi)
  refine ⟨j, a, b, ?_⟩
  have er : SetTable.runEnd 7 (h.toNat % 8) - h.toNat % 8 = 0 := by
    unfold SetTable.runEnd
    rw [if_neg (by omega)]; omega
  have : t.probe (fun _ => h + 1) h (t.probeStart h) = some (.empty j none) := by
    unfold SetTable.probe SetTable.probeStart
    simp only [bits_small h0 h1, hm, SetTable.turns, er]
    exact c
  unfold SetTable.freeSlot
  rw [this]
  rfl
theorem freeSlotB {t : SetTable} {h : Int} (hm : 20 ≤ t.mask) (hd : t.dummies = #[]) (hn : h.toNat ∉ t.place.toList) (h0 : 0 ≤ h) (h1 : h < 20) : t.freeSlot h = some (h.toNat, false) := by
  have hmo : h.toNat % (t.mask + 1) = h.toNat := Nat.mod_eq_of_lt (by omega)
  have : t.probe (fun _ => h + 1) h (t.probeStart h) = some (.empty h.toNat none) := by
    unfold SetTable.probe SetTable.probeStart
    simp only [bits_small h0 h1, hmo, SetTable.turns]
    have e : 10 * (t.mask + 15) = 10 * t.mask + 149 + 1 := by omega
    rw [e]
    unfold SetTable.probe.go
    simp only [slot_empty hd hn]
  unfold SetTable.freeSlot
  rw [this]
  rfl
theorem rise_of {xs : Array Nat} (h : xs.toList.Pairwise (· < ·)) : RiseA xs := by
  intro a b hab hb
  have := List.pairwise_iff_getElem.mp h a b (by simp; omega) (by simpa using hb) hab
  have ha : a < xs.size := by omega
  simpa [Array.getD, ha, hb] using this
structure TabOk (l : Bool) (es : Array (Int × Value)) (t : SetTable) : Prop where
  size : t.place.size = es.size
  rise : t.place.toList.Pairwise (· < ·)
  dum : t.dummies = #[]
  pl : t.plain = true
  led : t.led = l
  rg : ∀ e ∈ es.toList, 0 ≤ e.1 ∧ e.1 < 20
  nd : (es.toList.map (·.1)).Nodup
  st : (t.mask = 7 ∧ (∀ p ∈ t.place.toList, p < 8)) ∨ ((t.mask = 31 ∨ t.mask = 127) ∧ t.place.toList = es.toList.map fun e => e.1.toNat)
noncomputable def TabSm (t : SetTable) (n : Nat) : Prop := (t.mask = 7 → n ≤ 4) ∧ (t.mask = 31 → n ≤ 18)
theorem TabOk.small {l : Bool} {es : Array (Int × Value)} {t : SetTable} (k : TabOk l es t) : es.size ≤ 20 := by
  have sub : es.toList.map (·.1) ⊆ (List.range 20).map fun (i : Nat) => (i : Int) := by
    intro x hx
    obtain ⟨e, he, rfl⟩ := List.mem_map.mp hx
    obtain ⟨a, b⟩ := k.rg e he
    exact List.mem_map.mpr ⟨e.1.toNat, List.mem_range.mpr (by omega), by omega⟩
  have := List.Nodup.length_le_of_subset k.nd sub
  simpa using this
theorem put_place {t : SetTable} {j : Nat} (hr : t.place.toList.Pairwise (· < ·)) (hn : j ∉ t.place.toList) :
    ((t.put j).1.place.toList).Pairwise (· < ·) ∧ (t.put j).1.place.toList = t.place.toList.take (t.put j).2 ++ j :: t.place.toList.drop (t.put j).2 := by
  have e : (t.put j).1.place.toList = t.place.toList.take (t.put j).2 ++ j :: t.place.toList.drop (t.put j).2 := by
    show (SetTable.insertAt t.place (SetTable.below t.place j) j).toList = _
    rw [SetTable.toList_insertAt]; rfl
  refine ⟨?_, e⟩
  rw [e]
  obtain ⟨a, b, c⟩ := below_is t.place j (rise_of hr)
  have hp : (t.put j).2 = SetTable.below t.place j := rfl
  rw [hp]
  generalize SetTable.below t.place j = p at a b c
  have h1 : ∀ x ∈ t.place.toList.take p, x < j := by
    intro x hx
    obtain ⟨i, hi, rfl⟩ := List.getElem_of_mem hx
    have hi' : i < p ∧ i < t.place.size := by
      have : i < min p t.place.size := by simpa using hi
      omega
    have := b i hi'.1
    simpa [Array.getD, hi'.2] using this
  have h2 : ∀ x ∈ t.place.toList.drop p, j < x := by
    intro x hx
    have hm : x ∈ t.place.toList := List.mem_of_mem_drop hx
    obtain ⟨i, hi, rfl⟩ := List.getElem_of_mem hx
    have hi' : i < t.place.size - p := by simpa using hi
    have := c (p + i) (by omega) (by omega)
    have h3 : p + i < t.place.size := by omega
    have h4 : j ≤ (t.place.toList.drop p)[i] := by simpa [Array.getD, h3] using this
    have h5 : (t.place.toList.drop p)[i] ≠ j := fun z => hn (z ▸ hm)
    omega
  have hta : (t.place.toList.take p).Pairwise (· < ·) := hr.sublist (List.take_sublist _ _)
  have hdr : (t.place.toList.drop p).Pairwise (· < ·) := hr.sublist (List.drop_sublist _ _)
  refine List.pairwise_append.mpr ⟨hta, List.pairwise_cons.mpr ⟨h2, hdr⟩, ?_⟩
  intro x hx y hy
  rcases List.mem_cons.mp hy with rfl | hy
  · exact h1 x hx
  · exact Nat.lt_trans (h1 x hx) (h2 y hy)
theorem TabOk.new {l : Bool} {es : Array (Int × Value)} {t : SetTable} (k : TabOk l es t) (sm : TabSm t es.size) {h : Int} {x : Value} (h0 : 0 ≤ h) (h1 : h < 20) (hn : h ∉ es.toList.map (·.1)) :
    ∃ es' t', layNew t es h x = (es', t', false, false) ∧ TabOk l es' t' ∧ es'.size = es.size + 1 ∧ t'.mask = t.mask ∧ t'.fits es'.size = true := by
  have hfree : ∃ j, j ∉ t.place.toList ∧ t.freeSlot h = some (j, false) ∧ (t.mask = 7 → j < 8) ∧ (t.mask ≠ 7 → j = h.toNat) := by
    rcases k.st with ⟨m, _⟩ | ⟨m, e⟩
    · obtain ⟨j, a, b, c⟩ := freeSlot7 (h := h) m k.dum (rise_of k.rise) (by rw [k.size]; exact sm.1 m) h0 h1
      exact ⟨j, b, c, fun _ => a, fun z => absurd m z⟩
    · have hn' : h.toNat ∉ t.place.toList := by
        rw [e]
        intro z
        obtain ⟨w, hw, ew⟩ := List.mem_map.mp z
        obtain ⟨a, b⟩ := k.rg w hw
        exact hn (List.mem_map.mpr ⟨w, hw, by omega⟩)
      refine ⟨h.toNat, hn', freeSlotB (by rcases m with m | m <;> omega) k.dum hn' h0 h1, fun z => ?_, fun _ => rfl⟩
      rcases m with m | m <;> omega
  obtain ⟨j, hj, hf, hj7, hjB⟩ := hfree
  obtain ⟨pr, pe⟩ := put_place k.rise hj
  have hdum : (t.put j).1.dummies = #[] := by
    show (if SetTable.has t.dummies j then _ else t.dummies) = _
    rw [k.dum]; simp [SetTable.has]
  have hsz : (SetTable.insertAt es (t.put j).2 (h, x)).size = es.size + 1 := by
    rw [← Array.length_toList, (SetTable.insertAt_perm es (t.put j).2 (h, x)).length_eq]; simp
  have hps : (t.put j).1.place.size = es.size + 1 := by
    rw [← Array.length_toList]
    show (SetTable.insertAt t.place (SetTable.below t.place j) j).toList.length = _
    rw [(SetTable.insertAt_perm t.place _ j).length_eq]; simp [k.size]
  have hmask : (t.put j).1.mask = t.mask := rfl
  have hfits : (t.put j).1.fits (es.size + 1) = true := by
    have := k.small
    simp only [SetTable.fits, SetTable.fill, hps, hdum, hmask, beq_self_eq_true, Bool.true_and, decide_eq_true_eq, Array.size_empty, Nat.add_zero]
    rcases k.st with ⟨m, _⟩ | ⟨m | m, _⟩
    · have := sm.1 m; omega
    · have := sm.2 m; omega
    · omega
  refine ⟨SetTable.insertAt es (t.put j).2 (h, x), (t.put j).1, ?_, ?_, hsz, rfl, by rw [hsz]; exact hfits⟩
  · unfold layNew
    rw [hf]
    simp only [hsz, hfits, SetTable.orStandIn, if_true, Bool.not_true]
  · have pm := SetTable.insertAt_perm es (t.put j).2 (h, x)
    rw [Array.toList_push] at pm
    refine ⟨by rw [hps, hsz], pr, hdum, k.pl, k.led, ?_, ?_, ?_⟩
    · intro e he
      rcases List.mem_append.mp (pm.mem_iff.mp he) with he | he
      · exact k.rg e he
      · rw [List.mem_singleton] at he; subst he; exact ⟨h0, h1⟩
    · refine ((pm.map (·.1)).nodup_iff).mpr ?_
      rw [List.map_append]
      refine List.nodup_append.mpr ⟨k.nd, by simp, ?_⟩
      intro a ha b hb
      rw [List.map_singleton, List.mem_singleton] at hb
      subst hb
      exact fun z => hn (z ▸ ha)
    · rcases k.st with ⟨m, pl⟩ | ⟨m, e⟩
      · refine .inl ⟨m, fun p hp => ?_⟩
        rw [pe] at hp
        rcases List.mem_append.mp hp with hp | hp
        · exact pl p (List.mem_of_mem_take hp)
        · rcases List.mem_cons.mp hp with rfl | hp
          · exact hj7 m
          · exact pl p (List.mem_of_mem_drop hp)
      · refine .inr ⟨m, ?_⟩
        rw [pe, SetTable.toList_insertAt, e, hjB (by rcases m with m | m <;> omega), List.map_append, List.map_cons, List.map_take, List.map_drop]
theorem fm_congr {α β : Type} {f g : α → Option β} : ∀ {l : List α}, (∀ a ∈ l, f a = g a) → l.filterMap f = l.filterMap g
  | [], _ => rfl
  | a :: l, h => by rw [List.filterMap_cons, List.filterMap_cons, h a (.head _), fm_congr fun b hb => h b (.tail _ hb)]
theorem perm_set {m h : Nat} {f g : Nat → Option Nat} {k : Nat} (hh : h < m) (hf : f h = none) (hg : g h = some k) (ho : ∀ j, j ≠ h → g j = f j) : ((List.range m).filterMap g).Perm ((List.range m).filterMap f ++ [k]) := by
  induction m with
  | zero => exact absurd hh (Nat.not_lt_zero _)
  | succ m ih =>
    rw [List.range_succ, List.filterMap_append, List.filterMap_append]
    by_cases e : h = m
    · subst e
      have e1 : (List.range h).filterMap g = (List.range h).filterMap f := fm_congr fun j hj => ho j (by have := List.mem_range.mp hj; omega)
      simp [e1, hf, hg]
    · have ih := ih (by omega)
      simp only [List.filterMap_cons, List.filterMap_nil, ho m (fun z => e z.symm)]
      cases f m with
      | none => simpa using ih
      | some b =>
        refine (ih.append_right [b]).trans ?_
        rw [List.append_assoc, List.append_assoc]
        exact List.Perm.append_left _ (List.perm_append_comm (l₁ := [k]) (l₂ := [b]))
noncomputable def LayIs (m : Nat) (pre : List Int) (owner : Array (Option Nat)) : Prop :=
  owner.size = m + 1 ∧ (∀ j i, owner.getD j none = some i → pre[i]? = some (j : Int)) ∧ ((List.range (m + 1)).filterMap fun j => owner.getD j none).Perm (List.range pre.length)
noncomputable def layStep (m : Nat) (acc : Option (Array (Option Nat) × Nat)) (h : Int) : Option (Array (Option Nat) × Nat) := do
  let (owner, k) ← acc
  let j ← SetTable.layClean.free m owner (SetTable.turns m) (SetTable.bits h % (m + 1)) (SetTable.bits h)
  pure (owner.setIfInBounds j (some k), k + 1)
theorem lay_fold {m : Nat} (hm : 20 ≤ m) : ∀ (hs pre : List Int) (owner : Array (Option Nat)), LayIs m pre owner → (∀ h ∈ hs, 0 ≤ h ∧ h < 20) → (pre ++ hs).Nodup →
    ∃ owner', hs.foldl (layStep m) (some (owner, pre.length)) = some (owner', (pre ++ hs).length) ∧ LayIs m (pre ++ hs) owner'
  | [], pre, owner, I, _, _ => ⟨owner, by simp, by simpa using I⟩
  | h :: hs, pre, owner, I, rg, nd => by
    obtain ⟨i1, i2, i3⟩ := I
    obtain ⟨h0, h1⟩ := rg h (.head _)
    have hnp : h ∉ pre := by
      intro z
      exact (List.nodup_append.mp nd).2.2 h z h (.head _) rfl
    have hno : owner.getD h.toNat none = none := by
      cases e : owner.getD h.toNat none with
      | none => rfl
      | some i =>
        have := i2 _ _ e
        have hmem := List.mem_of_getElem? this
        have e' : ((h.toNat : Nat) : Int) = h := by omega
        rw [e'] at hmem
        exact absurd hmem hnp
    have hlt : h.toNat < owner.size := by omega
    have hno0 : owner.getD h.toNat (some 0) = none := by
      simp only [Array.getD, hlt, dite_true] at hno ⊢
      exact hno
    have hfree : SetTable.layClean.free m owner (SetTable.turns m) (SetTable.bits h % (m + 1)) (SetTable.bits h) = some h.toNat := by
      rw [bits_small h0 h1, Nat.mod_eq_of_lt (by omega)]
      show SetTable.layClean.free m owner (m + 14 + 1) _ _ = _
      unfold SetTable.layClean.free
      have hrun : ∃ r, SetTable.runEnd m h.toNat + 1 - h.toNat = r + 1 := by
        unfold SetTable.runEnd
        split
        · exact ⟨9, by omega⟩
        · exact ⟨0, by omega⟩
      obtain ⟨r, hr⟩ := hrun
      have : (List.range (r + 1)).find? (fun k => (owner.getD (h.toNat + k) (some 0)).isNone) = some 0 := by
        rw [List.range_succ_eq_map, List.find?_cons_of_pos]
        simp [hno0]
      rw [hr, this]
      rfl
    have hget : ∀ j, (owner.setIfInBounds h.toNat (some pre.length)).getD j none = if j = h.toNat then some pre.length else owner.getD j none := by
      intro j
      by_cases e : j = h.toNat
      · subst e; rw [if_pos rfl]; simp [Array.getD, hlt]
      · rw [if_neg e]
        simp only [Array.getD, Array.size_setIfInBounds]
        split
        · exact Array.getElem_setIfInBounds_ne _ (Ne.symm e)
        · rfl
    have I' : LayIs m (pre ++ [h]) (owner.setIfInBounds h.toNat (some pre.length)) := by
      refine ⟨by simpa using i1, ?_, ?_⟩
      · intro j i e
        rw [hget] at e
        split at e
        · rename_i ej
          cases e
          subst ej
          simp only [List.getElem?_append_right (Nat.le_refl _), Nat.sub_self, List.getElem?_cons_zero]
          congr 1; omega
        · have := i2 j i e
          have hi : i < pre.length := (List.getElem?_eq_some_iff.mp this).1
          rw [List.getElem?_append_left hi]; exact this
      · rw [List.length_append, List.length_singleton, show List.range (pre.length + 1) = List.range pre.length ++ [pre.length] from List.range_succ]
        exact (perm_set (f := fun j => owner.getD j none) (g := fun j => (owner.setIfInBounds h.toNat (some pre.length)).getD j none) (k := pre.length) (by omega : h.toNat < m + 1) hno ((hget _).trans (if_pos rfl)) fun j hj => (hget j).trans (if_neg hj)).trans (i3.append_right _)
    obtain ⟨owner', a, b⟩ := lay_fold hm hs (pre ++ [h]) _ I' (fun x hx => rg x (.tail _ hx)) (by simpa using nd)
    refine ⟨owner', ?_, by simpa using b⟩
    have hst : layStep m (some (owner, pre.length)) h = some (owner.setIfInBounds h.toNat (some pre.length), (pre ++ [h]).length) := by
      unfold layStep
      simp only [Option.bind_eq_bind, Option.bind_some, hfree]
      simp
    rw [List.foldl_cons, hst, a]
    simp
theorem layClean_is {m : Nat} (hm : 20 ≤ m) {hs : Array Int} (rg : ∀ h ∈ hs.toList, 0 ≤ h ∧ h < 20) (nd : hs.toList.Nodup) : ∃ owner, SetTable.layClean m hs = some owner ∧ LayIs m hs.toList owner := by
  have I0 : LayIs m [] (Array.replicate (m + 1) none) := by
    have hg : ∀ j, (Array.replicate (m + 1) (none : Option Nat)).getD j none = none := by
      intro j
      simp only [Array.getD]
      split <;> simp
    refine ⟨by simp, fun j i e => ?_, ?_⟩
    · rw [hg] at e; cases e
    · rw [fm_congr (g := fun _ => none) fun j _ => hg j]
      simp
  obtain ⟨owner, a, b⟩ := lay_fold hm hs.toList [] _ I0 rg (by simpa using nd)
  refine ⟨owner, ?_, by simpa using b⟩
  unfold SetTable.layClean
  rw [← Array.foldl_toList]
  have : hs.toList.foldl (layStep m) (some (Array.replicate (m + 1) none, 0)) = some (owner, hs.toList.length) := by simpa using a
  have e2 : (fun (acc : Option (Array (Option Nat) × Nat)) (h : Int) => (do
    let (owner, k) ← acc
    let j ← SetTable.layClean.free m owner (SetTable.turns m) (SetTable.bits h % (m + 1)) (SetTable.bits h)
    pure (owner.setIfInBounds j (some k), k + 1) : Option (Array (Option Nat) × Nat))) = layStep m := rfl
  show Option.map _ (List.foldl (layStep m) _ _) = _
  rw [this]
  rfl
theorem TabOk.relay {l : Bool} {es : Array (Int × Value)} {t : SetTable} (k : TabOk l es t) {wanted m : Nat} (hw : SetTable.sizeAbove wanted = m + 1) (hm : m = 31 ∨ m = 127) :
    ∃ es' t', relayAll t es wanted = (es', t', false) ∧ TabOk l es' t' ∧ es'.size = es.size ∧ t'.mask = m ∧ t'.fits es'.size = true := by
  have hsm := k.small
  have rg' : ∀ h ∈ (es.map (·.1)).toList, 0 ≤ h ∧ h < 20 := by
    intro h hh
    rw [Array.toList_map] at hh
    obtain ⟨e, he, rfl⟩ := List.mem_map.mp hh
    exact k.rg e he
  have nd' : (es.map (·.1)).toList.Nodup := by rw [Array.toList_map]; exact k.nd
  obtain ⟨owner, ho, o1, o2, o3⟩ := layClean_is (m := m) (by omega) rg' nd'
  have hlen : (es.map (·.1)).toList.length = es.size := by simp
  rw [hlen] at o3
  let live := (List.range (m + 1)).filterMap fun j => (owner.getD j none).map fun i => (j, i)
  have l2 : live.map (·.2) = (List.range (m + 1)).filterMap fun j => owner.getD j none := by
    show ((List.range (m + 1)).filterMap _).map _ = _
    rw [List.map_filterMap]
    exact fm_congr fun j _ => by cases owner.getD j none <;> rfl
  have lin : ∀ q ∈ live, es[q.2]?.map (·.1) = some (q.1 : Int) := by
    intro q hq
    obtain ⟨j, _, e⟩ := List.mem_filterMap.mp hq
    cases ho : owner.getD j none with
    | none => rw [ho] at e; cases e
    | some i =>
      rw [ho] at e
      cases e
      have := o2 j i ho
      rw [Array.toList_map, List.getElem?_map, Array.getElem?_toList] at this
      exact this
  have lrise : (live.map (·.1)).Pairwise (· < ·) := by
    have hs : (live.map (·.1)).Sublist (List.range (m + 1)) := by
      show (((List.range (m + 1)).filterMap _).map _).Sublist _
      rw [List.map_filterMap]
      have : ∀ l : List Nat, (l.filterMap fun x => Option.map (·.1) (Option.map (fun i => (x, i)) (owner.getD x none))).Sublist l := by
        intro l
        induction l with
        | nil => simp
        | cons a l ih =>
          rw [List.filterMap_cons]
          cases owner.getD a none with
          | none => exact ih.cons _
          | some b => exact ih.cons_cons _
      exact this _
    exact List.pairwise_lt_range.sublist hs
  have hrel : t.relaid (es.map (·.1)) wanted = some ({ mask := m, place := (live.map (·.1)).toArray, dummies := #[], finger := t.finger, led := t.led, moves := t.movedTo m, plain := t.plain }, (live.map (·.2)).toArray) := by
    unfold SetTable.relaid SetTable.laid
    rw [hw]
    simp only [Nat.add_sub_cancel, ho]
    rfl
  have hcov : coversAll (live.map (·.2)).toArray es.size = true := by
    unfold coversAll
    rw [List.isPerm_iff]
    show (live.map (·.2)).Perm _
    rw [l2]; exact o3
  let es' := (live.map (·.2)).toArray.filterMap (es[·]?)
  have hes : es'.toList = live.filterMap fun q => es[q.2]? := by
    show ((live.map (·.2)).toArray.filterMap (es[·]?)).toList = _
    rw [Array.toList_filterMap, List.filterMap_map]; rfl
  have hmap : es'.toList.map (fun e => e.1) = live.map fun q => (q.1 : Int) := by
    rw [hes, List.map_filterMap, ← List.filterMap_eq_map]
    exact fm_congr fun q hq => by
      have := lin q hq
      simpa using this
  have hperm : es'.toList.Perm es.toList := by
    have := relayAll_perm t es wanted
    unfold relayAll at this
    rw [hrel] at this
    dsimp only at this
    show ((live.map (·.2)).toArray.filterMap (es[·]?)).toList.Perm _
    rw [Array.toList_filterMap]
    show ((live.map (·.2)).filterMap _).Perm _
    rw [l2]
    exact (o3.filterMap _).trans (by rw [filterMap_getElem?_range])
  have hsz : es'.size = es.size := by rw [← Array.length_toList, hperm.length_eq, Array.length_toList]
  have hll : live.length = es.size := by
    have := congrArg List.length hmap
    rw [List.length_map, List.length_map, Array.length_toList, hsz] at this
    exact this.symm
  have hfits : ({ mask := m, place := (live.map (·.1)).toArray, dummies := #[], finger := t.finger, led := t.led, moves := t.movedTo m, plain := t.plain } : SetTable).fits es.size = true := by
    simp [SetTable.fits, SetTable.fill, hll]
    omega
  refine ⟨es', { mask := m, place := (live.map (·.1)).toArray, dummies := #[], finger := t.finger, led := t.led, moves := t.movedTo m, plain := t.plain }, ?_, ?_, hsz, rfl, by rw [hsz]; exact hfits⟩
  · unfold relayAll
    rw [hrel]
    dsimp only
    rw [show (Array.filterMap (fun x => es[x]?) (live.map (·.2)).toArray).size = es.size from hsz, hcov, hfits]
    rfl
  · refine ⟨by rw [hsz]; simp [hll], lrise, rfl, k.pl, k.led, fun e he => k.rg e (hperm.mem_iff.mp he), ((hperm.map (·.1)).nodup_iff).mpr k.nd, .inr ⟨hm, ?_⟩⟩
    show live.map (·.1) = es'.toList.map fun e => e.1.toNat
    have := congrArg (List.map Int.toNat) hmap
    rw [List.map_map, List.map_map] at this
    rw [show (es'.toList.map fun e => e.1.toNat) = es'.toList.map (Int.toNat ∘ fun e => e.1) from rfl, this]
    apply List.map_congr_left
    intro q _
    simp
end L2
namespace L2
open PySem PySem.Spec PyProof.Rows
theorem erase_perm {α : Type} : ∀ (l : List α) (i : Nat) (h : i < l.length), (l[i] :: l.eraseIdx i).Perm l
  | [], _, h => absurd h (Nat.not_lt_zero _)
  | a :: l, 0, _ => .rfl
  | a :: l, i + 1, h => by
    have h' : i < l.length := by simpa using h
    show (l[i] :: a :: l.eraseIdx i).Perm (a :: l)
    exact (List.Perm.swap a l[i] _).trans ((erase_perm l i h').cons a)
theorem pick_perm {α : Type} (nx : Nat → Nat) : ∀ (f k : Nat) (left : List α) (out : Array α), f = left.length → (pickOrder.go nx f k left out).toList.Perm (out.toList ++ left)
  | 0, k, left, out, h => by
    have : left = [] := List.eq_nil_of_length_eq_zero h.symm
    subst this
    unfold pickOrder.go
    simp
  | f + 1, k, left, out, h => by
    unfold pickOrder.go
    have hl : nx k % left.length < left.length := Nat.mod_lt _ (by omega)
    rw [List.getElem?_eq_getElem hl]
    dsimp only
    refine (pick_perm nx f (k + 1) _ _ (by rw [List.length_eraseIdx]; rw [if_pos hl]; omega)).trans ?_
    rw [Array.toList_push, List.append_assoc]
    refine List.Perm.append_left _ ?_
    show (left[nx k % left.length] :: left.eraseIdx (nx k % left.length)).Perm left
    exact erase_perm left _ hl
theorem pickOrder_perm {α : Type} (nx : Nat → Nat) (xs : Array α) : (pickOrder nx xs).toList.Perm xs.toList := by
  have := pick_perm nx xs.size 0 xs.toList #[] (by simp)
  simpa [pickOrder] using this
/-- the set at a holds just the numbers ns, all of 0 to 19, each once -/
noncomputable def SetW (w : World) (a : Addr) (ns : List Int) (h : Heap) : Prop :=
  ∃ es ep t, h.get? a = some { cls := .type "set", dict := none, data := .set es ep t } ∧ TabOk (!w.params.followText "set-order") es t ∧ TabSm t es.size ∧ t.fits es.size = true ∧
    (∀ e ∈ es.toList, ∃ tk, e.2 = .int e.1 tk) ∧ (es.toList.map (·.1)).Perm ns
theorem hash_small {v : Int} (h0 : 0 ≤ v) (h1 : v < 20) : hashInt v = v := by
  have : ∀ k : Nat, k < 20 → hashInt (k : Int) = (k : Int) := by decide
  have := this v.toNat (by omega)
  rwa [show ((v.toNat : Nat) : Int) = v by omega] at this
section
variable {prog : Program} {w : World} {A : Around} {E : Value → Shared → Prop} {s : Shared}
theorem intW_is (prog : Program) (w : World) (v : Int) (tk : Tok) : (intKind prog w).is v (.int v tk) = true := by simp [intKind, Value.isInt]
theorem SetW.elems {es : Array (Int × Value)} {t : SetTable} {l : Bool} (k : TabOk l es t) (hi : ∀ e ∈ es.toList, ∃ tk, e.2 = .int e.1 tk) : ElemsOf (intKind prog w) es.toList := by
  intro e he
  obtain ⟨tk, h⟩ := hi e he
  obtain ⟨a, b⟩ := k.rg e he
  exact ⟨⟨e.1, by rw [h]; exact intW_is _ _ _ _, (hash_small a b).symm⟩, by rw [h]; rfl⟩
theorem wp_setAddW {a : Addr} {ns : List Int} {v : Int} {tk : Tok} {Q : Bool → Shared → Prop} (hS : SetW w a ns s.heap) (h0 : 0 ≤ v) (h1 : v < 20)
    (h : ∀ h', Heap.SameBut a s.heap h' → SetW w a (if v ∈ ns then ns else ns ++ [v]) h' → Q (decide (v ∉ ns)) { s with heap := h' }) :
    wpAny (model prog w) A (setAddHashed a (.int v tk) ((intKind prog w).hash v)) Q E s := by
  obtain ⟨es, ep, t, ho, ok, sm, hf, hi, pm⟩ := hS
  have hel : ElemsOf (intKind prog w) es.toList := SetW.elems ok hi
  have hb : es.size < scanBound := by have := ok.small; unfold scanBound; omega
  have hkey : (intKind prog w).is v (.int v tk) = true := intW_is _ _ _ _
  have hhash : (intKind prog w).hash v = v := hash_small h0 h1
  unfold setAddHashed setAddHashedIn
  refine wpAny_holding (wpAny_bind (wpAny_setState_of ho rfl hf ?_))
  dsimp only
  rw [byScan_of rfl hb hel]
  simp only [↓reduceIte]
  unfold setAddByScan
  refine wpAny_bind ?_
  refine wpAny_bind (wpAny_rule ?_)
  refine wpAny_bind (wpAny_setScan_of hkey ho rfl hf hel ?_)
  cases hr : List.findIdx? (fun e => (intKind prog w).is v e.2) es.toList with
  | some j =>
    dsimp only
    obtain ⟨hj, hpj, _⟩ := List.findIdx?_eq_some_iff_getElem.mp hr
    have hin : v ∈ ns := by
      refine pm.mem_iff.mp (List.mem_map.mpr ⟨es.toList[j], List.getElem_mem hj, ?_⟩)
      obtain ⟨tk', e'⟩ := hi _ (List.getElem_mem hj)
      rw [e'] at hpj
      exact ((intKind prog w).inj _ _ _ hpj (intW_is _ _ _ _)).symm
    refine wpAny_pure (wpAny_pure ?_)
    have e : s = { s with heap := s.heap } := by cases s; rfl
    have := h s.heap (Heap.SameBut.refl a s.heap) ⟨es, ep, t, ho, ok, sm, hf, hi, by rw [if_pos hin]; exact pm⟩
    rw [show decide (v ∉ ns) = false by simp [hin]] at this
    rw [e]; exact this
  | none =>
    dsimp only
    have hnin : v ∉ es.toList.map (·.1) := by
      intro z
      obtain ⟨e, he, rfl⟩ := List.mem_map.mp z
      obtain ⟨tk', e'⟩ := hi _ he
      have := List.findIdx?_eq_none_iff.mp hr e he
      rw [e'] at this
      rw [intW_is] at this
      cases this
    have hnn : v ∉ ns := fun z => hnin (pm.mem_iff.mpr z)
    have hgw : ∀ (b : Bool) {s₁ : Shared} {Q' : Unit → Shared → Prop}, Q' () s₁ → wpAny (model prog w) A (match b with | true => rule "set.scan.the-table-gave-way" | false => pure ()) Q' E s₁ :=
      fun b s₁ Q' hq => by cases b <;> first | exact wpAny_pure hq | exact wpAny_rule hq
    rw [hhash]
    have hperm := layNew_perm t es v (.int v tk)
    obtain ⟨es1, t1, hL, ok1, hsz1, hm1, hf1⟩ := ok.new sm (x := .int v tk) h0 h1 hnin
    rw [hL] at hperm ⊢
    dsimp only at hperm ⊢
    rw [Array.toList_push] at hperm
    have hi1 : ∀ e ∈ es1.toList, ∃ tk, e.2 = .int e.1 tk := by
      intro e he
      rcases List.mem_append.mp (hperm.mem_iff.mp he) with he | he
      · exact hi e he
      · rw [List.mem_singleton] at he; subst he; exact ⟨tk, rfl⟩
    have pm1 : (es1.toList.map (·.1)).Perm (ns ++ [v]) := by
      refine (hperm.map (·.1)).trans ?_
      rw [List.map_append]
      exact pm.append_right _
    have hb1 : es1.size < scanBound := by have := ok1.small; unfold scanBound; omega
    refine wpAny_bind ?_
    refine wpAny_pure (a := ()) ?_
    simp only [ok1.pl, ↓reduceIte]
    refine wpAny_bind ?_
    rw [hashByValue_scannable 8 (x := .int v tk) rfl]
    refine wpAny_pure ?_
    simp only [plainKind, ↓reduceIte]
    refine wpAny_bind (wpAny_storeSet_of ho rfl ?_ (fits_of_scanBound hb1))
    have ho1 : (s.heap.update a (Obj.putSet es1 t1)).get? a = some { cls := .type "set", dict := none, data := .set es1 (ep + 1) t1 } := by
      have := Heap.get?_update_self (Obj.putSet es1 t1) ho (by rw [putSet_of es1 t1 rfl]; rfl)
      rw [putSet_of es1 t1 rfl] at this; exact this
    have hsb1 := Heap.SameBut.update s.heap a (Obj.putSet es1 t1)
    have hend : ∀ h', Heap.SameBut a s.heap h' → SetW w a (ns ++ [v]) h' → Q true { s with heap := h' } := by
      intro h' hsb hS'
      have := h h' hsb
      rw [if_neg hnn, show decide (v ∉ ns) = true by simp [hnn]] at this
      exact this hS'
    by_cases ht : t1.tooFull = true
    · have hm : (∃ m, SetTable.sizeAbove (SetTable.grown es1.size) = m + 1 ∧ (m = 31 ∨ m = 127) ∧ (m = 31 → es1.size ≤ 18)) := by
        have h20 := ok1.small
        simp only [SetTable.tooFull, SetTable.fill, ok1.dum, ok1.size, decide_eq_true_eq, Array.size_empty, Nat.add_zero, ge_iff_le] at ht
        rcases ok1.st with ⟨m, _⟩ | ⟨m | m, _⟩
        · rw [m] at ht
          have := sm.1 (by rw [← hm1]; exact m)
          have e5 : es1.size = 5 := by omega
          exact ⟨31, by rw [e5]; decide, .inl rfl, fun _ => by omega⟩
        · rw [m] at ht
          have := sm.2 (by rw [← hm1]; exact m)
          have e5 : es1.size = 19 := by omega
          exact ⟨127, by rw [e5]; decide, .inr rfl, fun z => by omega⟩
        · rw [m] at ht; omega
      obtain ⟨m, hw, hmm, hsmall⟩ := hm
      obtain ⟨es2, t2, hR, ok2, hsz2, hm2, hf2⟩ := ok1.relay hw hmm
      have hp2 := relayAll_perm t1 es1 (SetTable.grown es1.size)
      rw [hR] at hp2
      dsimp only at hp2
      have hb2 : es2.size < scanBound := by rw [hsz2]; exact hb1
      simp only [ht, Bool.not_false, Bool.and_self, ↓reduceIte, hR]
      refine wpAny_bind ?_
      refine wpAny_pure (a := ()) ?_
      refine wpAny_bind (wpAny_storeSet_of ho1 rfl ?_ (fits_of_scanBound hb2))
      have ho2 : ((s.heap.update a (Obj.putSet es1 t1)).update a (Obj.putSet es2 t2)).get? a = some { cls := .type "set", dict := none, data := .set es2 (ep + 1 + 1) t2 } := by
        have := Heap.get?_update_self (Obj.putSet es2 t2) ho1 (by rw [putSet_of es2 t2 rfl]; rfl)
        rw [putSet_of es2 t2 rfl] at this; exact this
      refine wpAny_pure (wpAny_pure (hend _ (hsb1.trans (Heap.SameBut.update _ a _)) ⟨es2, _, t2, ho2, ok2, ⟨fun z => ?_, fun z => ?_⟩, hf2, fun e he => hi1 e (hp2.mem_iff.mp he), (hp2.map (·.1)).trans pm1⟩))
      · rw [hm2] at z; omega
      · rw [hsz2]; exact hsmall (by rw [← hm2]; exact z)
    · have ht' : t1.tooFull = false := by cases hq : t1.tooFull <;> simp_all
      simp only [ht', Bool.and_false, Bool.false_eq_true, ↓reduceIte]
      refine wpAny_pure (wpAny_pure (hend _ hsb1 ⟨es1, _, t1, ho1, ok1, ⟨fun z => ?_, fun z => ?_⟩, hf1, hi1, pm1⟩))
      · simp only [SetTable.tooFull, SetTable.fill, ok1.dum, ok1.size, decide_eq_false_iff_not, Array.size_empty, Nat.add_zero, ge_iff_le, z] at ht'
        omega
      · simp only [SetTable.tooFull, SetTable.fill, ok1.dum, ok1.size, decide_eq_false_iff_not, Array.size_empty, Nat.add_zero, ge_iff_le, z] at ht'
        omega
end
end L2
namespace L2
open PySem PySem.Spec PyProof.Rows PySem.W
theorem entry_set_iterW : entryFor table "set.__iter__" = some Builtin.«frozenset.__iter__» := entryFor_alias (id' := "frozenset.__iter__") (by kernel_rfl) rfl (by decide +kernel) (by kernel_rfl)
theorem slot_si_next : Slot "set_iterator" "__next__" "set_iterator.__next__" :=
  .of (owner := "set_iterator") (n := "__next__") (by rw [typeLookup_type, builtinLookup_eq_fast]; kernel_rfl) (by decide +kernel) (by decide +kernel) (by decide +kernel)
    (by first | exact .inl (by decide +kernel) | exact .inr (by decide +kernel)) (by rw [isSubtype_type]; kernel_rfl)
theorem entry_si_next : entryFor table "set_iterator.__next__" = some Builtin.«set_iterator.__next__» := entryFor_of_tree (by kernel_rfl)
theorem args_si_next (a : Value) : argsOk "set_iterator.__next__" ⟨[a], []⟩ := by unfold argsOk; kernel_rfl
theorem slot_si_iter : Slot "set_iterator" "__iter__" "set_iterator.__iter__" :=
  .of (owner := "set_iterator") (n := "__iter__") (by rw [typeLookup_type, builtinLookup_eq_fast]; kernel_rfl) (by decide +kernel) (by decide +kernel) (by decide +kernel)
    (by first | exact .inl (by decide +kernel) | exact .inr (by decide +kernel)) (by rw [isSubtype_type]; kernel_rfl)
theorem entry_si_iter : entryFor table "set_iterator.__iter__" = some Builtin.«dict_keyiterator.__iter__» := entryFor_alias (id' := "dict_keyiterator.__iter__") (by kernel_rfl) rfl (by decide +kernel) (by kernel_rfl)
theorem args_si_iter (a : Value) : argsOk "set_iterator.__iter__" ⟨[a], []⟩ := by unfold argsOk; kernel_rfl
/-- the order in which the members are walked -/
noncomputable def ordW (w : World) (a : Addr) (ep : Nat) (es : Array (Int × Value)) : List Value :=
  if w.params.followText "set-order" then (pickOrder (w.params.setOrder a ep) es).toList.map (·.2) else es.toList.map (·.2)
theorem ordW_perm (w : World) (a : Addr) (ep : Nat) (es : Array (Int × Value)) : (ordW w a ep es).Perm (es.toList.map (·.2)) := by
  unfold ordW
  split
  · exact (pickOrder_perm _ _).map _
  · exact .rfl
structure ItW (w : World) (I a : Addr) (es : Array (Int × Value)) (ep : Nat) (t : SetTable) (i : Nat) (h : Heap) : Prop where
  it : ∃ slot : Nat, h.get? I = some { cls := .type "set_iterator", dict := none, data := .fields #[.int slot 0, .int i 0, .ref a, .int es.size 0, .int ep 0], slots := #[] } ∧
    (w.params.followText "set-order" = false → (∀ k, k < i → t.place.getD k 0 < slot) ∧ (i < t.place.size → slot ≤ t.place.getD i 0))
  st : h.get? a = some { cls := .type "set", dict := none, data := .set es ep t }
section
variable {prog : Program} {w : World} {A : Around} {E : Value → Shared → Prop} {s : Shared} {I a : Addr} {es : Array (Int × Value)} {ep : Nat} {t : SetTable} {i : Nat}
theorem wp_setsByText {Q : Bool → Shared → Prop} (h : Q (w.params.followText "set-order") s) : wpAny (model prog w) A setsByText Q E s := by
  unfold setsByText
  exact wpAny_bind (wpAny_askSetting (wpAny_pure h))
theorem wp_iterW {ns : List Int} {Q : Value → Shared → Prop} (ho : s.heap.get? a = some { cls := .type "set", dict := none, data := .set es ep t }) (ok : TabOk (!w.params.followText "set-order") es t) (hf : t.fits es.size = true)
    (hQ : Q (.ref s.heap.objs.size) { s with heap := s.heap.push { cls := .type "set_iterator", data := .fields #[.int 0 0, .int 0 0, .ref a, .int es.size 0, .int ep 0] } }) : wpAny (model prog w) A (pyIter (.ref a)) Q E s := by
  have hT : s.TypeIs (.ref a) "set" := ⟨_, ho, rfl⟩
  refine wpAny_pyIter_slot hT F.slot_set_iter (wpAny_call_entry F.slot_set_iter hT entry_set_iterW ?_ (F.args_set_iter_1 _))
  unfold Builtin.«frozenset.__iter__» Builtin.Frozenset.slot0 slotArgs
  simp only [List.isEmpty_nil, Bool.not_true, Bool.false_eq_true, ↓reduceIte, bind_assoc, List.length_nil, bne_self_eq_false]
  unfold Builtin.Frozenset.addrOf Builtin.Frozenset.sizeOf
  refine wpAny_bind (wpAny_pure ?_)
  try dsimp only
  refine wpAny_bind (wpAny_pure ?_)
  refine wpAny_bind (wpAny_bind (wpAny_setEntries_of ho rfl hf (wpAny_pure ?_)))
  refine wpAny_bind ?_
  unfold setDrawn
  refine wpAny_bind (wpAny_setState_of ho rfl hf ?_)
  dsimp only
  refine wpAny_bind (wp_setsByText (wpAny_pure ?_))
  have hdr : (!w.params.followText "set-order" && (!t.plain && decide (es.size > 1))) = false := by rw [ok.pl]; simp
  show wpAny _ _ (if (!w.params.followText "set-order" && (!t.plain && decide (es.size > 1))) = true then _ else _) _ _ _
  rw [hdr]
  simp only [Bool.false_eq_true, if_false]
  refine wpAny_bind (wpAny_pure ?_)
  refine wpAny_bind (wpAny_setEpoch_of ho rfl hf ?_)
  refine wpAny_bind (wpAny_newObj_type (wpAny_pure ⟨_, rfl, "set_iterator", _, ⟨_, Heap.get?_push_size _ rfl, rfl⟩, slot_si_next.lookup, ?_⟩))
  simpa [rawInt] using hQ
theorem wp_setNextW {Q : Option (Value × Nat) → Shared → Prop} {slot : Nat} (ho : s.heap.get? a = some { cls := .type "set", dict := none, data := .set es ep t }) (ok : TabOk (!w.params.followText "set-order") es t) (hf : t.fits es.size = true)
    (hs : w.params.followText "set-order" = false → (∀ k, k < i → t.place.getD k 0 < slot) ∧ (i < t.place.size → slot ≤ t.place.getD i 0)) (hi : i ≤ es.size)
    (h1 : ∀ v nx, (ordW w a ep es)[i]? = some v → (w.params.followText "set-order" = false → (∀ k, k < i + 1 → t.place.getD k 0 < nx) ∧ (i + 1 < t.place.size → nx ≤ t.place.getD (i + 1) 0)) → Q (some (v, nx)) s)
    (h2 : i = es.size → Q none s) : wpAny (model prog w) A (setNext a slot i ep) Q E s := by
  unfold setNext
  refine wpAny_bind (wpAny_setState_of ho rfl hf ?_)
  dsimp only
  refine wpAny_bind (wp_setsByText ?_)
  cases hb : w.params.followText "set-order" with
  | true =>
    simp only [bne_self_eq_false, Bool.false_eq_true, ↓reduceIte]
    try refine wpAny_bind (wpAny_pure ?_)
    unfold setWalk
    refine wpAny_bind (wpAny_bind (wpAny_setState_of ho rfl hf ?_))
    dsimp only
    refine wpAny_bind (wp_setsByText ?_)
    rw [hb]
    simp only [↓reduceIte]
    refine wpAny_bind (wpAny_askSetting (wpAny_pure (wpAny_pure ?_)))
    have hl : (pickOrder (w.params.setOrder a ep) es).size = es.size := by
      rw [← Array.length_toList, (pickOrder_perm _ _).length_eq, Array.length_toList]
    show Q (((pickOrder (w.params.setOrder a ep) es)[i]?).map fun e => (e.2, slot)) s
    rcases Nat.lt_or_ge i es.size with hlt | hge
    · have hlt' : i < (pickOrder (w.params.setOrder a ep) es).size := by omega
      rw [Array.getElem?_eq_getElem hlt']
      refine h1 _ slot ?_ (fun z => by rw [hb] at z; cases z)
      unfold ordW
      rw [if_pos hb, List.getElem?_map, Array.getElem?_toList, Array.getElem?_eq_getElem hlt']
      rfl
    · rw [Array.getElem?_eq_none (by omega)]
      exact h2 (by omega)
  | false =>
    simp only [Bool.false_eq_true, ↓reduceIte]
    have hld : t.led = true := by rw [ok.led, hb]; rfl
    obtain ⟨s1, s2⟩ := hs hb
    have hdr : (!t.plain && decide (es.size > 1)) = false := by rw [ok.pl]; simp
    show wpAny _ _ (if (!t.plain && decide (es.size > 1)) = true then _ else _) _ _ _
    rw [hdr]
    simp only [Bool.false_eq_true, ↓reduceIte]
    show wpAny _ _ ((if (!t.led && !es.isEmpty) = true then _ else pure ()) >>= _) _ _ _
    rw [show (!t.led && !es.isEmpty) = false by rw [hld]; rfl]
    simp only [Bool.false_eq_true, ↓reduceIte]
    refine wpAny_bind (wpAny_pure (wpAny_pure ?_))
    have hbl : SetTable.below t.place slot = i := below_eq (rise_of ok.rise) (by rw [ok.size]; exact hi) s1 s2
    rw [hbl]
    rcases Nat.lt_or_ge i es.size with hlt | hge
    · have hlt' : i < t.place.size := by rw [ok.size]; exact hlt
      rw [Array.getElem?_eq_getElem hlt, Array.getElem?_eq_getElem hlt']
      have eg : t.place.getD i 0 = t.place[i] := by simp [Array.getD, hlt']
      refine h1 _ _ ?_ (fun _ => ⟨fun k hk => ?_, fun hk => ?_⟩)
      · unfold ordW
        rw [if_neg (by rw [hb]; simp), List.getElem?_map, Array.getElem?_toList, Array.getElem?_eq_getElem hlt]
        rfl
      · by_cases e : k = i
        · subst e; omega
        · have := rise_of ok.rise k i (by omega) hlt'
          omega
      · have := rise_of ok.rise i (i + 1) (by omega) hk
        omega
    · rw [Array.getElem?_eq_none hge]
      exact h2 (by omega)
theorem wp_nextW {Q : Option Value → Shared → Prop} (ok : TabOk (!w.params.followText "set-order") es t) (hf : t.fits es.size = true) (hIa : a ≠ I) (hh : A.handled = none) (hit : ItW w I a es ep t i s.heap) (hi : i ≤ es.size)
    (h1 : ∀ v h', (ordW w a ep es)[i]? = some v → ItW w I a es ep t (i + 1) h' → Heap.SameBut I s.heap h' → Q (some v) { s with heap := h' })
    (h2 : i = es.size → ∀ h', Heap.ExtBut I s.heap h' → Q none { s with heap := h' }) : wpAny (model prog w) A (pyNext (.ref I)) Q E s := by
  obtain ⟨⟨slot, ho, hsl⟩, hst⟩ := hit
  have hT : s.TypeIs (.ref I) "set_iterator" := ⟨_, ho, rfl⟩
  unfold pyNext
  refine wpAny_bind (wpAny_attempt (wpAny_callSpecial?_slot (name := Str.ofString "__next__") hT slot_si_next (wpAny_call_entry slot_si_next hT entry_si_next ?_ (args_si_next _))))
  unfold Builtin.«set_iterator.__next__»
  refine wpAny_bind (wpAny_pure ?_)
  refine wpAny_bind (wpAny_fieldsOf ho rfl ?_)
  dsimp only
  refine wpAny_bind (wpAny_setEntries_of hst rfl hf ?_)
  simp only [bne_self_eq_false, Bool.false_eq_true, ↓reduceIte]
  try refine wpAny_bind (wpAny_pure ?_)
  refine wpAny_bind ?_
  simp only [Int.toNat_natCast]
  refine wp_setNextW hst ok hf hsl hi (fun v nx hv hnx => ?_) (fun he => ?_)
  · dsimp only
    refine wpAny_bind (wpAny_setField_rec ho (by simp) fun h3 g3 sb3 => ?_)
    refine wpAny_bind (wpAny_setField_rec (s := { s with heap := h3 }) g3 (by simp) fun h4 g4 sb4 => ?_)
    refine wpAny_pure ⟨_, rfl, wpAny_pure (h1 v h4 hv ⟨⟨nx, ?_, hnx⟩, ?_⟩ (sb3.trans sb4))⟩
    · simpa [rawInt] using g4
    · exact (sb4.2 a hIa).trans ((sb3.2 a hIa).trans hst)
  · dsimp only
    refine wpAny_bind (wpAny_setField_rec ho (by simp) fun h3 g3 sb3 => ?_)
    show wpAny _ _ (newExc (.type "StopIteration") [] >>= _) _ _ _
    refine wpAny_bind ?_
    simp only [newExc, newTuple]
    refine wpAny_bind (wpAny_newObj_type ?_ (by size_fits))
    refine wpAny_bind (m := firstArgMember _ _) (wpAny_of_eq (a := Value.none) (by first | rfl | (simp only [firstArgMember]; rfl)) ?_)
    refine wpAny_newObj_type ?_ (by size_fits)
    simp only [raiseNew]
    refine wpAny_bind (wpAny_handled ?_)
    rw [show A.in1.handled = none from hh]
    refine wpAny_bind (wpAny_pure (wpAny_throw ?_))
    refine wpAny_bind (wpAny_isInstance (T := "StopIteration") (b := true) ⟨_, Heap.get?_push_size _ rfl, rfl⟩ isSubtype_stop ?_)
    exact wpAny_pure (h2 he _ ((sb3.extBut.push _).push _))
theorem walksW (ok : TabOk (!w.params.followText "set-order") es t) (hf : t.fits es.size = true) (hh : A.handled = none) (hIa : a ≠ I) :
    Walks prog w A I [I, a] [I] es.size (fun i v => (ordW w a ep es)[i]? = some v) (ItW w I a es ep t) where
  sub := fun b hb => by simp at hb; simp [hb]
  frame := fun _ _ _ st hk => ⟨let ⟨sl, q, z⟩ := st.it; ⟨sl, hk I (by simp) _ q, z⟩, hk a (by simp) _ st.st⟩
  item := fun i s Q E hi st hQ => wp_nextW ok hf hIa hh st (Nat.le_of_lt hi) (fun v h' hv st' sb => hQ v h' s.toks hv st' fun b o hb e => sb.extBut b o (fun h => hb (by simp [h])) e) (fun z => absurd hi (by omega))
  done := fun s Q E st hQ => wp_nextW ok hf hIa hh st (Nat.le_refl _) (fun v h' hv _ _ => by
      have : (ordW w a ep es).length = es.size := by rw [(ordW_perm w a ep es).length_eq]; simp
      rw [List.getElem?_eq_none (by omega)] at hv; cases hv) (fun _ h' he => hQ h' s.toks fun b o hb e => he b o (fun h => hb (by simp [h])) e)
  self := fun i s Q E st hQ => by
    obtain ⟨⟨sl, q, z⟩, _⟩ := st
    have hT : s.TypeIs (.ref I) "set_iterator" := ⟨_, q, rfl⟩
    refine wpAny_pyIter_slot hT slot_si_iter (wpAny_call_entry slot_si_iter hT entry_si_iter ?_ (args_si_iter _))
    show wpAny _ _ (ret (.ref I)) _ _ s
    exact wpAny_pure ⟨_, rfl, "set_iterator", _, hT, slot_si_next.lookup, hQ⟩
theorem hint_set (hT : s.TypeIs (.ref a) "set") {Q : Bool → Shared → Prop} (h : Q false s) : wpAny (model prog w) A (Builtin.List.listLengthHint (.ref a)) Q E s := by
  unfold Builtin.List.listLengthHint
  refine wpAny_bind (wpAny_specialOf hT PySem.F.slot_set_len.lookup ?_)
  generalize hid : ("set.__len__" : String) = id0
  wp_delta
  rw [show splitId id0 = some ("set", "__len__") from by subst hid; decide +kernel]
  subst hid
  refine wpAny_bind (wpAny_isInstance (T := "set") (b := true) hT (by rw [isSubtype_type]; kernel_rfl) ?_)
  refine wpAny_ite_split (fun hab => absurd hab (by decide)) (fun _ => ?_)
  refine wpAny_ite_split (fun _ => ?_) (fun hab => absurd (by decide +kernel) hab)
  refine wpAny_bind (wpAny_typeOf hT ?_)
  exact wpAny_pure h
theorem srcW (ok : TabOk (!w.params.followText "set-order") es t) (hf : t.fits es.size = true) : KdlSrc prog w "set" a a es.size (fun i v => (ordW w a ep es)[i]? = some v) (fun h => h.get? a = some { cls := .type "set", dict := none, data := .set es ep t }) where
  type := fun _ ho => ⟨_, ho, rfl⟩
  there := fun _ ho => ⟨Heap.lt_size ho, Heap.lt_size ho⟩
  keep := fun _ _ ho hk => hk a (.inl rfl) _ ho
  notList := by decide
  notTuple := by decide
  hint := fun _ _ _ _ ho hq => hint_set ⟨_, ho, rfl⟩ hq
  iter := fun _ _ hh ho => ⟨_, _, (fun _ _ hq => wp_iterW (ns := []) ho ok hf hq), walksW ok hf hh (Nat.ne_of_lt (Heap.lt_size ho)), ⟨⟨0, Heap.get?_push_size _ rfl, fun _ => ⟨fun k hk => absurd hk (Nat.not_lt_zero _), fun _ => Nat.zero_le _⟩⟩, Heap.get?_push_of_some _ ho⟩⟩
end
end L2
namespace L2
open PySem PySem.Spec PyProof.Rows PySem.W
section
variable {prog : Program} {w : World} {A : Around} {R : Result → Shared → Prop} {I : Addr} {fp wr : List Addr} {G : Array GenState → Array GenState → Prop} {n : Nat} {P : Nat → Value → Prop} {St : Nat → Shared → Prop}
theorem SetW.stay {a : Addr} {ns : List Int} {h h' : Heap} (x : SetW w a ns h) (k : ∀ o, h.get? a = some o → h'.get? a = some o) : SetW w a ns h' := by
  obtain ⟨es, ep, t, ho, r⟩ := x
  exact ⟨es, ep, t, k _ ho, r⟩
theorem code_loopW (W : WalksS prog w A.in1 I fp wr G n P St) (S : Addr) (hSf : S ∉ fp) (val : Nat → Int) (hval : ∀ i v, P i v → ∃ t, v = .int (val i) t) (hrg : ∀ i, i < n → 0 ≤ val i ∧ val i < 20) :
    ∀ (k i : Nat) (s : Shared), n - i = k → i ≤ n → St i s → SetW w S (firstMet val i) s.heap →
      (∀ s', Moved (S :: wr) G s s' → SetW w S (firstMet val n) s'.heap → R (.ok (.ret .none)) s') →
      codeAny (model prog w) A (.builtin "set.update.loop" ⟨[.ref S, .ref I], []⟩) R s := by
  have hSw : S ∉ wr := fun h => hSf (W.sub _ h)
  have hsub : ∀ b ∈ wr, b ∈ S :: wr := fun b hb => List.mem_cons_of_mem _ hb
  intro k
  induction k with
  | zero =>
    intro i s hk hi hst hS hR
    have hin : i = n := by omega
    subst hin
    refine codeAny_builtin PyProof.Rows.F.entry_set_update_loop ?_
    rw [Around.under_plainId PyProof.Rows.F.plain_set_update_loop _]
    show wpAny _ A.in1 (pyNext (.ref I) >>= _) _ _ s
    refine wpAny_bind (W.done s _ _ hst fun s' hm => ?_)
    show wpAny _ A.in1 (ret Value.none) _ _ s'
    exact wpAny_pure (hR s' (hm.mono hsub) (hS.stay fun o e => hm.heap S _ hSw e))
  | succ k ih =>
    intro i s hk hi hst hS hR
    have hlt : i < n := by omega
    refine codeAny_builtin PyProof.Rows.F.entry_set_update_loop ?_
    rw [Around.under_plainId PyProof.Rows.F.plain_set_update_loop _]
    show wpAny _ A.in1 (pyNext (.ref I) >>= _) _ _ s
    refine wpAny_bind (W.item i s _ _ hlt hst fun v s' hP hst' hm => ?_)
    obtain ⟨t, rfl⟩ := hval i v hP
    have hS' : SetW w S (firstMet val i) s'.heap := hS.stay fun o e => hm.heap S _ hSw e
    show wpAny _ A.in1 (holding [Value.int (val i) t] (setAdd S (.int (val i) t)) >>= _) _ _ s'
    refine wpAny_bind (wpAny_holding ?_)
    unfold setAdd
    refine wpAny_holding ?_
    refine wpAny_bind ((intKind prog w).pyHash (k := val i) (intW_is _ _ _ _) ?_)
    refine wp_setAddW (s := { s' with toks := s'.toks + 1 }) hS' (hrg i hlt).1 (hrg i hlt).2 fun h' hsb hS2 => ?_
    have hSi : SetW w S (firstMet val (i + 1)) h' := by
      have e : firstMet val (i + 1) = if val i ∈ firstMet val i then firstMet val i else firstMet val i ++ [val i] := by
        rw [firstMet_succ]
        unfold step_dedup
        by_cases hm : val i ∈ firstMet val i
        · rw [if_pos hm, if_pos (by simpa using hm)]
        · rw [if_neg hm, if_neg (by simpa using hm)]
      rw [e]; exact hS2
    refine wpAny_pure ⟨plainId_quiet PyProof.Rows.F.plain_set_update_loop _, ih (i + 1) _ (by omega) hlt (W.frame _ s' _ _ hst' (Nat.le_succ _) fun b hb o e => ?_) hSi fun s'' hm'' hS'' => ?_⟩
    · rw [hsb.2 b (fun h : b = S => hSf (by rw [← h]; exact hb))]; exact e
    · refine hR s'' (Moved.trans W.gtrans ((hm.mono hsub).then_heap (Nat.le_succ _) fun b o hb e => ?_) hm'') hS''
      rw [hsb.2 b (fun h : b = S => hb (by rw [h]; exact List.mem_cons_self))]; exact e
end
noncomputable def freshSet (w : World) : Obj := { cls := .type "set", dict := none, data := .set #[] 0 (.fresh 0 0 (!w.params.followText "set-order")) }
section
variable {prog : Program} {w : World} {A : Around} {E : Value → Shared → Prop} {s : Shared}
theorem code_newW (a : Value) {Q₁ : Value → Shared → Prop} (h : Q₁ (.ref s.heap.objs.size) { s with heap := s.heap.push (freshSet w) }) :
    codeAny (model prog w) A (.call (.builtin "set.__new__") ⟨[.type "set", a], []⟩) (wants Q₁ E) s := by
  refine codeAny_of_tree ?_
  show wpAny _ A.in1 (do checkBuiltinCall "set.__new__" ⟨[.type "set", a], []⟩; again (.builtin "set.__new__" ⟨[.type "set", a], []⟩)) _ _ s
  refine wpAny_bind (wpAny_of_eq (PySem.F.newCall_set_1 a) (wpAny_pure ⟨plainId_quiet PySem.F.plain_set_new _, codeAny_builtin PySem.F.entry_set_new ?_⟩))
  rw [Around.under_plainId PySem.F.plain_set_new _]
  unfold Builtin.«set.__new__» Builtin.Frozenset.newClass
  have hsub := sub_set_self
  obtain ⟨hp, g, d, tk, os⟩ := s
  dsimp only
  wp_walk
  refine wpAny_askSetting (wpAny_pure ?_)
  dsimp only
  simp only [newObj]
  refine wpAny_bind (wpAny_alloc (wpAny_pure ?_))
  exact wpAny_pure h
set_option maxHeartbeats 3200000 in
theorem call_set_listW {l : Addr} {items : Array Value} {ns : List Int} {Q : Value → Shared → Prop}
    (hh : A.handled = none) (hl : s.heap.IsList l items) (hi : PyProof.Rows.IntsAre items.toList ns) (hrg : ∀ n ∈ ns, 0 ≤ n ∧ n < 20)
    (h : ∀ (h' : Heap) (tk : Nat), SetW w s.heap.objs.size (firstMet (fun i => ns.getD i 0) items.size) h' →
      (∀ b o, b < s.heap.objs.size → s.heap.get? b = some o → h'.get? b = some o) → Q (.ref s.heap.objs.size) { s with heap := h', toks := tk }) :
    wpAny (model prog w) A (call (.type "set") [.ref l]) Q E s := by
  obtain ⟨c, tl, hmro⟩ := PySem.F.called_set.mro
  have hmade := PySem.F.called_set.made
  have hsub := PySem.F.called_set.sub
  refine wpAny_call (codeAny_of_tree ?_)
  show wpAny _ _ (callAny (.type "set") _) _ _ _
  refine wpAny_pure ⟨Code.quiet_builtin _ (by decide +kernel), codeAny_builtin PySem.F.entry_type_call ?_⟩
  rw [Around.under_plain (weight_type_call_type "set" [.ref l] []) rfl]
  have h1 := PySem.F.called_set.notType
  have h2 := PySem.F.called_set.canCreate
  have hct := PySem.F.typeCall_set_1 (.ref l)
  repeat (any_goals (first | assumption | wp_step))
  refine codeAny_mono (code_newW (.ref l) (E := E) (Q₁ := fun obj s₁ => obj = .ref s.heap.objs.size ∧ s₁ = { s with heap := s.heap.push (freshSet w) }) ⟨rfl, rfl⟩) fun r s₁ hr => ?_
  cases r with
  | error e => exact hr
  | ok fl =>
    cases fl with
    | ret obj =>
      obtain ⟨rfl, rfl⟩ := hr
      have hS : (s.heap.push (freshSet w)).get? s.heap.objs.size = some (freshSet w) := Heap.get?_push_size _ rfl
      have hT : Shared.TypeIs { s with heap := s.heap.push (freshSet w) } (.ref s.heap.objs.size) "set" := ⟨_, hS, rfl⟩
      have hli := PySem.F.called_set.init.lookup
      have hbi := PySem.F.called_set.init.bind (.ref s.heap.objs.size)
      repeat (any_goals (first | assumption | wp_step))
      refine codeAny_mono (codeAny_call_builtin (R := wants (fun r s₂ => r = .none ∧ ∃ h' tk, s₂ = { s with heap := h', toks := tk } ∧
          SetW w s.heap.objs.size (firstMet (fun i => ns.getD i 0) items.size) h' ∧
          (∀ b o, b < s.heap.objs.size → s.heap.get? b = some o → h'.get? b = some o)) E) PySem.F.called_set.init.plain PySem.F.entry_set_init (check_set_init_1 hT ?_)) fun r₂ s₂ hr₂ => ?_
      · obtain ⟨ol, hol, hcl, nl, hdl⟩ := hl
        obtain ⟨ocls, odict, odata, oslots⟩ := ol
        simp only at hcl hdl
        subst hcl; subst hdl
        have hol' : (s.heap.push (freshSet w)).get? l = some { cls := .type "list", dict := odict, data := .seq items nl, slots := oslots } := Heap.get?_push_of_some _ hol
        have hsls := PySem.F.sub_list_set
        have hslf := PySem.F.sub_list_frozenset
        have hne : (Value.type "list" == Value.type "dict") = false := by decide
        have hl1 : (s.heap.push (freshSet w)).IsList l items := ⟨_, hol', rfl, nl, rfl⟩
        unfold Builtin.«set.__init__» noKeywords Builtin.Frozenset.updateFrom
        generalize hPI : pyIter = PI
        unfold freshSet at *
        wp_walk
        subst hPI
        refine wpAny_pyIter_list hl1 ?_
        refine wpAny_bind (wpAny_runValue ?_)
        have hlS : l < s.heap.objs.size := Heap.lt_size hol
        have hh3 : A.in1.in1.in1.handled = none := by simp [hh]
        have hneI : l ≠ (s.heap.push (freshSet w)).objs.size := by
          rw [Heap.size_push]; exact Nat.ne_of_lt (Nat.lt_succ_of_lt hlS)
        have hSf : s.heap.objs.size ∉ [(s.heap.push (freshSet w)).objs.size, l] := by
          rw [Heap.size_push]; simp only [List.mem_cons, List.mem_singleton, List.not_mem_nil, or_false, not_or]
          exact ⟨Nat.ne_of_lt (Nat.lt_succ_self _), Nat.ne_of_gt hlS⟩
        have hval : ∀ (i : Nat) (v : Value), items[i]? = some v → ∃ t, v = .int ((fun i => ns.getD i 0) i) t := fun i v hv =>
          PyProof.Rows.IntsAre.int_at hi i v (by rw [Array.getElem?_toList]; exact hv)
        have hlen : ns.length = items.size := by have := hi.length; simp at this; omega
        refine code_loopW ((Walks.list hh3 _ l hneI items).toS) s.heap.objs.size
          hSf (fun i => ns.getD i 0) hval (fun i hi => hrg _ (by rw [List.getD_eq_getElem?_getD, List.getElem?_eq_getElem (by omega)]; exact List.getElem_mem _)) (items.size - 0) 0 _ (by omega) (Nat.zero_le _)
          ⟨⟨_, Heap.get?_push_size _ rfl, rfl, rfl⟩, (hl1.push _)⟩ ?hS0 ?hR
        case hS0 =>
          refine ⟨#[], 0, _, Heap.get?_push_of_some _ hS, ⟨rfl, by simp [SetTable.fresh], rfl, rfl, rfl, by simp, by simp, .inl ⟨rfl, by simp [SetTable.fresh]⟩⟩, ⟨fun _ => by simp, fun _ => by simp⟩, by rfl, by simp, by simp [firstMet_zero]⟩
        case hR =>
          intro s' hm hS'
          obtain ⟨h', g', d', tk', os'⟩ := s'
          have eg : g' = s.gens := hm.gens
          have ed : d' = s.drawn := hm.drawn
          have eo : os' = s.os := hm.os
          subst eg; subst ed; subst eo
          show wpAny _ _ _ _ _ _
          refine wpAny_pure ?_
          show wpAny _ _ (ret Value.none) _ _ _
          refine wpAny_pure ⟨rfl, h', tk', rfl, hS', fun b o hb e => ?_⟩
          have hb1 : b ≠ s.heap.objs.size := Nat.ne_of_lt hb
          have hb2 : b ≠ (s.heap.push (freshSet w)).objs.size := by
            rw [Heap.size_push]; exact Nat.ne_of_lt (Nat.lt_succ_of_lt hb)
          exact hm.heap b o (by simp only [List.mem_cons, List.mem_singleton, List.not_mem_nil, or_false, not_or]; exact ⟨hb1, hb2⟩) (Heap.get?_push_of_some _ (Heap.get?_push_of_some _ e))
      · cases r₂ with
        | error e => exact hr₂
        | ok fl₂ =>
          cases fl₂ with
          | ret r =>
            obtain ⟨rfl, h', tk, rfl, hS', hk'⟩ := hr₂
            repeat (any_goals (first | assumption | wp_step))
            exact h _ _ hS' hk'
          | _ => exact hr₂.elim
    | _ => exact hr.elim
end
end L2
namespace L2
open PySem PySem.Spec PyProof.Rows PySem.W
noncomputable def ivW : Value → Int
  | .int n _ => n
  | _ => 0
theorem ints_ivW : ∀ (vs : List Value), (∀ v ∈ vs, ∃ n t, v = .int n t) → IntsAre vs (vs.map ivW)
  | [], _ => .nil
  | v :: vs, h => by
    obtain ⟨n, t, rfl⟩ := h v (.head _)
    exact .cons n t (ints_ivW vs fun u hu => h u (.tail _ hu))
section
variable {prog : Program} {w : World} {A : Around} {E : Value → Shared → Prop} {s : Shared} {a : Addr} {ds : List Int}
theorem sortedW {Q : Value → Shared → Prop} (hh : A.handled = none) (hS : SetW w a ds s.heap)
    (h : ∀ (h1 h' : Heap) (tk : Nat) (out : Array Value) (e : Nat) (ns' : List Int), (∀ b o, s.heap.get? b = some o → h1.get? b = some o) → (∀ b o, h1.get? b = some o → h'.get? b = some o) → h'.get? h1.objs.size = some (seqObj "list" out e) →
      IntsAre out.toList ns' → ns'.Perm ds → ns'.Pairwise (· ≤ ·) → Q (.ref h1.objs.size) { s with heap := h', toks := tk }) :
    wpAny (model prog w) A (call (.builtin "sorted") [.ref a]) Q E s := by
  obtain ⟨es, ep, t, ho, ok, sm, hf, hi, pm⟩ := hS
  have h20 := ok.small
  refine Calls.call_function_entry kind_sorted plain_sorted entry_sorted (args_sorted1 _) ?_
  unfold Builtin.«sorted»
  refine wpAny_bind (m := checkCount "sorted" 1 1 _) (wpAny_pure ?_)
  refine wpAny_bind (kdu_collect (A := A.in1) (srcW (ep := ep) ok hf) hh ho (by rw [sizeLine_eq]; omega) fun h' tk acc hk hacc => ?_)
  have hlo : (ordW w a ep es).length = es.size := by rw [(ordW_perm w a ep es).length_eq]; simp
  have hacc' : acc.toList = ordW w a ep es := by
    apply List.ext_getElem?
    intro j
    rcases Nat.lt_or_ge j es.size with hj | hj
    · have hj' : j < acc.size := by rw [hacc.1]; exact hj
      rw [Array.getElem?_toList, hacc.2 j _ (Array.getElem?_eq_getElem hj'), Array.getElem?_eq_getElem hj']
    · rw [List.getElem?_eq_none (by rw [Array.length_toList, hacc.1]; exact hj), List.getElem?_eq_none (by omega)]
  have hall : ∀ v ∈ acc.toList, ∃ n t, v = .int n t := by
    intro v hv
    rw [hacc'] at hv
    obtain ⟨e, he, rfl⟩ := List.mem_map.mp ((ordW_perm w a ep es).mem_iff.mp hv)
    obtain ⟨tk, z⟩ := hi e he
    exact ⟨_, tk, z⟩
  have hI := ints_ivW acc.toList hall
  have hp : (acc.toList.map ivW).Perm ds := by
    rw [hacc']
    refine ((ordW_perm w a ep es).map ivW).trans ?_
    rw [List.map_map]
    refine List.Perm.trans (.of_eq ?_) pm
    exact List.map_congr_left fun e he => by
      obtain ⟨tk, z⟩ := hi e he
      show ivW e.2 = e.1
      rw [z]; rfl
  have hl : acc.toList.length = es.size := by rw [Array.length_toList]; exact hacc.1
  refine wpAny_bind (wpAny_newList ?_ (by rw [hl, sizeLine_eq]; omega))
  have hoL : (h'.push (seqObj "list" acc.toList.toArray 0)).get? h'.objs.size = some (seqObj "list" acc.toList.toArray 0) := Heap.get?_push_size _ rfl
  refine wpAny_bind (wpAny_holding (wpAny_call_entry slot_list_sort ⟨_, hoL, rfl⟩ entry_list_sort (list_sort_tree hoL hI (by omega) fun out ns' a1 a2 a3 => ⟨_, rfl, ?_⟩) (args_list_sort _)))
  obtain ⟨e, he⟩ := sortedHeap_at (out := out) hoL
  refine wpAny_pure ⟨_, rfl, h h' _ _ out e ns' hk (fun b o hb' => ?_) he a1 (a2.trans hp) a3⟩
  exact (sortedHeap_old (Nat.ne_of_lt (Heap.lt_size hb')) (by rw [size_push']; exact Nat.lt_succ_of_lt (Heap.lt_size hb'))).trans (Heap.get?_push_of_some _ hb')
end
end L2

namespace L2
open PySem PySem.Spec PyProof.Rows PySem.W
/-- a set of whole numbers from 0 to 19, as it lies -/
noncomputable def SetO (w : World) (a : Addr) (ds : List Int) : HO := .ext (SetW w a ds)
noncomputable def rSetW (K : PySem.W.Frag) (w : World) : List V → Hp → VK → Prop := fun xs H Q => ∃ (p : Addr) (ns : List Int), xs = [.ref p] ∧ SqL K H p (ns.map V.int) ∧ (∀ n ∈ ns, 0 ≤ n ∧ n < 20) ∧
  ∀ (l : Addr) (ds : List Int), H l = none → ds.Nodup → (∀ n, n ∈ ds ↔ n ∈ ns) → Q (.ref l) (upd H l (SetO w l ds))
noncomputable def rSortW (w : World) : List V → Hp → VK → Prop := fun xs H Q => ∃ (p : Addr) (ds : List Int), xs = [.ref p] ∧ H p = some (SetO w p ds) ∧
  ∀ (l : Addr) (ms : List Int), H l = none → ms.Perm ds → ms.Pairwise (· ≤ ·) → Q (.ref l) (upd H l (.lst (ms.map V.int)))
noncomputable def tAllW (f : World → TE) : TE := fun σ H Q => ∀ w, f w σ H Q
theorem pe_allW {X : Cx} {e : Expr} {f : World → TE} (h : PE X e (f X.w)) : PE X e (tAllW f) := fun pins s σ H Q I q => h pins s σ H Q I (q X.w)
theorem met_nodup (val : Nat → Int) : ∀ i, (firstMet val i).Nodup
  | 0 => by rw [firstMet_zero]; exact List.nodup_nil
  | i + 1 => by
    rw [firstMet_succ]
    unfold step_dedup
    split
    · exact met_nodup val i
    · rename_i h
      refine List.nodup_append.mpr ⟨met_nodup val i, by simp, ?_⟩
      intro x hx y hy
      rw [List.mem_singleton] at hy
      subst hy
      intro z
      subst z
      exact h (by simpa using hx)
theorem met_mem (ns : List Int) (n : Int) : n ∈ firstMet (fun i => ns.getD i 0) ns.length ↔ n ∈ ns := by
  have h := firstMet_any (fun i => ns.getD i 0) ns.length n
  have e : ((List.range ns.length).map fun i => ns.getD i 0) = ns := by
    apply List.ext_getElem?
    intro j
    rw [List.getElem?_map]
    rcases Nat.lt_or_ge j ns.length with hj | hj
    · rw [List.getElem?_eq_getElem (by simpa using hj)]; simp [List.getD, hj]
    · rw [List.getElem?_eq_none (by simpa using hj), List.getElem?_eq_none hj]; rfl
  rw [e] at h
  constructor
  · intro hm
    have : (firstMet (fun i => ns.getD i 0) ns.length).any (fun x => x == n) = true := List.any_eq_true.mpr ⟨n, hm, by simp⟩
    rw [h] at this
    obtain ⟨x, hx, e⟩ := List.any_eq_true.mp this
    have e' : x = n := by simpa using e
    exact e' ▸ hx
  · intro hm
    have : ns.any (fun x => x == n) = true := List.any_eq_true.mpr ⟨n, hm, by simp⟩
    rw [← h] at this
    obtain ⟨x, hx, e⟩ := List.any_eq_true.mp this
    have e' : x = n := by simpa using e
    exact e' ▸ hx
section
variable {X : Cx}
theorem call_setW (hc : X.calm = true) : CallR X (.type "set") (rSetW X.K X.w) := by
  intro pins s σ H xs us Q I r h
  obtain ⟨p, ns, rfl, hS, hrg, q⟩ := h
  obtain ⟨u, rfl, ru⟩ := vals1 r
  cases ru
  obtain ⟨its, rv, pl, _⟩ := I.list hS
  have hi : IntsAre its ns := intsAre_of rv
  have hl := hi.length
  refine call_set_listW (ns := ns) (I.ok.hd hc) pl.isList hi hrg fun h' tk so kp => ?_
  have esz : its.toArray.size = ns.length := by rw [List.size_toArray, hl]
  rw [esz] at so
  refine ⟨.ref s.heap.objs.size, upd H s.heap.objs.size (SetO X.w s.heap.objs.size (firstMet (fun i => ns.getD i 0) ns.length)), ?_, rfl, q _ _ (I.hok.fresh (Nat.le_refl _)) (met_nodup _ _) (met_mem ns)⟩
  refine I.laid (t' := tk) (a := s.heap.objs.size) (o := SetO X.w s.heap.objs.size _) (fun b o he => kp b o (Heap.lt_size he) he) (Nat.le_refl _) ⟨so, ?_, fun h1 h2 x k => x.stay k⟩
  obtain ⟨es, ep, t, ho, _⟩ := so
  exact ⟨_, ho⟩
theorem call_sortW (hc : X.calm = true) : CallR X (.builtin "sorted") (rSortW X.w) := by
  intro pins s σ H xs us Q I r h
  obtain ⟨p, ds, rfl, hp, q⟩ := h
  obtain ⟨u, rfl, ru⟩ := vals1 r
  cases ru
  obtain ⟨so, _⟩ := I.hok p _ hp
  have h20 : ds.length ≤ 20 := by
    obtain ⟨es, ep, t, _, ok, _, _, _, pm⟩ := so
    have := ok.small
    have := pm.length_eq
    simp at this
    omega
  refine sortedW (I.ok.hd hc) so fun h1 h' tk out e ns' k1 k2 hl a1 a2 a3 => ?_
  have I1 := I.kept (t' := s.toks) k1
  have hf : H h1.objs.size = none := I1.hok.fresh (Nat.le_refl _)
  refine ⟨.ref h1.objs.size, _, I1.laid (t' := tk) (a := h1.objs.size) (o := .lst (ns'.map V.int)) k2 (Nat.le_refl _) ⟨?_, out.toList, e, vals_ints a1, ?_⟩, rfl, q _ ns' hf a2 a3⟩
  · rw [List.length_map, a2.length_eq]
    exact Nat.le_trans h20 (by decide)
  · rw [Array.toArray_toList]
    exact hl
end
end L2
namespace L2
open PySem PySem.Spec PyProof.Rows
end L2

set_option maxHeartbeats 4000000
namespace My
open PySem L2

local macro_rules | `(tactic| walk_at "u1") => `(tactic| first
  | with_reducible refine r_asg ?_
  | with_reducible refine r_ifs ?_
  | with_reducible refine r_ret ?_
  | with_reducible refine r_next ?_
  | with_reducible refine r_drop ?_
  | ((with_reducible show tAug _ _ _ _ _ _); refine ⟨_, rfl, ?_⟩)
  | ((with_reducible show tVar _ _ _ _); refine ⟨_, rfl, ?_⟩)
  | with_reducible refine r_c ?_
  | with_reducible refine r_op ?_
  | with_reducible refine r_un ?_
  | with_reducible refine r_neg ?_
  | with_reducible refine r_add ?_
  | with_reducible refine r_sub ?_
  | ((with_reducible show oMul _ _ _ _); first | refine r_mulL (by first | omega | decide) (by first | omega | decide) ?_ | refine r_mulR (by first | omega | decide) (by first | omega | decide) ?_)
  | ((with_reducible show oDiv _ _ _ _); refine r_div (by first | omega | decide) (by first | omega | decide) ?_)
  | ((with_reducible show oMod _ _ _ _); refine r_mod (by first | omega | decide) ?_)
  | ((with_reducible show oPow _ _ _ _); refine r_pow (by decide) (by decide) (by decide) ?_)
  | with_reducible refine r_lt ?_
  | with_reducible refine r_le ?_
  | with_reducible refine r_gt ?_
  | with_reducible refine r_ge ?_
  | with_reducible refine r_eq ?_
  | with_reducible refine r_ne ?_
  | with_reducible refine r_isN ?_
  | with_reducible refine r_notN ?_
  | with_reducible refine r_test ?_
  | with_reducible refine r_tB ?_
  | with_reducible refine r_bl ?_
  | with_reducible refine r_and ?_
  | with_reducible refine r_or ?_
  | with_reducible refine r_not ?_
  | with_reducible refine r_notV ?_
  | with_reducible refine r_andV ?_
  | with_reducible refine r_orV ?_
  | with_reducible refine r_if ?_
  | with_reducible refine r_nil ?_
  | with_reducible refine r_cons ?_
  | with_reducible refine r_call ?_
  | with_reducible refine r_cb ?_
  | with_reducible refine r_min ?_
  | with_reducible refine r_max ?_
  | with_reducible refine r_for ?_
  | with_reducible refine r_rng1 ?_
  | with_reducible refine r_rng3 ?_
  | with_reducible refine r_rng2 ?_
  | ((with_reducible show ∃ i j : Int, _ = _ ∧ _); refine r_rng2' (by first | omega | decide) (by first | omega | decide) (by first | omega | decide) (by first | omega | decide) ?_)
  | ((with_reducible show ∃ j : Int, [V.int _] = [V.int _] ∧ _); refine r_rng1' (by first | omega | decide) (by first | omega | decide) ?_)
  | with_reducible refine r_iList ?_
  | with_reducible refine r_sl ?_
  | with_reducible refine r_part ?_
  | with_reducible refine r_part' ?_
  | with_reducible refine r_noPart ?_
  | with_reducible refine r_comp ?_
  | with_reducible refine r_bm ?_
  | with_reducible refine r_bm0 ?_
  | with_reducible refine r_chain ?_)
local macro_rules | `(tactic| walk_at "o1") => `(tactic| first
  | walk_at "u1"
  | ((with_reducible show rLenL _ _ _ _); refine r_len (by assumption) ?_)
  | ((with_reducible show rSum _ _ _ _); refine r_sum (by assumption) ?_)
  | with_reducible refine r_lst ?_
  | with_reducible refine r_tup ?_
  | ((with_reducible show ∃ b : Addr, V.ref _ = V.ref _ ∧ _); refine r_iList' (by assumption) ?_)
  | ((with_reducible show rSlL _ _ _ _ _ _); refine r_slL (by assumption) ?_))
local macro_rules | `(tactic| walk_at "w") => `(tactic| repeat (first | with_reducible refine r_seq ?_ | walk_at "o1"))

local macro_rules | `(tactic| walk_at "sq") => `(tactic| first | assumption | exact SqL.of (by assumption) | exact Same.seq (by assumption) (by walk_at "sq"))
local macro_rules | `(tactic| walk_at "rows") => `(tactic| first | assumption | exact Same.rows (by assumption) (by walk_at "rows"))
local macro_rules | `(tactic| walk_at "num") => `(tactic| first | omega | decide | assumption | simp)
local macro_rules | `(tactic| walk_at "fits") => `(tactic| first | exact Nat.le_of_ble_eq_true rfl | (refine Nat.le_trans ?_ line64; simp; done) | (refine Nat.le_trans ?_ line64; simp; omega) | (refine Nat.le_trans ?_ line64; omega))
local macro_rules | `(tactic| walk_at "call") => `(tactic| fail)
local macro_rules | `(tactic| walk_at "early") => `(tactic| fail)
local macro_rules | `(tactic| walk_at "v1") => `(tactic| first
  | walk_at "early"
  | walk_at "u1"
  | with_reducible refine r_asgS ?_
  | with_reducible refine r_asgT ?_
  | ((with_reducible show rLenL _ _ _ _); refine r_len (by walk_at "sq") ?_)
  | ((with_reducible show rSum _ _ _ _); refine r_sum (by walk_at "sq") ?_)
  | with_reducible refine r_lstN ?_
  | with_reducible refine r_tupN ?_
  | ((with_reducible show newL _ _ _); refine r_newL (by walk_at "fits") ?_; intro _ _ _ _ _)
  | ((with_reducible show newT _ _ _); refine r_newT (by walk_at "fits") ?_; intro _ _ _ _ _)
  | ((with_reducible show rListOf _ _ _ _); refine r_listOfN (by walk_at "sq") ?_; intro _ _ _ _ _)
  | ((with_reducible show rIn _ false (V.int _) _ _ _); refine r_inI (by walk_at "sq") ?_)
  | ((with_reducible show rIn _ true (V.int _) _ _ _); refine r_ninI (by walk_at "sq") ?_)
  | ((with_reducible show rEqI _ false _ _ _ _); first | refine r_eqIs (by walk_at "sq") (by walk_at "sq") ?_ | refine r_eqIs (ms := []) (by walk_at "sq") (by walk_at "sq") ?_)
  | ((with_reducible show rEqI _ true _ _ _ _); first | refine r_neIs (by walk_at "sq") (by walk_at "sq") ?_ | refine r_neIs (ms := []) (by walk_at "sq") (by walk_at "sq") ?_)
  | ((with_reducible show rAll _ _ _ _); refine r_all (by walk_at "sq") ?_)
  | ((with_reducible show ∃ b : Addr, V.ref _ = V.ref _ ∧ _); refine r_iList' (by walk_at "sq") ?_)
  | with_reducible refine r_par ?_
  | with_reducible refine r_par' ?_
  | with_reducible refine r_intB ?_
  | with_reducible refine r_enum ?_
  | with_reducible refine r_zip ?_
  | ((with_reducible show ∃ a b : Addr, [V.ref _, V.ref _] = [V.ref _, V.ref _] ∧ _); refine r_zip' (by walk_at "sq") (by walk_at "sq") ?_)
  | ((with_reducible show rSlL _ _ _ _ _ _); refine r_slLN (by walk_at "sq") ?_; intro _ _ _ _ _)
  | with_reducible refine iteT ?_
  | with_reducible refine iteF ?_
  | with_reducible refine iteNT ?_
  | with_reducible refine iteNF ?_
  | walk_at "call")
local macro_rules | `(tactic| walk_at "s1") => `(tactic| repeat walk_at "v1")
local macro_rules | `(tactic| walk_at "v") => `(tactic| repeat (first | with_reducible refine r_seq ?_ | walk_at "v1"))


theorem paired_fun {α : Type} {f : α → V} : ∀ {xs : List α} {g : α → V} {ys : List V}, Paired (fun x v => ∃ p, x = g p ∧ v = f p) (xs.map g) ys → (∀ p q, g p = g q → p = q) → ys = xs.map f
  | [], _, _, .nil, _ => rfl
  | x :: r, g, _, .cons ⟨p, e, e'⟩ t, inj => by
    have := inj _ _ e
    subst this
    rw [e', paired_fun t inj]
    rfl
theorem paired_ints {α : Type} {P : α → Int → Prop} : ∀ {xs : List α} {ys : List V}, Paired (fun x v => ∃ p : Int, v = .int p ∧ P x p) xs ys → ∃ ps : List Int, ys = ps.map V.int ∧ ps.length = xs.length ∧ ∀ p ∈ ps, ∃ x ∈ xs, P x p
  | _, _, .nil => ⟨[], rfl, rfl, fun _ h => nomatch h⟩
  | x :: r, _, .cons ⟨p, e, h⟩ t => by
    obtain ⟨ps, h1, h2, h3⟩ := paired_ints t
    refine ⟨p :: ps, by rw [e, h1]; rfl, by simp [h2], fun q hq => ?_⟩
    rcases List.mem_cons.mp hq with rfl | hq
    · exact ⟨x, List.mem_cons_self, h⟩
    · obtain ⟨y, hy, z⟩ := h3 q hq
      exact ⟨y, List.mem_cons_of_mem _ hy, z⟩
theorem int_inj : ∀ p q : Int, V.int p = V.int q → p = q := fun _ _ e => V.int.inj e
theorem getInt {ns : List Int} {j : Nat} {i : Int} (h : ns[j]? = some i) : (ns.map V.int)[j]? = some (V.int i) := by
  rw [List.getElem?_map, h]
  rfl
theorem mem_ints {ns : List Int} {x : V} (h : x ∈ ns.map V.int) : ∃ i ∈ ns, x = V.int i := by
  obtain ⟨i, hi, e⟩ := List.mem_map.mp h
  exact ⟨i, hi, e.symm⟩
theorem modI (c : Int) (n : Nat) (h : 0 < n) : ∃ m : Nat, c % (n : Int) = (m : Int) ∧ m < n := ⟨(c % n).toNat, by have := Int.emod_nonneg c (show (n : Int) ≠ 0 by omega); omega, by have := Int.emod_lt_of_pos c (show (0 : Int) < n by omega); have := Int.emod_nonneg c (show (n : Int) ≠ 0 by omega); omega⟩

noncomputable def gat (ps : List Int) (L : Int) : Int := (ps.map (min · L)).sum
/-- L is the least level at which the price is gathered -/
noncomputable def IsLev (ps : List Int) (price L : Int) : Prop := 1 ≤ L ∧ price ≤ gat ps L ∧ gat ps (L - 1) < price
theorem sum_perm : ∀ {a b : List Int}, a.Perm b → a.sum = b.sum := by
  intro a b h
  induction h with
  | nil => rfl
  | cons x _ ih => simp only [List.sum_cons, ih]
  | swap x y l => simp only [List.sum_cons]; omega
  | trans _ _ i1 i2 => exact i1.trans i2
theorem gat_perm {a b : List Int} (h : a.Perm b) (L : Int) : gat a L = gat b L := sum_perm (h.map _)
theorem gat_append (a b : List Int) (L : Int) : gat (a ++ b) L = gat a L + gat b L := by
  unfold gat
  rw [List.map_append, List.sum_append]
theorem gat_cons (x : Int) (b : List Int) (L : Int) : gat (x :: b) L = min x L + gat b L := by
  unfold gat
  rw [List.map_cons, List.sum_cons]
theorem gat_small {L : Int} : ∀ {l : List Int}, (∀ y ∈ l, y ≤ L) → gat l L = l.sum
  | [], _ => rfl
  | x :: r, h => by
    have hx := h x List.mem_cons_self
    rw [gat_cons, gat_small fun y hy => h y (List.mem_cons_of_mem _ hy), List.sum_cons]
    omega
theorem gat_big {L : Int} : ∀ {l : List Int}, (∀ y ∈ l, L ≤ y) → gat l L = (l.length : Int) * L
  | [], _ => by simp [gat]
  | x :: r, h => by
    have hx := h x List.mem_cons_self
    rw [gat_cons, gat_big fun y hy => h y (List.mem_cons_of_mem _ hy), List.length_cons]
    have e : ((r.length + 1 : Nat) : Int) * L = (r.length : Int) * L + L := by
      rw [Int.natCast_add, Int.add_mul]
      simp
    rw [e]
    omega
theorem lev_found {pre post : List Int} {x m p price : Int} (hp : p = (post.length : Int) + 1) (hm : m = price - pre.sum) (hm0 : 0 < m) (hA : ∀ y ∈ pre, y * p < m) (hx : m ≤ x * p) (hpost : ∀ y ∈ post, x ≤ y) :
    IsLev (pre ++ x :: post) price ((m + p - 1) / p) := by
  have p0 : 0 < p := by omega
  have e := Int.mul_ediv_add_emod (m + p - 1) p
  have r0 := Int.emod_nonneg (m + p - 1) (show p ≠ 0 by omega)
  have r1 := Int.emod_lt_of_pos (m + p - 1) p0
  generalize (m + p - 1) / p = L at *
  generalize (m + p - 1) % p = r at *
  have e1 : p * (L - 1) = p * L - p := by rw [Int.mul_sub, Int.mul_one]
  have hL : L ≤ x := by
    rcases Int.lt_or_le x L with h | h
    · exfalso
      have : x * p ≤ (L - 1) * p := Int.mul_le_mul_of_nonneg_right (by omega) (by omega)
      rw [Int.mul_comm (L - 1) p] at this
      omega
    · exact h
  have hpre : ∀ y ∈ pre, y ≤ L - 1 := fun y hy => by
    rcases Int.lt_or_le y L with h | h
    · omega
    · exfalso
      have h1 : L * p ≤ y * p := Int.mul_le_mul_of_nonneg_right h (by omega)
      rw [Int.mul_comm L p] at h1
      have h2 := hA y hy
      omega
  have hL1 : 1 ≤ L := by
    rcases Int.lt_or_le 0 L with h | h
    · omega
    · exfalso
      have : p * L ≤ p * 0 := Int.mul_le_mul_of_nonneg_left h (by omega)
      rw [Int.mul_zero] at this
      omega
  have g : ∀ M, M ≤ L → (∀ y ∈ pre, y ≤ M) → gat (pre ++ x :: post) M = pre.sum + p * M := fun M hM hpre => by
    rw [gat_append, gat_small hpre, gat_big (l := x :: post) fun y hy => by
      rcases List.mem_cons.mp hy with rfl | hy
      · omega
      · have := hpost y hy; omega]
    rw [List.length_cons, hp]
    rfl
  refine ⟨hL1, ?_, ?_⟩
  · rw [g L (Int.le_refl _) fun y hy => by have := hpre y hy; omega]
    omega
  · rw [g (L - 1) (by omega) hpre]
    omega
theorem lev_step {pre : List Int} {x m p : Int} (hp : 1 ≤ p) (hx0 : 0 ≤ x) (hpre : ∀ y ∈ pre, y ≤ x) (hn : ¬ m ≤ x * p) : 0 < m - x ∧ ∀ y ∈ pre ++ [x], y * (p - 1) < m - x := by
  have e : x * (p - 1) = x * p - x := by rw [Int.mul_sub, Int.mul_one]
  have z : 0 ≤ x * (p - 1) := Int.mul_nonneg hx0 (by omega)
  refine ⟨by omega, fun y hy => ?_⟩
  rcases List.mem_append.mp hy with h | h
  · have : y * (p - 1) ≤ x * (p - 1) := Int.mul_le_mul_of_nonneg_right (hpre y h) (by omega)
    omega
  · have : y = x := by simpa using h
    subst this
    omega
theorem sum_nonneg : ∀ {l : List Int}, (∀ y ∈ l, 0 ≤ y) → 0 ≤ l.sum
  | [], _ => Int.le_refl 0
  | x :: r, h => by
    have h1 := h x List.mem_cons_self
    have h2 := sum_nonneg fun y hy => h y (List.mem_cons_of_mem _ hy)
    rw [List.sum_cons]
    omega
theorem sum_snoc (l : List Int) (x : Int) : (l ++ [x]).sum = l.sum + x := by
  rw [List.sum_append]
  simp

theorem range_getD' {α β : Type} (f : α → β) (d : α) (xs : List α) : (List.range xs.length).map (fun i => f (xs.getD i d)) = xs.map f := by
  apply List.ext_getElem
  · simp
  · intro k h1 h2
    have hk : k < xs.length := by simpa using h1
    simp [List.getD, hk]

theorem paired_app {α β : Type} {F : α → β → Prop} : ∀ {a c : List α} {b d : List β}, Paired F a b → Paired F c d → Paired F (a ++ c) (b ++ d)
  | _, _, _, _, .nil, h => h
  | _, _, _, _, .cons r t, h => .cons r (paired_app t h)
theorem paired_take {α β : Type} {F : α → β → Prop} : ∀ {a : List α} {b : List β} (n : Nat), Paired F a b → Paired F (a.take n) (b.take n)
  | _, _, 0, _ => .nil
  | _, _, _ + 1, .nil => .nil
  | _, _, n + 1, .cons r t => .cons r (paired_take n t)
theorem paired_drop {α β : Type} {F : α → β → Prop} : ∀ {a : List α} {b : List β} (n : Nat), Paired F a b → Paired F (a.drop n) (b.drop n)
  | _, _, 0, h => h
  | _, _, _ + 1, .nil => .nil
  | _, _, n + 1, .cons _ t => paired_drop n t
/-- rows in a list that may be joined -/
noncomputable def RowsL (K : PySem.W.Frag) (H : Hp) (a : Addr) (rows : List (List Int)) : Prop := ∃ bs : List Addr, H a = some (.lst (bs.map V.ref)) ∧ Paired (fun r b => SqL K H b (r.map V.int)) rows bs
theorem RowsL.at {K : PySem.W.Frag} {H : Hp} {a : Addr} {rows : List (List Int)} (h : RowsL K H a rows) : RowsAt K H a rows := let ⟨bs, h1, h2⟩ := h; ⟨bs, SqL.of h1, h2⟩

noncomputable def tog : Nat → Nat
  | 0 => 1
  | n + 1 => Nat.lcm (tog n) (n + 1)
theorem tog_pos : ∀ n, 0 < tog n
  | 0 => Nat.one_pos
  | n + 1 => Nat.lcm_pos (tog_pos n) (Nat.succ_pos n)

theorem tog_small : ∀ n, n < 21 → tog n ≤ 232792560 := by decide +kernel
theorem tog_dvd : ∀ n, n < 21 → ∀ k, k < 21 → (1 ≤ k ∧ k ≤ n) → k ∣ tog n := by decide +kernel

theorem lcm_step {s n m : Nat} (hs : 0 < s) (hn : 0 < n) (hm : s ∣ m) (hle : m ≤ Nat.lcm s n) (hne : m % n ≠ 0) : m + s ≤ Nat.lcm s n := by
  obtain ⟨a, rfl⟩ := hm
  obtain ⟨b, hb⟩ := Nat.dvd_lcm_left s n
  have h1 : n ∣ Nat.lcm s n := Nat.dvd_lcm_right s n
  have h2 : s * a ≠ Nat.lcm s n := fun e => hne (Nat.mod_eq_zero_of_dvd (e ▸ h1))
  rw [hb] at hle h2 ⊢
  have h3 : a < b := by
    rcases Nat.lt_or_ge a b with h | h
    · exact h
    · exact absurd (Nat.le_antisymm hle (Nat.mul_le_mul_left s h)) h2
  calc s * a + s = s * (a + 1) := by rw [Nat.mul_add, Nat.mul_one]
    _ ≤ s * b := Nat.mul_le_mul_left s h3
theorem lcm_end {s n m : Nat} (hm0 : 0 < m) (hm : s ∣ m) (hle : m ≤ Nat.lcm s n) (h0 : m % n = 0) : m = Nat.lcm s n :=
  Nat.le_antisymm hle (Nat.le_of_dvd hm0 (Nat.lcm_dvd hm (Nat.dvd_of_mod_eq_zero h0)))


/-- the works below w that b picks -/
noncomputable def wantF (w : Nat) (b : Nat → Bool) : List Int := ((List.range w).filter b).map fun k : Nat => (k : Int)
theorem mem_wantF {w : Nat} {b : Nat → Bool} {k : Nat} : ((k : Int) ∈ wantF w b) ↔ (k < w ∧ b k = true) := by
  unfold wantF
  constructor
  · intro h
    obtain ⟨j, hj, e⟩ := List.mem_map.mp h
    have : j = k := by omega
    subst this
    exact ⟨List.mem_range.mp (List.mem_filter.mp hj).1, (List.mem_filter.mp hj).2⟩
  · rintro ⟨h1, h2⟩
    exact List.mem_map.mpr ⟨k, List.mem_filter.mpr ⟨List.mem_range.mpr h1, h2⟩, rfl⟩

theorem togpow_le {v w : Nat} (hv : v ≤ 20) (hw : w ≤ 13) : tog v ^ w ≤ 232792560 ^ 13 :=
  Nat.le_trans (Nat.pow_le_pow_left (tog_small v (by omega)) w) (Nat.pow_le_pow_right (by decide) hw)
theorem togpow_pos (v w : Nat) : 0 < tog v ^ w := Nat.pow_pos (tog_pos v)
theorem togpow_int {v w : Nat} (hv : v ≤ 20) (hw : w ≤ 13) : ((tog v ^ w : Nat) : Int) ≤ 232792560 ^ 13 := by
  have h := Int.ofNat_le.mpr (togpow_le hv hw)
  have e : ((232792560 ^ 13 : Nat) : Int) = 232792560 ^ 13 := by decide +kernel
  rw [e] at h
  exact h

/-! the choosing by itself: voters below v, works below n -/
noncomputable def sumTo (v : Nat) (f : Nat → Int) : Int := ((List.range v).map f).sum
theorem sumTo_succ (v : Nat) (f : Nat → Int) : sumTo (v + 1) f = sumTo v f + f v := by
  unfold sumTo
  rw [List.range_succ, List.map_append, List.sum_append]
  simp
theorem sumTo_le : ∀ {v : Nat} {f g : Nat → Int}, (∀ i, i < v → f i ≤ g i) → sumTo v f ≤ sumTo v g
  | 0, _, _, _ => Int.le_refl 0
  | v + 1, f, g, h => by
    have h1 := sumTo_le (v := v) fun i hi => h i (by omega)
    have h2 := h v (by omega)
    rw [sumTo_succ, sumTo_succ]
    omega
theorem sumTo_congr {v : Nat} {f g : Nat → Int} (h : ∀ i, i < v → f i = g i) : sumTo v f = sumTo v g :=
  Int.le_antisymm (sumTo_le fun i hi => Int.le_of_eq (h i hi)) (sumTo_le fun i hi => Int.le_of_eq (h i hi).symm)
theorem sumTo_sub (f g : Nat → Int) : ∀ v, sumTo v (fun i => f i - g i) = sumTo v f - sumTo v g
  | 0 => rfl
  | v + 1 => by
    rw [sumTo_succ, sumTo_succ, sumTo_succ, sumTo_sub f g v]
    omega
theorem sumTo_const (c : Int) : ∀ v : Nat, sumTo v (fun _ => c) = (v : Int) * c
  | 0 => by simp [sumTo]
  | v + 1 => by
    rw [sumTo_succ, sumTo_const c v, Int.natCast_add, Int.add_mul]
    simp
theorem sumTo_zero {v : Nat} {f : Nat → Int} (h : ∀ i, i < v → f i = 0) : sumTo v f = 0 := by
  rw [sumTo_congr h, sumTo_const]
  simp
theorem sumTo_nn {v : Nat} {f : Nat → Int} (h : ∀ i, i < v → 0 ≤ f i) : 0 ≤ sumTo v f := by
  have := sumTo_le (v := v) (f := fun _ => 0) h
  rw [sumTo_const] at this
  simpa using this
/-- what voter i pays for work k at level L -/
noncomputable def pay (W : Nat → Nat → Bool) (p : Nat → Int) (k : Nat) (L : Int) (i : Nat) : Int := if W i k = true then min (p i) L else 0
/-- what is gathered -/
noncomputable def gth (v : Nat) (W : Nat → Nat → Bool) (p : Nat → Int) (k : Nat) (L : Int) : Int := sumTo v (pay W p k L)
/-- what they have -/
noncomputable def hav (v : Nat) (W : Nat → Nat → Bool) (p : Nat → Int) (k : Nat) : Int := sumTo v fun i => if W i k = true then p i else 0
theorem gth_mono {v : Nat} {W : Nat → Nat → Bool} {p : Nat → Int} {k : Nat} {L M : Int} (h : L ≤ M) : gth v W p k L ≤ gth v W p k M :=
  sumTo_le fun i _ => by
    unfold pay
    split <;> omega
theorem gth_le_hav (v : Nat) (W : Nat → Nat → Bool) (p : Nat → Int) (k : Nat) (L : Int) : gth v W p k L ≤ hav v W p k :=
  sumTo_le fun i _ => by
    unfold pay
    split <;> omega
theorem pay_le {W : Nat → Nat → Bool} {p : Nat → Int} {k : Nat} {L : Int} {i : Nat} (h : 0 ≤ p i) : pay W p k L i ≤ p i := by
  unfold pay
  split <;> omega
theorem pay_leL {W : Nat → Nat → Bool} {p : Nat → Int} {k : Nat} {L : Int} {i : Nat} (hL : 0 ≤ L) : pay W p k L i ≤ L := by
  unfold pay
  split <;> omega
structure Town where
  v : Nat
  n : Nat
  W : Nat → Nat → Bool
  c : Nat → Int
/-- k is next, at level L -/
structure Nx (T : Town) (p : Nat → Int) (done : List Nat) (k : Nat) (L : Int) : Prop where
  lt : k < T.n
  new : k ∉ done
  pos : 1 ≤ L
  enough : T.c k ≤ gth T.v T.W p k L
  least : ∀ j, j < T.n → j ∉ done → gth T.v T.W p j (L - 1) < T.c j
  first : ∀ j, j < k → j ∉ done → gth T.v T.W p j L < T.c j
noncomputable def lft (W : Nat → Nat → Bool) (p : Nat → Int) (k : Nat) (L : Int) : Nat → Int := fun i => p i - pay W p k L i
inductive Run (T : Town) : (Nat → Int) → List Nat → List (Nat × Int) → Prop
  | stop {p : Nat → Int} {done : List Nat} : (∀ k, k < T.n → k ∉ done → hav T.v T.W p k < T.c k) → Run T p done []
  | step {p : Nat → Int} {done : List Nat} {k : Nat} {L : Int} {rest : List (Nat × Int)} : Nx T p done k L → Run T (lft T.W p k L) (k :: done) rest → Run T p done ((k, L) :: rest)
theorem lft_nn {W : Nat → Nat → Bool} {p : Nat → Int} {k : Nat} {L : Int} {i : Nat} (h : 0 ≤ p i) : 0 ≤ lft W p k L i := by
  have := pay_le (W := W) (k := k) (L := L) h
  unfold lft
  omega
/-- works of a row: below n, new, none twice -/
theorem run_works {T : Town} {p : Nat → Int} {done : List Nat} {s : List (Nat × Int)} (h : Run T p done s) : (∀ x ∈ s, x.1 < T.n ∧ x.1 ∉ done ∧ 1 ≤ x.2) ∧ (s.map (·.1)).Nodup := by
  induction h with
  | stop _ => exact ⟨fun _ h => (by simp at h), List.nodup_nil⟩
  | step n _ ih =>
    obtain ⟨i1, i2⟩ := ih
    refine ⟨fun x hx => ?_, ?_⟩
    · rcases List.mem_cons.mp hx with e | hx
      · subst e
        exact ⟨n.lt, n.new, n.pos⟩
      · obtain ⟨a, b, c⟩ := i1 x hx
        exact ⟨a, fun z => b (List.mem_cons_of_mem _ z), c⟩
    · rw [List.map_cons]
      refine List.nodup_cons.mpr ⟨fun z => ?_, i2⟩
      obtain ⟨x, hx, e⟩ := List.mem_map.mp z
      have := (i1 x hx).2.1
      rw [e] at this
      exact this List.mem_cons_self

theorem nodup_len : ∀ (n : Nat) (l : List Nat), l.Nodup → (∀ x ∈ l, x < n) → l.length ≤ n
  | 0, l, _, h => by
    cases l with
    | nil => exact Nat.le_refl _
    | cons x r => exact absurd (h x List.mem_cons_self) (Nat.not_lt_zero _)
  | n + 1, l, nd, h => by
    by_cases hn : n ∈ l
    · have h1 := nodup_len n (l.erase n) (nd.erase n) fun x hx => by
        have h2 := (nd.mem_erase_iff).mp hx
        have h3 := h x h2.2
        omega
      rw [List.length_erase_of_mem hn] at h1
      omega
    · have h1 := nodup_len n l nd fun x hx => by
        have h3 := h x hx
        have h4 : x ≠ n := fun e => hn (e ▸ hx)
        omega
      omega
theorem nodup_sub {α : Type} [BEq α] [LawfulBEq α] : ∀ {l m : List α}, l.Nodup → (∀ x ∈ l, x ∈ m) → l.length ≤ m.length
  | [], _, _, _ => Nat.zero_le _
  | x :: r, m, nd, h => by
    have hx := h x List.mem_cons_self
    obtain ⟨n1, n2⟩ := List.nodup_cons.mp nd
    have h1 := nodup_sub (l := r) (m := m.erase x) n2 fun y hy => by
      have hne : y ≠ x := fun e => n1 (e ▸ hy)
      exact (List.mem_erase_of_ne hne).mpr (h y (List.mem_cons_of_mem _ hy))
    rw [List.length_erase_of_mem hx] at h1
    have := List.length_pos_of_mem hx
    rw [List.length_cons]
    omega
theorem split_gth (u : Int) (W : Nat → Nat → Bool) (p : Nat → Int) (k : Nat) (L : Int) : ∀ v : Nat, (∀ i, i < v → u ∣ p i) → ∃ s q : Int, u ∣ s ∧ 0 ≤ q ∧ q ≤ v ∧ gth v W p k L = s + q * L ∧ gth v W p k (L - 1) = s + q * (L - 1)
  | 0, _ => ⟨0, 0, Int.dvd_zero u, Int.le_refl 0, by simp, by simp [gth, sumTo], by simp [gth, sumTo]⟩
  | v + 1, h => by
    obtain ⟨s, q, h1, h2, h3, h4, h5⟩ := split_gth u W p k L v fun i hi => h i (by omega)
    have hx := h v (by omega)
    have e1 : ∀ M, gth (v + 1) W p k M = gth v W p k M + pay W p k M v := fun M => sumTo_succ v _
    rw [e1, e1, h4, h5]
    unfold pay
    by_cases hw : W v k = true
    · rw [if_pos hw, if_pos hw]
      rcases Int.lt_or_le (p v) L with c | c
      · refine ⟨s + p v, q, Int.dvd_add h1 hx, h2, by omega, ?_, ?_⟩
        · rw [Int.min_eq_left (by omega)]; omega
        · rw [Int.min_eq_left (by omega)]; omega
      · refine ⟨s, q + 1, h1, by omega, by omega, ?_, ?_⟩
        · rw [Int.min_eq_right (by omega), Int.add_mul]; omega
        · rw [Int.min_eq_right (by omega), Int.add_mul]; omega
    · rw [if_neg hw, if_neg hw]
      exact ⟨s, q, h1, h2, by omega, by omega, by omega⟩
theorem gth_exact {v : Nat} {W : Nat → Nat → Bool} {p : Nat → Int} {k : Nat} {price L rest : Int} (hv : v ≤ 20) (hd : ∀ i, i < v → rest * (tog v : Nat) ∣ p i) (hp : rest * (tog v : Nat) ∣ price) (a2 : price ≤ gth v W p k L) (a3 : gth v W p k (L - 1) < price) : gth v W p k L = price ∧ rest ∣ L := by
  obtain ⟨s, q, h1, h2, h3, h4, h5⟩ := split_gth _ W p k L v hd
  have hp0 : 1 ≤ q := by
    rcases Int.lt_or_le 0 q with c | c
    · exact c
    · have : q = 0 := by omega
      subst this
      rw [Int.zero_mul] at h4 h5
      omega
  obtain ⟨q, rfl⟩ : ∃ q' : Nat, q = q' := ⟨q.toNat, by omega⟩
  obtain ⟨b, hb⟩ := tog_dvd v (by omega) q (by omega) ⟨by omega, by omega⟩
  obtain ⟨m, hm⟩ := Int.dvd_sub hp h1
  have e : price - s = (q : Int) * (rest * ((b : Int) * m)) := by
    rw [hm, hb, Int.natCast_mul]
    simp only [Int.mul_assoc, Int.mul_comm, Int.mul_left_comm]
  have c1 : rest * ((b : Int) * m) ≤ L := Int.le_of_mul_le_mul_left (a := (q : Int)) (by omega) (by omega)
  have c2 : L - 1 < rest * ((b : Int) * m) := Int.lt_of_mul_lt_mul_left (a := (q : Int)) (by omega) (by omega)
  have c3 : L = rest * ((b : Int) * m) := by omega
  rw [← c3] at e
  exact ⟨by omega, ⟨_, c3⟩⟩
/-- a row of steps whose payments come to the prices, just -/
inductive RunX (T : Town) : (Nat → Int) → List Nat → List (Nat × Int) → Prop
  | stop {p : Nat → Int} {done : List Nat} : (∀ k, k < T.n → k ∉ done → hav T.v T.W p k < T.c k) → RunX T p done []
  | step {p : Nat → Int} {done : List Nat} {k : Nat} {L : Int} {rest : List (Nat × Int)} : Nx T p done k L → gth T.v T.W p k L = T.c k → RunX T (lft T.W p k L) (k :: done) rest → RunX T p done ((k, L) :: rest)
theorem RunX.run {T : Town} {p : Nat → Int} {done : List Nat} {s : List (Nat × Int)} (h : RunX T p done s) : Run T p done s := by
  induction h with
  | stop h0 => exact .stop h0
  | step n _ _ ih => exact .step n ih
theorem dvd_lft {W : Nat → Nat → Bool} {p : Nat → Int} {k : Nat} {L r : Int} {i : Nat} (h : r ∣ p i) (hL : r ∣ L) : r ∣ lft W p k L i := by
  unfold lft pay
  split
  · rcases Int.le_total (p i) L with c | c
    · rw [Int.min_eq_left c, Int.sub_self]
      exact Int.dvd_zero r
    · rw [Int.min_eq_right c]
      exact Int.dvd_sub h hL
  · rw [Int.sub_zero]
    exact h
theorem pow_dvd_int {t a b : Nat} (h : a ≤ b) : ((t ^ a : Nat) : Int) ∣ ((t ^ b : Nat) : Int) := by
  have := Nat.pow_dvd_pow t h
  exact_mod_cast this
theorem run_exact {T : Town} (hv : T.v ≤ 20) (hc : ∀ k, k < T.n → ((tog T.v ^ T.n : Nat) : Int) ∣ T.c k) {p : Nat → Int} {done : List Nat} {s : List (Nat × Int)} (h : Run T p done s) :
    done.Nodup → (∀ k ∈ done, k < T.n) → (∀ i, i < T.v → ((tog T.v ^ (T.n - done.length) : Nat) : Int) ∣ p i) → RunX T p done s := by
  induction h with
  | stop h0 => exact fun _ _ _ => .stop h0
  | @step p done k L rest n r ih =>
    intro nd hn hp
    have nd' : (k :: done).Nodup := List.nodup_cons.mpr ⟨n.new, nd⟩
    have hn' : ∀ j ∈ k :: done, j < T.n := fun j hj => by
      rcases List.mem_cons.mp hj with e | e
      · subst e; exact n.lt
      · exact hn j e
    have hl := nodup_len T.n _ nd' hn'
    rw [List.length_cons] at hl
    have e : T.n - done.length = (T.n - (done.length + 1)) + 1 := by omega
    have ep : ((tog T.v ^ (T.n - done.length) : Nat) : Int) = ((tog T.v ^ (T.n - (done.length + 1)) : Nat) : Int) * ((tog T.v : Nat) : Int) := by
      rw [e, Nat.pow_succ]
      push_cast
      rfl
    have a3 := n.least k n.lt n.new
    obtain ⟨x1, x2⟩ := gth_exact (rest := ((tog T.v ^ (T.n - (done.length + 1)) : Nat) : Int)) hv (fun i hi => by rw [← ep]; exact hp i hi) (by rw [← ep]; exact Int.dvd_trans (pow_dvd_int (by omega)) (hc k n.lt)) n.enough a3
    refine .step n x1 (ih nd' hn' fun i hi => ?_)
    rw [List.length_cons]
    refine dvd_lft (Int.dvd_trans ?_ (hp i hi)) x2
    exact pow_dvd_int (by omega)

/-- the voters who want all of ks -/
noncomputable def commonF (rows : List (List Int)) (ks : List Int) : List Int := ((List.range rows.length).filter fun i => ks.all fun k => decide (k ∈ rows.getD i [])).map fun i : Nat => (i : Int)

/-- voter i wants work k -/
noncomputable def WR (rows : List (List Int)) (i k : Nat) : Bool := decide ((k : Int) ∈ rows.getD i [])
/-- purses by voters -/
noncomputable def PF (ps : List Int) (i : Nat) : Int := ps.getD i 0
theorem sum_filter {p : Nat → Bool} {f : Nat → Int} : ∀ n : Nat, (((List.range n).filter p).map f).sum = sumTo n fun i => if p i = true then f i else 0
  | 0 => rfl
  | n + 1 => by
    rw [sumTo_succ, List.range_succ, List.filter_append, List.map_append, List.sum_append, sum_filter n, List.filter_cons]
    by_cases h : p n = true
    · rw [if_pos h, if_pos h]
      simp
    · rw [if_neg h, if_neg h]
      simp

noncomputable def oV : Option Int → V
  | none => .non
  | some i => .int i

/-- ints of works -/
theorem mem_nats {k : Nat} {done : List Nat} : ((k : Int) ∈ done.map fun k : Nat => (k : Int)) ↔ k ∈ done := by
  constructor
  · intro h
    obtain ⟨j, hj, e⟩ := List.mem_map.mp h
    have : j = k := by omega
    exact this ▸ hj
  · exact fun h => List.mem_map.mpr ⟨k, h, rfl⟩

/-- the offer of a work -/
noncomputable def OffOk (T : Town) (p : Nat → Int) (done : List Nat) (k : Nat) : Option Int → Prop
  | none => k ∈ done ∨ hav T.v T.W p k < T.c k
  | some L => k ∉ done ∧ 1 ≤ L ∧ T.c k ≤ gth T.v T.W p k L ∧ gth T.v T.W p k (L - 1) < T.c k
/-- the place of the least offer -/
noncomputable def NextOk (os : List (Option Int)) : Option Nat → Prop
  | none => ∀ o ∈ os, o = none
  | some k => ∃ L, os[k]? = some (some L) ∧ ∀ j M, os[j]? = some (some M) → L ≤ M ∧ (j < k → L < M)
theorem nx_of_offers {T : Town} {p : Nat → Int} {done : List Nat} {os : List (Option Int)} {k : Nat} {L : Int} (hl : os.length = T.n) (ho : ∀ j o, os[j]? = some o → OffOk T p done j o) (hp : ∀ i, i < T.v → 0 ≤ p i) (hc : ∀ j, j < T.n → 1 ≤ T.c j) (hk : os[k]? = some (some L)) (hn : NextOk os (some k)) : Nx T p done k L := by
  obtain ⟨L', e, hmin⟩ := hn
  rw [hk] at e
  have e : L = L' := Option.some.inj (Option.some.inj e)
  subst e
  have hkl : k < T.n := by rw [← hl]; exact (List.getElem?_eq_some_iff.mp hk).1
  obtain ⟨a1, a2, a3, a4⟩ := ho k _ hk
  have key : ∀ j, j < T.n → j ∉ done → ∀ M : Int, 0 ≤ M → T.c j ≤ gth T.v T.W p j M → ∃ N, os[j]? = some (some N) ∧ N ≤ M := by
    intro j hj hjn M hM hle
    have hjl : j < os.length := by omega
    have hoj := ho j os[j] (by simp [hjl])
    cases e : os[j] with
    | none =>
      rw [e] at hoj
      rcases hoj with z | z
      · exact absurd z hjn
      · have := gth_le_hav T.v T.W p j M
        omega
    | some N =>
      rw [e] at hoj
      obtain ⟨_, _, _, b4⟩ := hoj
      refine ⟨N, by rw [List.getElem?_eq_getElem hjl, e], ?_⟩
      rcases Int.lt_or_le M N with c | c
      · have := gth_mono (v := T.v) (W := T.W) (p := p) (k := j) (show M ≤ N - 1 by omega)
        omega
      · exact c
  refine ⟨hkl, a1, a2, a3, fun j hj hjn => ?_, fun j hj hjn => ?_⟩
  · rcases Int.lt_or_le (gth T.v T.W p j (L - 1)) (T.c j) with c | c
    · exact c
    · obtain ⟨N, h1, h2⟩ := key j hj hjn (L - 1) (by omega) c
      have := (hmin j N h1).1
      omega
  · rcases Int.lt_or_le (gth T.v T.W p j L) (T.c j) with c | c
    · exact c
    · obtain ⟨N, h1, h2⟩ := key j (by omega) hjn L (by omega) c
      have := (hmin j N h1).2 hj
      omega

/-- the town of costs and wishes, prices in grains -/
noncomputable def townT (cs : List Int) (rows : List (List Int)) : Town := ⟨rows.length, cs.length, WR rows, fun k => cs.getD k 0 * ((tog rows.length ^ (cs.length + 1) : Nat) : Int)⟩
noncomputable def paidF (rows : List (List Int)) (ps : List Int) (k : Nat) (L : Int) : List Int := (List.range ps.length).map (pay (WR rows) (PF ps) k L)
noncomputable def leftF (rows : List (List Int)) (ps : List Int) (k : Nat) (L : Int) : List Int := (List.range ps.length).map (lft (WR rows) (PF ps) k L)
/-- the steps with what each pays -/
noncomputable def stepsF (rows : List (List Int)) : List Int → List (Nat × Int) → List (Nat × Int × List Int)
  | _, [] => []
  | ps, (k, L) :: r => (k, L, paidF rows ps k L) :: stepsF rows (leftF rows ps k L) r
/-- what is left behind them -/
noncomputable def leftS (rows : List (List Int)) : List Int → List (Nat × Int) → List Int
  | ps, [] => ps
  | ps, (k, L) :: r => leftS rows (leftF rows ps k L) r
theorem leftF_len (rows : List (List Int)) (ps : List Int) (k : Nat) (L : Int) : (leftF rows ps k L).length = ps.length := by simp [leftF]
theorem paidF_len (rows : List (List Int)) (ps : List Int) (k : Nat) (L : Int) : (paidF rows ps k L).length = ps.length := by simp [paidF]
theorem PF_map (n : Nat) (f : Nat → Int) (h : ∀ i, n ≤ i → f i = 0) : PF ((List.range n).map f) = f := by
  funext i
  unfold PF
  by_cases hi : i < n
  · simp [List.getD, hi]
  · rw [h i (by omega)]
    simp [List.getD, hi]
theorem WR_out {rows : List (List Int)} {i k : Nat} (h : rows.length ≤ i) : WR rows i k = false := by
  unfold WR
  have : rows.getD i [] = [] := by simp [List.getD, List.getElem?_eq_none h]
  rw [this]
  simp
theorem PF_out {ps : List Int} {i : Nat} (h : ps.length ≤ i) : PF ps i = 0 := by
  unfold PF
  simp [List.getD, List.getElem?_eq_none h]
theorem PF_leftF {rows : List (List Int)} {ps : List Int} {k : Nat} {L : Int} (h : ps.length = rows.length) : PF (leftF rows ps k L) = lft (WR rows) (PF ps) k L := by
  refine PF_map _ _ fun i hi => ?_
  unfold lft pay
  rw [WR_out (by omega), PF_out hi]
  simp
theorem PF_paidF {rows : List (List Int)} {ps : List Int} {k : Nat} {L : Int} (h : ps.length = rows.length) : PF (paidF rows ps k L) = pay (WR rows) (PF ps) k L := by
  refine PF_map _ _ fun i hi => ?_
  unfold pay
  rw [WR_out (by omega)]
  simp
theorem stepsF_len (rows : List (List Int)) : ∀ (ps : List Int) (r : List (Nat × Int)), (stepsF rows ps r).length = r.length
  | _, [] => rfl
  | ps, (k, L) :: r => by rw [stepsF, List.length_cons, List.length_cons, stepsF_len]
theorem stepsF_paid (rows : List (List Int)) : ∀ (ps : List Int) (r : List (Nat × Int)), ∀ x ∈ stepsF rows ps r, x.2.2.length = ps.length
  | _, [], x, h => by simp [stepsF] at h
  | ps, (k, L) :: r, x, h => by
    rw [stepsF] at h
    rcases List.mem_cons.mp h with e | h
    · subst e
      exact paidF_len rows ps k L
    · rw [stepsF_paid rows (leftF rows ps k L) r x h, leftF_len]
theorem leftS_len (rows : List (List Int)) : ∀ (ps : List Int) (r : List (Nat × Int)), (leftS rows ps r).length = ps.length
  | _, [] => rfl
  | ps, (k, L) :: r => by rw [leftS, leftS_len rows _ r, leftF_len]
theorem leftS_snoc (rows : List (List Int)) : ∀ (ps : List Int) (r : List (Nat × Int)) (k : Nat) (L : Int), leftS rows ps (r ++ [(k, L)]) = leftF rows (leftS rows ps r) k L
  | _, [], _, _ => rfl
  | ps, (j, M) :: r, k, L => by
    rw [List.cons_append, leftS, leftS_snoc rows (leftF rows ps j M) r k L, leftS]
theorem stepsF_get (rows : List (List Int)) : ∀ (ps : List Int) (r : List (Nat × Int)) (i : Nat) (k : Nat) (L : Int), r[i]? = some (k, L) → (stepsF rows ps r)[i]? = some (k, L, paidF rows (leftS rows ps (r.take i)) k L)
  | _, [], _, _, _, h => by simp at h
  | ps, (j, M) :: r, 0, k, L, h => by
    simp at h
    obtain ⟨rfl, rfl⟩ := h
    rfl
  | ps, (j, M) :: r, i + 1, k, L, h => by
    have := stepsF_get rows (leftF rows ps j M) r i k L (by simpa using h)
    rw [stepsF, List.take_succ_cons, leftS]
    simpa using this
theorem stepsF_app (rows : List (List Int)) : ∀ (ps : List Int) (r r' : List (Nat × Int)), stepsF rows ps (r ++ r') = stepsF rows ps r ++ stepsF rows (leftS rows ps r) r'
  | _, [], _ => rfl
  | ps, (k, L) :: r, r' => by
    rw [List.cons_append, stepsF, stepsF, leftS, stepsF_app rows (leftF rows ps k L) r r']
    rfl
theorem stepsF_works (rows : List (List Int)) : ∀ (ps : List Int) (r : List (Nat × Int)), (stepsF rows ps r).map (fun x => (x.1, x.2.1)) = r
  | _, [] => rfl
  | ps, (k, L) :: r => by
    rw [stepsF, List.map_cons, stepsF_works rows _ r]
/-- what a choosing asks of what is handed in -/
structure GoodT (cs : List Int) (rows : List (List Int)) (ps : List Int) : Prop where
  c12 : cs.length ≤ 12
  cb : ∀ x ∈ cs, 1 ≤ x ∧ x ≤ 1000000000000
  v1 : 1 ≤ rows.length
  v20 : rows.length ≤ 20
  pl : ps.length = rows.length
  p0 : ∀ p ∈ ps, 0 ≤ p
  pd : ∀ p ∈ ps, ((tog rows.length ^ cs.length : Nat) : Int) ∣ p
theorem PF_nn {ps : List Int} (h : ∀ p ∈ ps, 0 ≤ p) (i : Nat) : 0 ≤ PF ps i := by
  unfold PF
  by_cases hi : i < ps.length
  · have e : ps.getD i 0 = ps[i] := by simp [List.getD, hi]
    rw [e]
    exact h _ (List.getElem_mem hi)
  · simp [List.getD, List.getElem?_eq_none (Nat.le_of_not_lt hi)]
theorem c_pos {cs : List Int} {rows : List (List Int)} (h : ∀ x ∈ cs, 1 ≤ x ∧ x ≤ 1000000000000) : ∀ k, k < cs.length → 1 ≤ (townT cs rows).c k := by
  intro k hk
  have h1 := h (cs.getD k 0) (by simp [List.getD, hk])
  have h2 := togpow_pos rows.length (cs.length + 1)
  have : 1 * 1 ≤ cs.getD k 0 * ((tog rows.length ^ (cs.length + 1) : Nat) : Int) := Int.mul_le_mul h1.1 (by omega) (by decide) (by omega)
  show 1 ≤ cs.getD k 0 * ((tog rows.length ^ (cs.length + 1) : Nat) : Int)
  omega
theorem c_dvd (cs : List Int) (rows : List (List Int)) : ∀ k, ((tog rows.length ^ cs.length : Nat) : Int) ∣ (townT cs rows).c k := by
  intro k
  exact Int.dvd_trans (pow_dvd_int (Nat.le_succ _)) ⟨cs.getD k 0, Int.mul_comm _ _⟩

/-- a step as it lies: (work, level, paid) -/
noncomputable def StepAt (H : Hp) (x : Nat × Int × List Int) (t : Addr) : Prop := ∃ b : Addr, H t = some (.tup [.int x.1, .int x.2.1, .ref b]) ∧ H b = some (.lst (x.2.2.map V.int))
noncomputable def StepsAt (H : Hp) (a : Addr) (sts : List (Nat × Int × List Int)) : Prop := ∃ ts : List Addr, H a = some (.lst (ts.map V.ref)) ∧ Paired (StepAt H) sts ts
theorem stepAt_same {H H' : Hp} (e : Same H H') {x : Nat × Int × List Int} {t : Addr} (h : StepAt H x t) : StepAt H' x t := by
  obtain ⟨b, h1, h2⟩ := h
  exact ⟨b, e _ _ h1, e _ _ h2⟩
theorem stepsAt_same {H H' : Hp} (e : Same H H') {a : Addr} {sts : List (Nat × Int × List Int)} (h : StepsAt H a sts) : StepsAt H' a sts := by
  obtain ⟨ts, h1, h2⟩ := h
  exact ⟨ts, e _ _ h1, Paired.mapP h2 fun _ _ q => stepAt_same e q⟩
/-- new since H0 -/
noncomputable def StepNew (H0 H : Hp) (l : Addr) (x : Nat × Int × List Int) (t : Addr) : Prop := ∃ b : Addr, H0 t = none ∧ H0 b = none ∧ b ≠ l ∧ H t = some (.tup [.int x.1, .int x.2.1, .ref b]) ∧ H b = some (.lst (x.2.2.map V.int))
noncomputable def StepsNew (H0 H : Hp) (l : Addr) (sts : List (Nat × Int × List Int)) : Prop := ∃ ts : List Addr, H l = some (.lst (ts.map V.ref)) ∧ Paired (StepNew H0 H l) sts ts
theorem StepsNew.at {H0 H : Hp} {l : Addr} {sts : List (Nat × Int × List Int)} (h : StepsNew H0 H l sts) : StepsAt H l sts := by
  obtain ⟨ts, h1, h2⟩ := h
  exact ⟨ts, h1, Paired.mapP h2 fun _ _ ⟨b, _, _, _, h3, h4⟩ => ⟨b, h3, h4⟩⟩

theorem nx_congr {T : Town} {p : Nat → Int} {d d' : List Nat} {k : Nat} {L : Int} (h : ∀ j, j ∈ d' ↔ j ∈ d) (n : Nx T p d k L) : Nx T p d' k L :=
  ⟨n.lt, fun z => n.new ((h k).mp z), n.pos, n.enough, fun j hj hn => n.least j hj fun z => hn ((h j).mpr z), fun j hj hn => n.first j hj fun z => hn ((h j).mpr z)⟩
theorem leftF_nn {rows : List (List Int)} {ps : List Int} {k : Nat} {L : Int} (h : ∀ p ∈ ps, 0 ≤ p) : ∀ p ∈ leftF rows ps k L, 0 ≤ p := by
  intro p hp
  obtain ⟨i, _, e⟩ := List.mem_map.mp hp
  rw [← e]
  exact lft_nn (PF_nn h i)
theorem leftS_nn {rows : List (List Int)} : ∀ {ps : List Int} {r : List (Nat × Int)}, (∀ p ∈ ps, 0 ≤ p) → ∀ p ∈ leftS rows ps r, 0 ≤ p
  | _, [], h => h
  | ps, (k, L) :: r, h => by
    rw [leftS]
    exact leftS_nn (leftF_nn h)
theorem run_len {T : Town} {p : Nat → Int} {s : List (Nat × Int)} (h : Run T p [] s) : s.length ≤ T.n := by
  obtain ⟨h1, h2⟩ := run_works h
  have := nodup_len T.n _ h2 fun x hx => by
    obtain ⟨y, hy, e⟩ := List.mem_map.mp hx
    rw [← e]
    exact (h1 y hy).1
  rwa [List.length_map] at this
theorem runx_town {cs : List Int} {rows : List (List Int)} {ps : List Int} (g : GoodT cs rows ps) {s : List (Nat × Int)} (h : Run (townT cs rows) (PF ps) [] s) : RunX (townT cs rows) (PF ps) [] s := by
  refine run_exact g.v20 (fun k _ => c_dvd cs rows k) h List.nodup_nil (fun k hk => by simp at hk) fun i hi => ?_
  have hi' : i < ps.length := by rw [g.pl]; exact hi
  have : PF ps i ∈ ps := by unfold PF; simp [List.getD, hi']
  exact g.pd _ this
theorem paired_of_get {α β : Type} {F : α → β → Prop} : ∀ {xs : List α} {ts : List β}, xs.length = ts.length → (∀ (i : Nat) (x : α) (t : β), xs[i]? = some x → ts[i]? = some t → F x t) → Paired F xs ts
  | [], [], _, _ => .nil
  | [], _ :: _, h, _ => by simp at h
  | _ :: _, [], h, _ => by simp at h
  | x :: r, u :: q, hl, h => .cons (h 0 x u rfl rfl) (paired_of_get (by simpa using hl) fun i y w e e' => h (i + 1) y w (by simpa using e) (by simpa using e'))
theorem paired_range {α : Type} {F : α → Addr → Prop} {T : Addr → Prop} {xs : List α} {ts : List Addr} (h : Paired (fun i t => T t ∧ ∀ x, xs[i]? = some x → F x t) (List.range xs.length) ts) : Paired F xs ts := by
  have hl := Paired.length h
  rw [List.length_range] at hl
  refine paired_of_get hl fun i x t hx ht => ?_
  obtain ⟨j, hj, hF⟩ := paired_at' h ht
  have hi : i < xs.length := (List.getElem?_eq_some_iff.mp hx).1
  have e : j = i := by
    rw [List.getElem?_range hi] at hj
    exact (Option.some.inj hj).symm
  subst e
  exact hF.2 x hx

theorem sum_drop_ge : ∀ {l : List Int} {m : Nat}, (∀ x ∈ l, 0 ≤ x) → m < l.length → (l.take m).sum + l.getD m 0 ≤ l.sum
  | [], _, _, h => by simp at h
  | x :: r, 0, h, _ => by
    have h1 : 0 ≤ r.sum := by
      have all : ∀ {l : List Int}, (∀ x ∈ l, 0 ≤ x) → 0 ≤ l.sum := by
        intro l
        induction l with
        | nil => intro _; exact Int.le_refl 0
        | cons y t ih =>
          intro h
          have h1 := h y List.mem_cons_self
          have h2 := ih fun z hz => h z (List.mem_cons_of_mem _ hz)
          rw [List.sum_cons]
          omega
      exact all fun y hy => h y (List.mem_cons_of_mem _ hy)
    simp [List.getD]
    omega
  | x :: r, m + 1, h, hm => by
    have := sum_drop_ge (l := r) (m := m) (fun y hy => h y (List.mem_cons_of_mem _ hy)) (by simpa using hm)
    simp [List.getD] at this ⊢
    omega
theorem sum_take_succ {l : List Int} {m : Nat} (hm : m < l.length) : (l.take (m + 1)).sum = (l.take m).sum + l.getD m 0 := by
  rw [List.take_add_one, List.getElem?_eq_getElem hm, List.sum_append]
  simp [List.getD, hm]
theorem first_not {done : List Nat} : ∀ {A : List Nat}, (∃ t ∈ A, t ∉ done) → ∃ A1 t A2, A = A1 ++ t :: A2 ∧ (∀ x ∈ A1, x ∈ done) ∧ t ∉ done
  | [], h => by obtain ⟨t, h, _⟩ := h; simp at h
  | a :: r, h => by
    by_cases ha : a ∈ done
    · have h' : ∃ t ∈ r, t ∉ done := by
        obtain ⟨t, h1, h2⟩ := h
        rcases List.mem_cons.mp h1 with e | h1
        · subst e; exact absurd ha h2
        · exact ⟨t, h1, h2⟩
      obtain ⟨A1, t, A2, e, h1, h2⟩ := first_not h'
      refine ⟨a :: A1, t, A2, by rw [e]; rfl, fun x hx => ?_, h2⟩
      rcases List.mem_cons.mp hx with z | z
      · subst z; exact ha
      · exact h1 x z
    · exact ⟨[], a, r, rfl, fun x hx => by simp at hx, ha⟩
/-- no group is left behind -/
theorem run_group {T : Town} {S : Nat → Bool} {A : List Nat} {P s : Int} (hs : sumTo T.v (fun i => if S i = true then 1 else 0) = s) (hs1 : 1 ≤ s) (hA : A.Nodup) (hAn : ∀ k ∈ A, k < T.n) (hW : ∀ i, i < T.v → S i = true → ∀ k ∈ A, T.W i k = true)
    (hsort : A.Pairwise fun x y => T.c x ≤ T.c y) (hc : ∀ k ∈ A, s ∣ T.c k) (hc0 : ∀ k ∈ A, 0 ≤ T.c k) (hcost : (A.map T.c).sum ≤ s * P) {p : Nat → Int} {done : List Nat} {steps : List (Nat × Int)} (h : Run T p done steps) :
    done.Nodup → (∀ i, i < T.v → 0 ≤ p i) → (∀ i, i < T.v → S i = true → s * (P - p i) ≤ ((A.map T.c).take (done.filter (T.W i)).length).sum) → ∃ i, i < T.v ∧ S i = true ∧ A.length ≤ (done.filter (T.W i)).length + ((steps.map (·.1)).filter (T.W i)).length := by
  -- what holds where all have less
  have key : ∀ {p : Nat → Int} {done : List Nat}, done.Nodup → (∀ i, i < T.v → 0 ≤ p i) → (∀ i, i < T.v → S i = true → s * (P - p i) ≤ ((A.map T.c).take (done.filter (T.W i)).length).sum) → (∀ i, i < T.v → S i = true → (done.filter (T.W i)).length < A.length) →
      ∃ t L0, t ∈ A ∧ t ∉ done ∧ T.c t = s * L0 ∧ (∀ i, i < T.v → S i = true → L0 ≤ p i) ∧ ∀ i, i < T.v → S i = true → T.c t ≤ (A.map T.c).getD (done.filter (T.W i)).length 0 := by
    intro p done nd hp hinv hless
    obtain ⟨i0, hi0, hS0⟩ : ∃ i, i < T.v ∧ S i = true := by
      apply Classical.byContradiction
      intro hno
      have : sumTo T.v (fun i => if S i = true then (1 : Int) else 0) = 0 := sumTo_zero fun i hi => by
        rw [if_neg]
        intro z
        exact hno ⟨i, hi, z⟩
      omega
    have hex : ∃ t ∈ A, t ∉ done := by
      apply Classical.byContradiction
      intro hno
      have hsub : ∀ x ∈ A, x ∈ done.filter (T.W i0) := fun x hx => by
        refine List.mem_filter.mpr ⟨?_, hW i0 hi0 hS0 x hx⟩
        apply Classical.byContradiction
        intro z
        exact hno ⟨x, hx, z⟩
      have := nodup_sub hA hsub
      have := hless i0 hi0 hS0
      omega
    obtain ⟨A1, t, A2, eA, hA1, htn⟩ := first_not hex
    have htA : t ∈ A := by rw [eA]; simp
    obtain ⟨L0, hL0⟩ := hc t htA
    have hct : ∀ i, i < T.v → S i = true → T.c t ≤ (A.map T.c).getD (done.filter (T.W i)).length 0 := by
      intro i hi hSi
      have hm := hless i hi hSi
      have hj : A1.length ≤ (done.filter (T.W i)).length := by
        have nd1 : A1.Nodup := by
          rw [eA] at hA
          exact (List.nodup_append.mp hA).1
        refine nodup_sub nd1 fun x hx => List.mem_filter.mpr ⟨hA1 x hx, hW i hi hSi x ?_⟩
        rw [eA]
        exact List.mem_append_left _ hx
      have e1 : (A.map T.c).getD (done.filter (T.W i)).length 0 = T.c A[(done.filter (T.W i)).length] := by
        simp [List.getD, hm]
      rw [e1]
      by_cases z : (done.filter (T.W i)).length = A1.length
      · have : A[(done.filter (T.W i)).length] = t := by
          have : A[(done.filter (T.W i)).length]? = some t := by
            rw [eA, z]
            simp
          rw [List.getElem?_eq_getElem hm] at this
          exact Option.some.inj this
        rw [this]
        exact Int.le_refl _
      · have hmem : A[(done.filter (T.W i)).length] ∈ A2 := by
          have h1 : A[(done.filter (T.W i)).length]? = (t :: A2)[(done.filter (T.W i)).length - A1.length]? := by
            rw [eA, List.getElem?_append_right hj]
          obtain ⟨d, hd⟩ : ∃ d, (done.filter (T.W i)).length - A1.length = d + 1 := ⟨(done.filter (T.W i)).length - A1.length - 1, by omega⟩
          rw [hd, List.getElem?_cons_succ, List.getElem?_eq_getElem hm] at h1
          exact List.mem_of_getElem? h1.symm
        rw [eA] at hsort
        exact (List.pairwise_cons.mp (List.pairwise_append.mp hsort).2.1).1 _ hmem
    refine ⟨t, L0, htA, htn, hL0, fun i hi hSi => ?_, hct⟩
    have h1 := hinv i hi hSi
    have h2 := sum_drop_ge (l := A.map T.c) (m := (done.filter (T.W i)).length) (fun x hx => by obtain ⟨k, hk, e⟩ := List.mem_map.mp hx; rw [← e]; exact hc0 k hk) (by rw [List.length_map]; exact hless i hi hSi)
    have h3 := hct i hi hSi
    have h4 : s * (P - p i) = s * P - s * p i := Int.mul_sub _ _ _
    have h5 : s * L0 ≤ s * p i := by omega
    exact Int.le_of_mul_le_mul_left h5 (by omega)
  have low : ∀ {p : Nat → Int} {t : Nat} {L0 : Int}, t ∈ A → (∀ i, i < T.v → 0 ≤ p i) → (∀ i, i < T.v → S i = true → L0 ≤ p i) → 0 ≤ L0 → s * L0 ≤ gth T.v T.W p t L0 := by
    intro p t L0 ht hp hL h0
    have e : s * L0 = sumTo T.v fun i => if S i = true then L0 else 0 := by
      rw [← hs]
      have : ∀ v, sumTo v (fun i => if S i = true then (1 : Int) else 0) * L0 = sumTo v fun i => if S i = true then L0 else 0 := by
        intro v
        induction v with
        | zero => simp [sumTo]
        | succ v ih =>
          rw [sumTo_succ, sumTo_succ, Int.add_mul, ih]
          split <;> simp
      exact this T.v
    rw [e]
    refine sumTo_le fun i hi => ?_
    have := hp i hi
    unfold pay
    by_cases z : S i = true
    · rw [if_pos z, if_pos (hW i hi z t ht)]
      have := hL i hi z
      omega
    · rw [if_neg z]
      split <;> omega
  induction h with
  | @stop p done h0 =>
    intro nd hp hinv
    apply Classical.byContradiction
    intro hno
    have hless : ∀ i, i < T.v → S i = true → (done.filter (T.W i)).length < A.length := fun i hi hSi => by
      apply Classical.byContradiction
      intro z
      exact hno ⟨i, hi, hSi, by simp; omega⟩
    obtain ⟨t, L0, ht, htn, e, hL, _⟩ := key nd hp hinv hless
    have h1 := h0 t (hAn t ht) htn
    have hL0 : 0 ≤ L0 := by
      have := hc0 t ht
      rw [e] at this
      rcases Int.lt_or_le L0 0 with z | z
      · have : s * L0 < 0 := Int.mul_neg_of_pos_of_neg (by omega) z
        omega
      · exact z
    have h2 := low ht hp hL hL0
    have h3 := gth_le_hav T.v T.W p t L0
    omega
  | @step p done k L rest n r ih =>
    intro nd hp hinv
    by_cases hless : ∀ i, i < T.v → S i = true → (done.filter (T.W i)).length < A.length
    · obtain ⟨t, L0, ht, htn, e, hL, hct⟩ := key nd hp hinv hless
      have hL0 : 0 ≤ L0 := by
        have := hc0 t ht
        rw [e] at this
        rcases Int.lt_or_le L0 0 with z | z
        · have : s * L0 < 0 := Int.mul_neg_of_pos_of_neg (by omega) z
          omega
        · exact z
      have hLL : L ≤ L0 := by
        rcases Int.lt_or_le L0 L with z | z
        · have h1 := n.least t (hAn t ht) htn
          have h2 := low ht hp hL hL0
          have h3 := gth_mono (v := T.v) (W := T.W) (p := p) (k := t) (show L0 ≤ L - 1 by omega)
          omega
        · exact z
      obtain ⟨i, hi, hSi, hlen⟩ := ih (List.nodup_cons.mpr ⟨n.new, nd⟩) (fun i hi => lft_nn (hp i hi)) fun i hi hSi => by
        have h1 := hinv i hi hSi
        have e1 : s * (P - lft T.W p k L i) = s * (P - p i) + s * pay T.W p k L i := by
          unfold lft
          rw [← Int.mul_add]
          congr 1
          omega
        rw [e1, List.filter_cons]
        by_cases z : T.W i k = true
        · rw [if_pos z, List.length_cons, sum_take_succ (by rw [List.length_map]; exact hless i hi hSi)]
          have h2 := hct i hi hSi
          have h3 : pay T.W p k L i ≤ L0 := Int.le_trans (pay_leL (by have := n.pos; omega)) hLL
          have h4 : s * pay T.W p k L i ≤ s * L0 := Int.mul_le_mul_of_nonneg_left h3 (by omega)
          omega
        · rw [if_neg z]
          have h3 : pay T.W p k L i = 0 := by unfold pay; rw [if_neg z]
          rw [h3, Int.mul_zero]
          omega
      refine ⟨i, hi, hSi, ?_⟩
      rw [List.filter_cons] at hlen
      rw [List.map_cons, List.filter_cons]
      show _ ≤ _ + (if T.W i k = true then k :: (rest.map (·.1)).filter (T.W i) else (rest.map (·.1)).filter (T.W i)).length
      by_cases z : T.W i k = true
      · rw [if_pos z] at hlen ⊢
        simp at hlen ⊢
        omega
      · rw [if_neg z] at hlen ⊢
        exact hlen
    · have : ∃ i, i < T.v ∧ S i = true ∧ A.length ≤ (done.filter (T.W i)).length := by
        apply Classical.byContradiction
        intro hno
        exact hless fun i hi hSi => by
          apply Classical.byContradiction
          intro z
          exact hno ⟨i, hi, hSi, by omega⟩
      obtain ⟨i, hi, hSi, hl⟩ := this
      exact ⟨i, hi, hSi, by omega⟩

/-- rows in a list that is being made -/
noncomputable def RowsM (H : Hp) (l : Addr) (rows : List (List Int)) : Prop := ∃ bs : List Addr, H l = some (.lst (bs.map V.ref)) ∧ Paired (fun r b => b ≠ l ∧ H b = some (.lst (r.map V.int))) rows bs
theorem RowsM.rowsL {K : PySem.W.Frag} {H : Hp} {l : Addr} {rows : List (List Int)} (h : RowsM H l rows) : RowsL K H l rows := by
  obtain ⟨bs, h1, h2⟩ := h
  exact ⟨bs, h1, Paired.mapP h2 fun _ _ q => SqL.of q.2⟩
theorem RowsM.same {H H' : Hp} {l : Addr} {rows : List (List Int)} (s : Same H H') (h : RowsM H l rows) : RowsM H' l rows := by
  obtain ⟨bs, h1, h2⟩ := h
  exact ⟨bs, s _ _ h1, Paired.mapP h2 fun _ _ q => ⟨q.1, s _ _ q.2⟩⟩
theorem RowsM.snoc {H : Hp} {l b : Addr} {rows : List (List Int)} {r : List Int} (h : RowsM H l rows) (hb : H b = some (.lst (r.map V.int))) (hn : b ≠ l) :
    ∃ xs, H l = some (.lst xs) ∧ xs.length = rows.length ∧ RowsM (upd H l (.lst (xs ++ [.ref b]))) l (rows ++ [r]) := by
  obtain ⟨bs, h1, h2⟩ := h
  refine ⟨_, h1, by rw [List.length_map]; exact (Paired.length h2).symm, bs ++ [b], by rw [upd_same, List.map_append]; rfl, ?_⟩
  have key : ∀ {rs : List (List Int)} {bs : List Addr}, Paired (fun r b => b ≠ l ∧ H b = some (.lst (r.map V.int))) rs bs → ∀ H' : Hp, (∀ x, x ≠ l → H' x = H x) → Paired (fun r b => b ≠ l ∧ H' b = some (.lst (r.map V.int))) (rs ++ [r]) (bs ++ [b]) := by
    intro rs bs h H' e
    induction h with
    | nil => exact .cons ⟨hn, by rw [e _ hn]; exact hb⟩ .nil
    | cons q _ ih => exact .cons ⟨q.1, by rw [e _ q.1]; exact q.2⟩ ih
  exact key h2 _ fun x hx => upd_ne hx

/-- rows in new lists -/
noncomputable def RowsN (H0 H : Hp) (l : Addr) (rows : List (List Int)) : Prop := ∃ bs : List Addr, H l = some (.lst (bs.map V.ref)) ∧ Paired (fun r b => (H0 b = none ∧ b ≠ l) ∧ H b = some (.lst (r.map V.int))) rows bs
theorem RowsN.rowsM {H0 H : Hp} {l : Addr} {rows : List (List Int)} (h : RowsN H0 H l rows) : RowsM H l rows := by
  obtain ⟨bs, h1, h2⟩ := h
  exact ⟨bs, h1, Paired.mapP h2 fun _ _ q => ⟨q.1.2, q.2⟩⟩
theorem comp_copyR {K : PySem.W.Frag} {H : Hp} {a : Addr} {rows : List (List Int)} {σ : St} {Q : VK} (h : RowsAt K H a rows) (hz : rows.length ≤ 1000) (hd : ∀ l H', H l = none → Same H H' → RowsN H H' l rows → Q (.ref l) H') :
    tCompK [none] (gName 0) tYes (tCB (rListOf K) (tCons (tVar 0) tNil)) (Itl K a) σ H Q := by
  obtain ⟨bs, hB, hP⟩ := h
  have hbl : bs.length = rows.length := (Paired.length hP).symm
  have hlm : (bs.map V.ref).length = bs.length := List.length_map _
  refine comp_genY (ys_list (xs := bs.map V.ref) 0) (fun j => [some ((bs.map V.ref).getD j .non)]) (by rintro j σ' (rfl | ⟨k, rfl⟩) <;> rfl) (fun H' s => s.seq hB) (by rw [hlm, hbl]; exact Nat.le_trans hz line64) (fun _ => true)
    (fun l i v H' => ∃ b, v = .ref b ∧ (b ≠ l ∧ H b = none ∧ ∀ r, rows[i]? = some r → H' b = some (.lst (r.map V.int)))) (fun l i v H1 H2 s ⟨b, e, hl, h0, h⟩ => ⟨b, e, hl, h0, fun r hr => s _ _ hl (h r hr)⟩) (fun i hi H' G s k => k H' (Same.refl _)) ?_ ?_
  · intro l j hj _ H' G hl ⟨o, ho⟩ s k
    rw [hlm] at hj
    have e : (bs.map V.ref).getD j .non = .ref bs[j] := by simp [List.getD, hj]
    rw [e]
    obtain ⟨r, hr, hq⟩ := paired_at' hP (show bs[j]? = some bs[j] by simp [hj])
    have hq' := s.seq hq
    walk_at "v"
    rename_i b J g t h
    exact k _ _ ⟨b, rfl, (fun z => by rw [z, ho] at g; cases g), s.free g, fun r' hr' => by rw [hr] at hr'; cases hr'; exact h⟩ t
  · intro l ys H' f s h pr
    rw [List.filter_eq_self.mpr (fun _ _ => rfl)] at pr
    obtain ⟨tk, rfl, pk⟩ := paired_refs (T := fun b i => b ≠ l ∧ H b = none ∧ ∀ r, rows[i]? = some r → H' b = some (.lst (r.map V.int))) pr
    refine hd l H' f s ⟨tk, h, ?_⟩
    rw [hlm, hbl] at pk
    refine paired_range (T := fun b => b ≠ l ∧ H b = none) (Paired.mapP pk fun i b q => ⟨⟨q.1, q.2.1⟩, fun r hr => ⟨⟨q.2.1, q.1⟩, q.2.2 r hr⟩⟩)

/-- what is left behind steps -/
noncomputable def leftOf (ps : List Int) (sts : List (Nat × Int × List Int)) : List Int := (List.range ps.length).map fun i => ps.getD i 0 - (sts.map fun x => x.2.2.getD i 0).sum
theorem steps_bs {H : Hp} : ∀ {sts : List (Nat × Int × List Int)} {ts : List Addr}, Paired (StepAt H) sts ts → ∃ bs : List Addr, bs.length = sts.length ∧ ∀ (i : Nat) (x : Nat × Int × List Int), sts[i]? = some x → ∃ t b, ts[i]? = some t ∧ bs[i]? = some b ∧ H t = some (.tup [.int x.1, .int x.2.1, .ref b]) ∧ H b = some (.lst (x.2.2.map V.int))
  | _, _, .nil => ⟨[], rfl, fun i x h => by simp at h⟩
  | _, t :: _, .cons ⟨b, h1, h2⟩ r => by
    obtain ⟨bs, e, h⟩ := steps_bs r
    refine ⟨b :: bs, by simp [e], fun i x hx => ?_⟩
    cases i with
    | zero =>
      simp at hx
      subst hx
      exact ⟨t, b, rfl, rfl, h1, h2⟩
    | succ i => exact h i x (by simpa using hx)
/-- the walk's values, by places -/
structure StepsB (H : Hp) (l : Addr) (sts : List (Nat × Int × List Int)) (ts bs : List Addr) : Prop where
  lst : H l = some (.lst (ts.map V.ref))
  tl : ts.length = sts.length
  bl : bs.length = sts.length
  ats : ∀ (i : Nat) (x : Nat × Int × List Int), sts[i]? = some x → ∃ t b, ts[i]? = some t ∧ bs[i]? = some b ∧ H t = some (.tup [.int x.1, .int x.2.1, .ref b]) ∧ H b = some (.lst (x.2.2.map V.int))
theorem StepsAt.b {H : Hp} {l : Addr} {sts : List (Nat × Int × List Int)} (h : StepsAt H l sts) : ∃ ts bs, StepsB H l sts ts bs := by
  obtain ⟨ts, h1, h2⟩ := h
  obtain ⟨bs, e, h3⟩ := steps_bs h2
  exact ⟨ts, bs, h1, (Paired.length h2).symm, e, h3⟩
noncomputable def stN : Nat × Int × List Int := (0, 0, [])
theorem StepsB.ys {K : PySem.W.Frag} {H H' : Hp} {l : Addr} {sts : List (Nat × Int × List Int)} {ts bs : List Addr} (B : StepsB H l sts ts bs) (s : Same H H') :
    SqL K H' l (ts.map V.ref) ∧ ∀ i t, ts[i]? = some t → SqT K H' t [.int ((sts.getD i stN).1 : Nat), .int (sts.getD i stN).2.1, .ref (bs.getD i 0)] := by
  refine ⟨SqL.of (s _ _ B.lst), fun i t ht => ?_⟩
  have hi : i < sts.length := by rw [← B.tl]; exact (List.getElem?_eq_some_iff.mp ht).1
  obtain ⟨t', b, a1, a2, a3, _⟩ := B.ats i sts[i] (by simp [hi])
  rw [ht] at a1
  cases a1
  have e1 : sts.getD i stN = sts[i] := by simp [List.getD, hi]
  have e2 : bs.getD i 0 = b := by rw [List.getD, a2]; rfl
  rw [e1, e2]
  exact SqT.of (s _ _ a3)
theorem StepsB.paid {K : PySem.W.Frag} {H H' : Hp} {l : Addr} {sts : List (Nat × Int × List Int)} {ts bs : List Addr} (B : StepsB H l sts ts bs) (s : Same H H') {i : Nat} (hi : i < sts.length) : SqL K H' (bs.getD i 0) ((sts.getD i stN).2.2.map V.int) := by
  obtain ⟨t', b, a1, a2, _, a4⟩ := B.ats i sts[i] (by simp [hi])
  have e1 : sts.getD i stN = sts[i] := by simp [List.getD, hi]
  have e2 : bs.getD i 0 = b := by rw [List.getD, a2]; rfl
  rw [e1, e2]
  exact SqL.of (s _ _ a4)

/-! for the choosing's own functions -/
theorem next_nil : NextOk [] none := fun o h => by simp at h
theorem next_none {os : List (Option Int)} {k : Option Nat} (h : NextOk os k) : NextOk (os ++ [none]) k := by
  cases k with
  | none =>
    intro o ho
    rcases List.mem_append.mp ho with h1 | h1
    · exact h o h1
    · simpa using h1
  | some k =>
    obtain ⟨L, h1, h2⟩ := h
    have hk := (List.getElem?_eq_some_iff.mp h1).1
    refine ⟨L, by rw [List.getElem?_append_left hk]; exact h1, fun j M hj => ?_⟩
    by_cases hjl : j < os.length
    · rw [List.getElem?_append_left hjl] at hj
      exact h2 j M hj
    · rw [List.getElem?_append_right (by omega)] at hj
      cases e : j - os.length with
      | zero => rw [e] at hj; simp at hj
      | succ n => rw [e] at hj; simp at hj
theorem next_first {os : List (Option Int)} {M : Int} (h : NextOk os none) : NextOk (os ++ [some M]) (some os.length) := by
  refine ⟨M, by simp, fun j N hj => ?_⟩
  by_cases hjl : j < os.length
  · rw [List.getElem?_append_left hjl] at hj
    have := h _ (List.mem_of_getElem? hj)
    cases this
  · rw [List.getElem?_append_right (by omega)] at hj
    cases e : j - os.length with
    | zero =>
      rw [e] at hj
      have : M = N := by simpa using hj
      subst this
      exact ⟨Int.le_refl _, fun z => by omega⟩
    | succ n => rw [e] at hj; simp at hj
theorem next_less {os : List (Option Int)} {k : Nat} {L M : Int} (h : NextOk os (some k)) (hk : os[k]? = some (some L)) (hM : M < L) : NextOk (os ++ [some M]) (some os.length) := by
  obtain ⟨L', h1, h2⟩ := h
  rw [hk] at h1
  cases h1
  refine ⟨M, by simp, fun j N hj => ?_⟩
  by_cases hjl : j < os.length
  · rw [List.getElem?_append_left hjl] at hj
    have := (h2 j N hj).1
    exact ⟨by omega, fun _ => by omega⟩
  · rw [List.getElem?_append_right (by omega)] at hj
    cases e : j - os.length with
    | zero =>
      rw [e] at hj
      have : M = N := by simpa using hj
      subst this
      exact ⟨Int.le_refl _, fun z => by omega⟩
    | succ n => rw [e] at hj; simp at hj
theorem next_stay {os : List (Option Int)} {k : Nat} {L M : Int} (h : NextOk os (some k)) (hk : os[k]? = some (some L)) (hM : ¬ M < L) : NextOk (os ++ [some M]) (some k) := by
  have hkl := (List.getElem?_eq_some_iff.mp hk).1
  obtain ⟨L', h1, h2⟩ := h
  rw [hk] at h1
  cases h1
  refine ⟨L, by rw [List.getElem?_append_left hkl]; exact hk, fun j N hj => ?_⟩
  by_cases hjl : j < os.length
  · rw [List.getElem?_append_left hjl] at hj
    exact h2 j N hj
  · rw [List.getElem?_append_right (by omega)] at hj
    cases e : j - os.length with
    | zero =>
      rw [e] at hj
      have : M = N := by simpa using hj
      subst this
      exact ⟨by omega, fun z => by omega⟩
    | succ n => rw [e] at hj; simp at hj
/-- the wanters by their numbers -/
noncomputable def wantN (rows : List (List Int)) (k : Nat) : List Nat := (List.range rows.length).filter fun i => WR rows i k
theorem common_one (rows : List (List Int)) (k : Nat) : commonF rows [(k : Int)] = (wantN rows k).map fun i : Nat => (i : Int) := by
  unfold commonF wantN WR
  congr 2
  funext i
  simp
theorem mem_common {rows : List (List Int)} {k i : Nat} : ((i : Int) ∈ commonF rows [(k : Int)]) ↔ WR rows i k = true := by
  rw [common_one, mem_nats]
  unfold wantN
  rw [List.mem_filter]
  constructor
  · exact fun h => h.2
  · intro h
    refine ⟨List.mem_range.mpr ?_, h⟩
    rcases Nat.lt_or_ge i rows.length with c | c
    · exact c
    · rw [WR_out c] at h
      cases h
theorem want_sum (rows : List (List Int)) (ps : List Int) (k : Nat) : ((wantN rows k).map (PF ps)).sum = hav rows.length (WR rows) (PF ps) k := by
  unfold wantN
  rw [sum_filter]
  rfl
theorem want_gat (rows : List (List Int)) (ps : List Int) (k : Nat) (L : Int) : gat ((wantN rows k).map (PF ps)) L = gth rows.length (WR rows) (PF ps) k L := by
  unfold gat wantN
  rw [List.map_map, sum_filter]
  rfl
theorem wantN_len (rows : List (List Int)) (k : Nat) : (wantN rows k).length ≤ rows.length := by
  unfold wantN
  have := List.length_filter_le (fun i => WR rows i k) (List.range rows.length)
  rwa [List.length_range] at this
theorem wantN_lt {rows : List (List Int)} {k i : Nat} (h : i ∈ wantN rows k) : i < rows.length := List.mem_range.mp (List.mem_filter.mp h).1
theorem leftS_get (rows : List (List Int)) : ∀ (r : List (Nat × Int)) (ps : List Int) (i : Nat), i < ps.length → (leftS rows ps r).getD i 0 = ps.getD i 0 - ((stepsF rows ps r).map fun x => x.2.2.getD i 0).sum
  | [], ps, i, _ => by simp [leftS, stepsF]
  | (k, L) :: r, ps, i, hi => by
    rw [leftS, leftS_get rows r (leftF rows ps k L) i (by rw [leftF_len]; exact hi), stepsF, List.map_cons, List.sum_cons]
    have e1 : (leftF rows ps k L).getD i 0 = ps.getD i 0 - pay (WR rows) (PF ps) k L i := by
      unfold leftF
      simp [List.getD, hi, lft, PF]
    have e2 : (paidF rows ps k L).getD i 0 = pay (WR rows) (PF ps) k L i := by
      unfold paidF
      simp [List.getD, hi]
    rw [e1, e2]
    omega
theorem leftOf_steps (rows : List (List Int)) (ps : List Int) (r : List (Nat × Int)) : leftOf ps (stepsF rows ps r) = leftS rows ps r := by
  apply List.ext_getElem
  · unfold leftOf
    rw [List.length_map, List.length_range, leftS_len]
  · intro i h1 h2
    have hi : i < ps.length := by rw [leftS_len] at h2; exact h2
    have := leftS_get rows r ps i hi
    have e : (leftS rows ps r).getD i 0 = (leftS rows ps r)[i] := by simp [List.getD, h2]
    rw [e] at this
    rw [this]
    unfold leftOf
    simp
theorem stepsF_1 (rows : List (List Int)) (ps : List Int) (r : List (Nat × Int)) : (stepsF rows ps r).map (·.1) = r.map (·.1) := by
  have := congrArg (List.map (·.1)) (stepsF_works rows ps r)
  rw [List.map_map] at this
  exact this
/-- the first steps of a choosing -/
structure Pre (cs : List Int) (rows : List (List Int)) (ps : List Int) (r : List (Nat × Int)) : Prop where
  nd : (r.map (·.1)).Nodup
  lt : ∀ x ∈ r, x.1 < cs.length
  on : ∀ rest, Run (townT cs rows) (PF (leftS rows ps r)) (r.map (·.1)).reverse rest → Run (townT cs rows) (PF ps) [] (r ++ rest)
theorem pre_nil (cs : List Int) (rows : List (List Int)) (ps : List Int) : Pre cs rows ps [] := ⟨List.nodup_nil, fun _ h => by simp at h, fun _ h => h⟩
theorem Pre.len {cs : List Int} {rows : List (List Int)} {ps : List Int} {r : List (Nat × Int)} (h : Pre cs rows ps r) : r.length ≤ cs.length := by
  have := nodup_len cs.length _ h.nd fun x hx => by
    obtain ⟨y, hy, e⟩ := List.mem_map.mp hx
    rw [← e]
    exact h.lt y hy
  rwa [List.length_map] at this
theorem Pre.snoc {cs : List Int} {rows : List (List Int)} {ps : List Int} {r : List (Nat × Int)} {k : Nat} {L : Int} (h : Pre cs rows ps r) (hl : ps.length = rows.length) (n : Nx (townT cs rows) (PF (leftS rows ps r)) (r.map (·.1)) k L) : Pre cs rows ps (r ++ [(k, L)]) := by
  refine ⟨?_, ?_, ?_⟩
  · rw [List.map_append]
    refine List.nodup_append.mpr ⟨h.nd, by simp, ?_⟩
    intro a ha b hb e
    have : b = k := by simpa using hb
    subst this
    subst e
    exact n.new ha
  · intro x hx
    rcases List.mem_append.mp hx with z | z
    · exact h.lt x z
    · have : x = (k, L) := by simpa using z
      subst this
      exact n.lt
  · intro rest hr
    rw [leftS_snoc, PF_leftF (by rw [leftS_len]; exact hl), List.map_append, List.reverse_append] at hr
    have hr : Run (townT cs rows) (lft (WR rows) (PF (leftS rows ps r)) k L) (k :: (r.map (·.1)).reverse) rest := hr
    have := h.on ((k, L) :: rest) (.step (nx_congr (fun j => by simp) n) hr)
    rwa [List.append_assoc]
theorem Pre.stop {cs : List Int} {rows : List (List Int)} {ps : List Int} {r : List (Nat × Int)} (h : Pre cs rows ps r) (n : ∀ k, k < cs.length → k ∉ r.map (·.1) → hav rows.length (WR rows) (PF (leftS rows ps r)) k < (townT cs rows).c k) : Run (townT cs rows) (PF ps) [] r := by
  have := h.on [] (.stop fun k hk hn => n k hk fun z => hn (by simpa using z))
  rwa [List.append_nil] at this
theorem PF_of_getD {ps : List Int} {i : Nat} (h : i < ps.length) : (ps.map V.int)[i]? = some (V.int (PF ps i)) := by
  unfold PF
  simp [List.getD, h]
theorem paired_mapne {H0 H : Hp} {ls : Addr} {o : HO} {xs : List V} {sts : List (Nat × Int × List Int)} {ts : List Addr} (h : Paired (StepNew H0 H ls) sts ts) (hl : H ls = some (.lst xs)) : Paired (StepNew H0 (upd H ls o) ls) sts ts := by
  refine Paired.mapP h fun x t ⟨b, z1, z2, z3, z4, z5⟩ => ⟨b, z1, z2, z3, ?_, ?_⟩
  · rw [upd_ne fun e => by rw [e, hl] at z4; cases z4]
    exact z4
  · rw [upd_ne z3]
    exact z5

/-! papers: rows (voter, left) -/
theorem paired_mapL {α β γ : Type} {F : β → γ → Prop} {g : α → β} : ∀ {xs : List α} {ys : List γ}, Paired (fun x y => F (g x) y) xs ys → Paired F (xs.map g) ys
  | _, _, .nil => .nil
  | _, _, .cons h t => .cons h (paired_mapL t)

/-! lists of works, rising -/
noncomputable def castL (ws : List Nat) : List Int := ws.map fun k : Nat => (k : Int)
/-- the group of a list of works -/
noncomputable def grpF (rows : List (List Int)) (done ws : List Nat) : List Nat := (List.range rows.length).filter fun i => (ws.all fun w => WR rows i w) && decide (((rows.getD i []).filter fun k => decide (k ∈ castL done)).length < ws.length)
noncomputable def cstF (cs : List Int) (ws : List Nat) : Int := (ws.map fun w => cs.getD w 0).sum
noncomputable def NoWrong (coins : Int) (cs : List Int) (rows : List (List Int)) (done ws : List Nat) : Prop := grpF rows done ws ≠ [] → coins * ((grpF rows done ws).length : Int) < cstF cs ws * (rows.length : Int)
theorem sum_ones (n : Nat) (p : Nat → Bool) : sumTo n (fun i => if p i = true then 1 else 0) = (((List.range n).filter p).length : Int) := by
  rw [← sum_filter n (p := p) (f := fun _ => 1)]
  generalize (List.range n).filter p = l
  induction l with
  | nil => rfl
  | cons x r ih =>
    rw [List.map_cons, List.sum_cons, ih, List.length_cons]
    omega
theorem perm_sum {α : Type} {f : α → Int} {a b : List α} (h : a.Perm b) : (a.map f).sum = (b.map f).sum := by
  induction h with
  | nil => rfl
  | cons x _ ih => simp only [List.map_cons, List.sum_cons, ih]
  | swap x y l => simp only [List.map_cons, List.sum_cons]; omega
  | trans _ _ i1 i2 => exact i1.trans i2
noncomputable def insC (f : Nat → Int) (x : Nat) : List Nat → List Nat
  | [] => [x]
  | y :: r => if f x ≤ f y then x :: y :: r else y :: insC f x r
noncomputable def sortC (f : Nat → Int) : List Nat → List Nat
  | [] => []
  | x :: r => insC f x (sortC f r)
theorem insC_perm (f : Nat → Int) (x : Nat) : ∀ l, (insC f x l).Perm (x :: l)
  | [] => .refl _
  | y :: r => by
    unfold insC
    split
    · exact .refl _
    · exact .trans (.cons _ (insC_perm f x r)) (.swap _ _ _)
theorem sortC_perm (f : Nat → Int) : ∀ l, (sortC f l).Perm l
  | [] => .refl _
  | x :: r => .trans (insC_perm f x _) (.cons _ (sortC_perm f r))
theorem insC_sorted (f : Nat → Int) (x : Nat) : ∀ l, l.Pairwise (fun a b => f a ≤ f b) → (insC f x l).Pairwise (fun a b => f a ≤ f b)
  | [], _ => List.pairwise_singleton _ _
  | y :: r, h => by
    obtain ⟨h1, h2⟩ := List.pairwise_cons.mp h
    unfold insC
    split
    · rename_i c
      refine List.pairwise_cons.mpr ⟨fun z hz => ?_, h⟩
      rcases List.mem_cons.mp hz with e | e
      · rw [e]; exact c
      · exact Int.le_trans c (h1 z e)
    · rename_i c
      refine List.pairwise_cons.mpr ⟨fun z hz => ?_, insC_sorted f x r h2⟩
      rcases List.mem_cons.mp ((insC_perm f x r).mem_iff.mp hz) with e | e
      · rw [e]; omega
      · exact h1 z e
theorem sortC_sorted (f : Nat → Int) : ∀ l, (sortC f l).Pairwise (fun a b => f a ≤ f b)
  | [] => .nil
  | x :: r => insC_sorted f x _ (sortC_sorted f r)
theorem dvd_tog_pow {v s w : Nat} (hv : v ≤ 20) (h1 : 1 ≤ s) (h2 : s ≤ v) : ((s : Nat) : Int) ∣ ((tog v ^ (w + 1) : Nat) : Int) := by
  have := tog_dvd v (by omega) s (by omega) ⟨h1, h2⟩
  rw [Nat.pow_succ]
  exact Int.natCast_dvd_natCast.mpr (Nat.dvd_mul_left_of_dvd this _)
/-- equal purses, and the works of the choosing among those done: no group is wronged -/
theorem no_wrong {cs : List Int} {rows : List (List Int)} {coins : Nat} {P : Int} {run : List (Nat × Int)} {done ws : List Nat} (hcb : ∀ x ∈ cs, 1 ≤ x ∧ x ≤ 1000000000000) (hv1 : 1 ≤ rows.length) (hv : rows.length ≤ 20)
    (hP : P * (rows.length : Int) = (coins : Int) * ((tog rows.length ^ (cs.length + 1) : Nat) : Int)) (hP0 : 0 ≤ P) (hrun : Run (townT cs rows) (PF (List.replicate rows.length P)) [] run) (hd : ∀ x ∈ run, x.1 ∈ done)
    (hnd : ∀ r ∈ rows, r.Nodup) (hws : ws.Nodup) (hwl : ∀ w ∈ ws, w < cs.length) : NoWrong coins cs rows done ws := by
  intro hne
  rcases Int.lt_or_le ((coins : Int) * ((grpF rows done ws).length : Int)) (cstF cs ws * (rows.length : Int)) with c | c
  · exact c
  exfalso
  have hs1 : 1 ≤ (grpF rows done ws).length := List.length_pos_iff.mpr hne
  have hsv : (grpF rows done ws).length ≤ rows.length := by
    have := List.length_filter_le (fun i => (ws.all fun w => WR rows i w) && decide (((rows.getD i []).filter fun k => decide (k ∈ castL done)).length < ws.length)) (List.range rows.length)
    rw [List.length_range] at this
    exact this
  let S : Nat → Bool := fun i => (ws.all fun w => WR rows i w) && decide (((rows.getD i []).filter fun k => decide (k ∈ castL done)).length < ws.length)
  have hS : sumTo rows.length (fun i => if S i = true then 1 else 0) = ((grpF rows done ws).length : Int) := sum_ones rows.length S
  have hgp := togpow_pos rows.length (cs.length + 1)
  let A := sortC (townT cs rows).c ws
  have hA := sortC_perm (townT cs rows).c ws
  have hc0 : ∀ k ∈ A, 0 ≤ (townT cs rows).c k := fun k hk => by
    have := c_pos (rows := rows) hcb k (hwl k (hA.mem_iff.mp hk))
    omega
  have hsum : (A.map (townT cs rows).c).sum = cstF cs ws * ((tog rows.length ^ (cs.length + 1) : Nat) : Int) := by
    rw [perm_sum hA]
    unfold cstF townT
    show (ws.map fun k => cs.getD k 0 * ((tog rows.length ^ (cs.length + 1) : Nat) : Int)).sum = _
    generalize ((tog rows.length ^ (cs.length + 1) : Nat) : Int) = g
    clear hws hwl hne c hs1 hsv hS hA hc0 S A
    induction ws with
    | nil => simp
    | cons x r ih =>
      rw [List.map_cons, List.sum_cons, List.map_cons, List.sum_cons, ih, Int.add_mul]
  have hcost : (A.map (townT cs rows).c).sum ≤ ((grpF rows done ws).length : Int) * P := by
    rw [hsum]
    have g0 : (0 : Int) ≤ ((tog rows.length ^ (cs.length + 1) : Nat) : Int) := by omega
    generalize ((tog rows.length ^ (cs.length + 1) : Nat) : Int) = g at *
    generalize ((grpF rows done ws).length : Int) = s at *
    have v0 : (0 : Int) < (rows.length : Int) := by omega
    refine Int.le_of_mul_le_mul_right ?_ v0
    have e1 : s * P * (rows.length : Int) = (coins : Int) * s * g := by rw [Int.mul_assoc, hP]; simp only [Int.mul_comm, Int.mul_left_comm]
    have e2 : cstF cs ws * g * (rows.length : Int) = cstF cs ws * (rows.length : Int) * g := by rw [Int.mul_assoc, Int.mul_comm g, Int.mul_assoc]
    rw [e1, e2]
    exact Int.mul_le_mul_of_nonneg_right c g0
  obtain ⟨i, hi, hSi, hle⟩ := run_group (T := townT cs rows) (S := S) (A := A) (P := P) hS (by omega) (hA.nodup_iff.mpr hws) (fun k hk => hwl k (hA.mem_iff.mp hk)) (fun i _ hSi k hk => by
      have h1 : (ws.all fun w => WR rows i w) = true := (Bool.and_eq_true_iff.mp hSi).1
      exact List.all_eq_true.mp h1 k (hA.mem_iff.mp hk)) (sortC_sorted _ _) (fun k _ => by
      refine Int.dvd_trans (dvd_tog_pow hv hs1 hsv) ⟨cs.getD k 0, Int.mul_comm _ _⟩) hc0 hcost hrun List.nodup_nil (fun i hi => by
      have hi : i < rows.length := hi
      unfold PF
      simp [List.getD, hi]
      exact hP0) (fun i hi _ => by
      have hi : i < rows.length := hi
      have e : PF (List.replicate rows.length P) i = P := by unfold PF; simp [List.getD, hi]
      rw [e]
      simp)
  have hi : i < rows.length := hi
  have h2 : ((rows.getD i []).filter fun k => decide (k ∈ castL done)).length < ws.length := of_decide_eq_true (Bool.and_eq_true_iff.mp hSi).2
  have hAl : A.length = ws.length := hA.length_eq
  obtain ⟨hrk, hrn⟩ := run_works hrun
  have hr : rows.getD i [] ∈ rows := by simp [List.getD, hi]
  have h3 : (((run.map (·.1)).filter ((townT cs rows).W i)).map fun k : Nat => (k : Int)).length ≤ ((rows.getD i []).filter fun k => decide (k ∈ castL done)).length := by
    have hfn : ((run.map (·.1)).filter ((townT cs rows).W i)).Nodup := List.Pairwise.filter _ hrn
    refine nodup_sub (List.Pairwise.map _ (fun a b (hab : a ≠ b) z => hab (by omega)) hfn) fun x hx => ?_
    obtain ⟨k, hk, e⟩ := List.mem_map.mp hx
    obtain ⟨k1, k2⟩ := List.mem_filter.mp hk
    rw [← e]
    refine List.mem_filter.mpr ⟨of_decide_eq_true k2, decide_eq_true ?_⟩
    obtain ⟨y, hy, ey⟩ := List.mem_map.mp k1
    rw [← ey]
    exact List.mem_map.mpr ⟨y.1, hd y hy, rfl⟩
  rw [List.length_map] at h3
  have h4 : ([] : List Nat).filter ((townT cs rows).W i) = [] := rfl
  rw [hAl, h4, List.length_nil] at hle
  omega

/-! filling: the works by rank, as long as one can be paid -/
/-- how many want k -/
noncomputable def cntW (rows : List (List Int)) (k : Nat) : Nat := (rows.filter fun r => decide ((k : Int) ∈ r)).length
/-- the rank of a work: most wanted, least cost, least number first -/
noncomputable def rankF (cs : List Int) (rows : List (List Int)) (k : Nat) : List Int := [-(cntW rows k : Int), cs.getD k 0, (k : Int)]
/-- the works that may be filled in -/
noncomputable def furtherF (cs : List Int) (rows : List (List Int)) (ks : List Nat) : List Nat := (List.range cs.length).filter fun k => decide (k ∉ ks) && decide (0 < cntW rows k)
/-- one walk by the ranks -/
noncomputable def grF (cs : List Int) : List Nat → Int → List Nat
  | [], _ => []
  | k :: r, over => if cs.getD k 0 ≤ over then k :: grF cs r (over - cs.getD k 0) else grF cs r over
noncomputable def costL (cs : List Int) (ks : List Nat) : Int := (ks.map fun k => cs.getD k 0).sum
theorem costL_app (cs : List Int) (a b : List Nat) : costL cs (a ++ b) = costL cs a + costL cs b := by
  unfold costL
  rw [List.map_append, List.sum_append]
theorem grF_sub (cs : List Int) : ∀ (r : List Nat) (over : Int), (grF cs r over).Sublist r
  | [], _ => .slnil
  | k :: r, over => by
    rw [grF]
    split
    · exact (grF_sub cs r _).cons_cons k
    · exact (grF_sub cs r over).cons k
theorem grF_cost (cs : List Int) : ∀ (r : List Nat) (over : Int), 0 ≤ over → costL cs (grF cs r over) ≤ over
  | [], over, h => by simpa [grF, costL] using h
  | k :: r, over, h => by
    rw [grF]
    split
    · have := grF_cost cs r (over - cs.getD k 0) (by omega)
      unfold costL at this ⊢
      rw [List.map_cons, List.sum_cons]
      omega
    · exact grF_cost cs r over h
/-- srt: the works that may be filled in, by rank -/
structure Ranked (cs : List Int) (rows : List (List Int)) (ks srt : List Nat) : Prop where
  pm : srt.Perm (furtherF cs rows ks)
  pw : srt.Pairwise fun a b => HT.lexLt (rankF cs rows a) (rankF cs rows b) = true
theorem rankF_inj {cs : List Int} {rows : List (List Int)} {a b : Nat} (h : rankF cs rows a = rankF cs rows b) : a = b := by
  unfold rankF at h
  simp at h
  omega
/-! lists of tuples of whole numbers as data -/

theorem purse_town {c v w : Nat} (hv1 : 1 ≤ v) (hv : v ≤ 20) : ((c * tog v ^ (w + 1) / v : Nat) : Int) * (v : Int) = (c : Int) * ((tog v ^ (w + 1) : Nat) : Int) ∧ ((tog v ^ w : Nat) : Int) ∣ ((c * tog v ^ (w + 1) / v : Nat) : Int) := by
  obtain ⟨b, hb⟩ := tog_dvd v (by omega) v (by omega) ⟨hv1, Nat.le_refl v⟩
  have e : c * tog v ^ (w + 1) = v * (c * b * tog v ^ w) := by
    rw [Nat.pow_succ]
    conv => lhs; rw [show tog v ^ w * tog v = tog v ^ w * (v * b) from by rw [← hb]]
    simp only [Nat.mul_comm, Nat.mul_left_comm, Nat.mul_assoc]
  have e2 : c * tog v ^ (w + 1) / v = c * b * tog v ^ w := by rw [e]; exact Nat.mul_div_cancel_left _ (by omega)
  refine ⟨?_, ?_⟩
  · have h3 : (c * tog v ^ (w + 1) / v) * v = c * tog v ^ (w + 1) := by rw [e2, Nat.mul_comm, ← e]
    exact_mod_cast h3
  · rw [e2]
    exact Int.natCast_dvd_natCast.mpr ⟨c * b, Nat.mul_comm _ _⟩
/-! plans: the works of a choosing cost no more than the coins -/
theorem runx_cost {T : Town} {p : Nat → Int} {done : List Nat} {run : List (Nat × Int)} (h : RunX T p done run) : (∀ i, i < T.v → 0 ≤ p i) → (run.map fun x => T.c x.1).sum ≤ sumTo T.v p := by
  induction h with
  | stop _ =>
    intro hp
    exact sumTo_nn hp
  | @step p done k L rest n ex _ ih =>
    intro hp
    have h1 := ih fun i hi => lft_nn (hp i hi)
    have h2 : sumTo T.v (lft T.W p k L) = sumTo T.v p - gth T.v T.W p k L := by
      unfold lft gth
      exact sumTo_sub _ _ _
    rw [List.map_cons, List.sum_cons]
    show T.c k + _ ≤ _
    omega
theorem perm_nd : ∀ {a b : List Nat}, a.Nodup → b.Nodup → (∀ k, k ∈ a ↔ k ∈ b) → a.Perm b
  | [], b, _, _, h => by
    have : b = [] := List.eq_nil_iff_forall_not_mem.mpr fun k hk => by simpa using (h k).mpr hk
    rw [this]
  | x :: a, b, ha, hb, h => by
    have hx : x ∈ b := (h x).mp (by simp)
    have h1 := List.perm_cons_erase hx
    refine .trans (.cons x ?_) h1.symm
    refine perm_nd (List.nodup_cons.mp ha).2 (hb.erase x) fun k => ?_
    rw [hb.mem_erase_iff]
    constructor
    · intro hk
      exact ⟨fun z => (List.nodup_cons.mp ha).1 (by rwa [← z]), (h k).mp (List.mem_cons_of_mem _ hk)⟩
    · intro hk
      exact (List.mem_cons.mp ((h k).mpr hk.2)).resolve_left hk.1
/-- a choosing with equal purses, and its works -/
structure PlanR (m : Nat) (cs : List Int) (rows : List (List Int)) (P : Int) (run : List (Nat × Int)) (ws : List Nat) : Prop where
  pv : P * (rows.length : Int) = (m : Int) * ((tog rows.length ^ (cs.length + 1) : Nat) : Int)
  p0 : 0 ≤ P
  rn : RunX (townT cs rows) (PF (List.replicate rows.length P)) [] run
  pw : ws.Pairwise (· < ·)
  mem : ∀ k, k ∈ ws ↔ k ∈ run.map (·.1)
theorem PlanR.nd {m : Nat} {cs : List Int} {rows : List (List Int)} {P : Int} {run : List (Nat × Int)} {ws : List Nat} (h : PlanR m cs rows P run ws) : ws.Nodup := List.Pairwise.imp (fun h => Nat.ne_of_lt h) h.pw
theorem PlanR.lt {m : Nat} {cs : List Int} {rows : List (List Int)} {P : Int} {run : List (Nat × Int)} {ws : List Nat} (h : PlanR m cs rows P run ws) : ∀ k ∈ ws, k < cs.length := fun k hk => by
  obtain ⟨x, hx, e⟩ := List.mem_map.mp ((h.mem k).mp hk)
  rw [← e]
  exact ((run_works h.rn.run).1 x hx).1
theorem PlanR.perm {m : Nat} {cs : List Int} {rows : List (List Int)} {P : Int} {run : List (Nat × Int)} {ws : List Nat} (h : PlanR m cs rows P run ws) : ws.Perm (run.map (·.1)) := perm_nd h.nd (run_works h.rn.run).2 h.mem
theorem PlanR.cost {m : Nat} {cs : List Int} {rows : List (List Int)} {P : Int} {run : List (Nat × Int)} {ws : List Nat} (h : PlanR m cs rows P run ws) : costL cs ws ≤ (m : Int) := by
  have hG := togpow_pos rows.length (cs.length + 1)
  have h1 := runx_cost h.rn fun i hi => by
    have hi : i < rows.length := hi
    have : PF (List.replicate rows.length P) i = P := by unfold PF; simp [List.getD, hi]
    rw [this]
    exact h.p0
  have e1 : sumTo (townT cs rows).v (PF (List.replicate rows.length P)) = (rows.length : Int) * P := by
    rw [← sumTo_const]
    refine sumTo_congr fun i hi => ?_
    have hi : i < rows.length := hi
    unfold PF
    simp [List.getD, hi]
  have e2 : (run.map fun x => (townT cs rows).c x.1).sum = costL cs (run.map (·.1)) * ((tog rows.length ^ (cs.length + 1) : Nat) : Int) := by
    unfold costL
    rw [List.map_map]
    show (run.map fun x => cs.getD x.1 0 * ((tog rows.length ^ (cs.length + 1) : Nat) : Int)).sum = _
    generalize ((tog rows.length ^ (cs.length + 1) : Nat) : Int) = G
    have : ∀ r : List (Nat × Int), (r.map fun x => cs.getD x.1 0 * G).sum = (r.map ((fun k => cs.getD k 0) ∘ fun x => x.1)).sum * G := by
      intro r
      induction r with
      | nil => simp
      | cons x r ih =>
        rw [List.map_cons, List.sum_cons, ih, List.map_cons, List.sum_cons, Int.add_mul]
        rfl
    exact this run
  rw [e1, e2, Int.mul_comm (rows.length : Int) P, h.pv] at h1
  have h2 : costL cs (run.map (·.1)) ≤ (m : Int) := Int.le_of_mul_le_mul_right h1 (by omega)
  have e3 : costL cs ws = costL cs (run.map (·.1)) := perm_sum h.perm
  omega

noncomputable def sp_paid_at (K : PySem.W.Frag) : Sp := spOf 2 fun vs H Q => ∃ (a : Addr) (ps : List Int) (lev : Int), vs = [.ref a, .int lev] ∧ SqL K H a (ps.map V.int) ∧ ps.length ≤ 64 ∧
  ∀ l H', H l = none → Same H H' → H' l = some (.lst ((ps.map (min · lev)).map V.int)) → Q (.ref l) H'

noncomputable def sp_rounded_up (_ : PySem.W.Frag) : Sp := spOf 2 fun vs H Q => ∃ m p : Int, vs = [.int m, .int p] ∧ 1 ≤ p ∧ p ≤ 1000 ∧ Q (.int ((m + p - 1) / p)) H

noncomputable def sp_level_for (K : PySem.W.Frag) : Sp := spOf 2 fun vs H Q => ∃ (a : Addr) (ps : List Int) (price : Int), vs = [.ref a, .int price] ∧ SqL K H a (ps.map V.int) ∧ ps.length ≤ 40 ∧ (∀ p ∈ ps, 0 ≤ p) ∧ 1 ≤ price ∧
  (ps.sum < price → ∀ H', Same H H' → Q .non H') ∧ (price ≤ ps.sum → ∀ L H', IsLev ps price L → Same H H' → Q (.int L) H')

noncomputable def sp_least_multiple (_ : PySem.W.Frag) : Sp := spOf 2 fun vs H Q => ∃ s n : Nat, vs = [.int s, .int n] ∧ 0 < s ∧ 0 < n ∧ Q (.int (Nat.lcm s n : Nat)) H

noncomputable def sp_together (_ : PySem.W.Frag) : Sp := spOf 1 fun vs H Q => ∃ n : Nat, vs = [.int n] ∧ n ≤ 20 ∧ Q (.int (tog n : Nat)) H

noncomputable def sp_grains_of (_ : PySem.W.Frag) : Sp := spOf 2 fun vs H Q => ∃ v w : Nat, vs = [.int v, .int w] ∧ 1 ≤ v ∧ v ≤ 20 ∧ w ≤ 12 ∧ Q (.int (tog v ^ (w + 1) : Nat)) H

noncomputable def sp_equal_purse (_ : PySem.W.Frag) : Sp := spOf 3 fun vs H Q => ∃ c v w : Nat, vs = [.int c, .int v, .int w] ∧ c ≤ 1000000000000 ∧ 1 ≤ v ∧ v ≤ 20 ∧ w ≤ 12 ∧ Q (.int (c * tog v ^ (w + 1) / v : Nat)) H

noncomputable def sp_wants_all (K : PySem.W.Frag) : Sp := spOf 2 fun vs H Q => ∃ (a b : Addr) (ws ks : List Int), vs = [.ref a, .ref b] ∧ SqL K H a (ws.map V.int) ∧ SqL K H b (ks.map V.int) ∧ ks.length ≤ 64 ∧ ∀ H', Same H H' → Q (.bl (ks.all fun k => decide (k ∈ ws))) H'

noncomputable def sp_common_of (K : PySem.W.Frag) : Sp := spOf 2 fun vs H Q => ∃ (a b : Addr) (rows : List (List Int)) (ks : List Int), vs = [.ref a, .ref b] ∧ RowsAt K H a rows ∧ SqL K H b (ks.map V.int) ∧ rows.length ≤ 64 ∧ ks.length ≤ 64 ∧
  ∀ l H', H l = none → Same H H' → H' l = some (.lst ((commonF rows ks).map V.int)) → Q (.ref l) H'

noncomputable def sp_wanters_of (K : PySem.W.Frag) : Sp := spOf 2 fun vs H Q => ∃ (a : Addr) (rows : List (List Int)) (k : Int), vs = [.ref a, .int k] ∧ RowsAt K H a rows ∧ rows.length ≤ 64 ∧
  ∀ l H', H l = none → Same H H' → H' l = some (.lst ((commonF rows [k]).map V.int)) → Q (.ref l) H'

noncomputable def sp_cost_of (K : PySem.W.Frag) : Sp := spOf 2 fun vs H Q => ∃ (a b : Addr) (cs ks : List Int), vs = [.ref a, .ref b] ∧ SqL K H a (cs.map V.int) ∧ SqL K H b (ks.map V.int) ∧ ks.length ≤ 64 ∧ (∀ k ∈ ks, ∃ n : Nat, k = n ∧ n < cs.length) ∧
  ∀ H', Same H H' → Q (.int (ks.map fun k => cs.getD k.toNat 0).sum) H'

noncomputable def sp_purses_of (K : PySem.W.Frag) : Sp := spOf 3 fun vs H Q => ∃ (c : Nat) (a b : Addr) (xs ys : List V), vs = [.int c, .ref a, .ref b] ∧ c ≤ 1000000000000 ∧ SqL K H a xs ∧ xs.length ≤ 12 ∧ SqL K H b ys ∧ 1 ≤ ys.length ∧ ys.length ≤ 20 ∧
  ∀ l H', H l = none → Same H H' → H' l = some (.lst ((List.replicate ys.length ((c * tog ys.length ^ (xs.length + 1) / ys.length : Nat) : Int)).map V.int)) → Q (.ref l) H'

noncomputable def sp_prices_of (K : PySem.W.Frag) : Sp := spOf 2 fun vs H Q => ∃ (a b : Addr) (cs : List Int) (rows : List (List Int)), vs = [.ref a, .ref b] ∧ SqL K H a (cs.map V.int) ∧ RowsAt K H b rows ∧ cs.length ≤ 12 ∧ (∀ x ∈ cs, 1 ≤ x ∧ x ≤ 1000000000000) ∧ 1 ≤ rows.length ∧ rows.length ≤ 20 ∧
  ∀ l H', H l = none → Same H H' → H' l = some (.lst ((cs.map (· * ((tog rows.length ^ (cs.length + 1) : Nat) : Int))).map V.int)) → Q (.ref l) H'

noncomputable def sp_offer_of (K : PySem.W.Frag) : Sp := spOf 4 fun vs H Q => ∃ (a b : Addr) (ps : List Int) (rows : List (List Int)) (k : Nat) (price : Int), vs = [.ref a, .ref b, .int k, .int price] ∧ SqL K H a (ps.map V.int) ∧ RowsAt K H b rows ∧ rows.length ≤ 20 ∧ ps.length = rows.length ∧ (∀ p ∈ ps, 0 ≤ p) ∧ 1 ≤ price ∧
  (hav rows.length (WR rows) (PF ps) k < price → ∀ H', Same H H' → Q .non H') ∧ (price ≤ hav rows.length (WR rows) (PF ps) k → ∀ L H', 1 ≤ L → price ≤ gth rows.length (WR rows) (PF ps) k L → gth rows.length (WR rows) (PF ps) k (L - 1) < price → Same H H' → Q (.int L) H')

noncomputable def sp_offers_of (K : PySem.W.Frag) : Sp := spOf 4 fun vs H Q => ∃ (a b c d : Addr) (ps cs : List Int) (rows : List (List Int)) (done : List Nat), vs = [.ref a, .ref b, .ref c, .ref d] ∧ SqL K H a (ps.map V.int) ∧ SqL K H b (cs.map V.int) ∧ RowsAt K H c rows ∧ SqL K H d ((done.map fun k : Nat => (k : Int)).map V.int) ∧
  cs.length ≤ 12 ∧ (∀ x ∈ cs, 1 ≤ x ∧ x ≤ 1000000000000) ∧ 1 ≤ rows.length ∧ rows.length ≤ 20 ∧ ps.length = rows.length ∧ (∀ p ∈ ps, 0 ≤ p) ∧ done.length ≤ 12 ∧
  ∀ l H' (os : List (Option Int)), H l = none → Same H H' → H' l = some (.lst (os.map oV)) → os.length = cs.length → (∀ j o, os[j]? = some o → OffOk (townT cs rows) (PF ps) done j o) → Q (.ref l) H'

noncomputable def sp_next_of (K : PySem.W.Frag) : Sp := spOf 1 fun vs H Q => ∃ (a : Addr) (os : List (Option Int)), vs = [.ref a] ∧ SqL K H a (os.map oV) ∧ os.length ≤ 12 ∧ ∀ (k : Option Nat) H', NextOk os k → Same H H' → Q (oV (k.map fun j : Nat => (j : Int))) H'

noncomputable def sp_payments_of (K : PySem.W.Frag) : Sp := spOf 4 fun vs H Q => ∃ (a b : Addr) (ps : List Int) (rows : List (List Int)) (k : Nat) (L : Int), vs = [.ref a, .ref b, .int k, .int L] ∧ SqL K H a (ps.map V.int) ∧ RowsAt K H b rows ∧ rows.length = ps.length ∧ ps.length ≤ 64 ∧ ∀ l H', H l = none → Same H H' → H' l = some (.lst ((paidF rows ps k L).map V.int)) → Q (.ref l) H'

noncomputable def sp_works_of (_ : PySem.W.Frag) : Sp := spOf 1 fun vs H Q => ∃ (a : Addr) (sts : List (Nat × Int × List Int)), vs = [.ref a] ∧ StepsAt H a sts ∧ sts.length ≤ 12 ∧ (∀ x ∈ sts, x.1 < 12) ∧ (sts.map (·.1)).Nodup ∧
  ∀ l H' (ws : List Nat), H l = none → Same H H' → H' l = some (.lst ((ws.map fun k : Nat => (k : Int)).map V.int)) → ws.Pairwise (· < ·) → (∀ k, k ∈ ws ↔ k ∈ sts.map (·.1)) → Q (.ref l) H'

noncomputable def sp_paid_by (K : PySem.W.Frag) : Sp := spOf 2 fun vs H Q => ∃ (a : Addr) (sts : List (Nat × Int × List Int)) (i : Nat), vs = [.ref a, .int i] ∧ StepsAt H a sts ∧ sts.length ≤ 64 ∧ (∀ x ∈ sts, i < x.2.2.length) ∧ ∀ H', Same H H' → Q (.int (sts.map fun x => x.2.2.getD i 0).sum) H'

noncomputable def sp_left_of (K : PySem.W.Frag) : Sp := spOf 2 fun vs H Q => ∃ (a b : Addr) (ps : List Int) (sts : List (Nat × Int × List Int)), vs = [.ref a, .ref b] ∧ SqL K H a (ps.map V.int) ∧ StepsAt H b sts ∧ ps.length ≤ 20 ∧ sts.length ≤ 12 ∧ (∀ x ∈ sts, x.2.2.length = ps.length) ∧
  ∀ l H', H l = none → Same H H' → H' l = some (.lst ((leftOf ps sts).map V.int)) → Q (.ref l) H'

noncomputable def sp_step_behind (K : PySem.W.Frag) : Sp := spOf 4 fun vs H Q => ∃ (a b c d : Addr) (ps cs : List Int) (rows : List (List Int)) (sts : List (Nat × Int × List Int)), vs = [.ref a, .ref b, .ref c, .ref d] ∧ SqL K H a (ps.map V.int) ∧ SqL K H b (cs.map V.int) ∧ RowsAt K H c rows ∧ StepsAt H d sts ∧
  cs.length ≤ 12 ∧ (∀ x ∈ cs, 1 ≤ x ∧ x ≤ 1000000000000) ∧ 1 ≤ rows.length ∧ rows.length ≤ 20 ∧ ps.length = rows.length ∧ sts.length ≤ 12 ∧ (∀ x ∈ sts, x.1 < 12) ∧ (sts.map (·.1)).Nodup ∧ (∀ x ∈ sts, x.2.2.length = ps.length) ∧ (∀ p ∈ leftOf ps sts, 0 ≤ p) ∧
  ((∀ k, k < cs.length → k ∉ sts.map (·.1) → hav rows.length (WR rows) (PF (leftOf ps sts)) k < (townT cs rows).c k) → ∀ H', Same H H' → Q .non H') ∧
  (∀ k L, Nx (townT cs rows) (PF (leftOf ps sts)) (sts.map (·.1)) k L → ∀ t b H', H t = none → H b = none → Same H H' → H' t = some (.tup [.int k, .int L, .ref b]) → H' b = some (.lst ((paidF rows (leftOf ps sts) k L).map V.int)) → Q (.ref t) H')

noncomputable def sp_choose (K : PySem.W.Frag) : Sp := spOf 3 fun vs H Q => ∃ (a b c : Addr) (ps cs : List Int) (rows : List (List Int)), vs = [.ref a, .ref b, .ref c] ∧ SqL K H a (ps.map V.int) ∧ SqL K H b (cs.map V.int) ∧ RowsAt K H c rows ∧ GoodT cs rows ps ∧
  ∀ l H' run, H l = none → Same H H' → StepsNew H H' l (stepsF rows ps run) → RunX (townT cs rows) (PF ps) [] run → Q (.ref l) H'

noncomputable def sp_coins_over (K : PySem.W.Frag) : Sp := spOf 3 fun vs H Q => ∃ (c : Int) (a b : Addr) (cs : List Int) (ks : List Nat), vs = [.int c, .ref a, .ref b] ∧ SqL K H a (cs.map V.int) ∧ SqL K H b ((castL ks).map V.int) ∧ ks.length ≤ 64 ∧ (∀ k ∈ ks, k < cs.length) ∧ ∀ H', Same H H' → Q (.int (c - costL cs ks)) H'

noncomputable def sp_further_works (K : PySem.W.Frag) : Sp := spOf 3 fun vs H Q => ∃ (a b c : Addr) (cs : List Int) (rows : List (List Int)) (ks : List Nat), vs = [.ref a, .ref b, .ref c] ∧ SqL K H a (cs.map V.int) ∧ RowsAt K H b rows ∧ SqL K H c ((castL ks).map V.int) ∧ cs.length ≤ 64 ∧ rows.length ≤ 64 ∧
  ∀ l H', H l = none → Same H H' → H' l = some (.lst ((castL (furtherF cs rows ks)).map V.int)) → Q (.ref l) H'

noncomputable def sp_rank_of (K : PySem.W.Frag) : Sp := spOf 3 fun vs H Q => ∃ (a b : Addr) (cs : List Int) (rows : List (List Int)) (k : Nat), vs = [.ref a, .ref b, .int k] ∧ SqL K H a (cs.map V.int) ∧ RowsAt K H b rows ∧ rows.length ≤ 64 ∧ k < cs.length ∧
  ∀ t H', H t = none → Same H H' → H' t = some (.tup ((rankF cs rows k).map V.int)) → Q (.ref t) H'

noncomputable def sp_ranked_works (K : PySem.W.Frag) : Sp := spOf 3 fun vs H Q => ∃ (a b c : Addr) (cs : List Int) (rows : List (List Int)) (ks : List Nat), vs = [.ref a, .ref b, .ref c] ∧ SqL K H a (cs.map V.int) ∧ RowsAt K H b rows ∧ SqL K H c ((castL ks).map V.int) ∧ cs.length ≤ 60 ∧ rows.length ≤ 64 ∧
  ∀ l H' (srt : List Nat), H l = none → Same H H' → Ranked cs rows ks srt → H' l = some (.lst ((castL srt).map V.int)) → Q (.ref l) H'

noncomputable def sp_fill (K : PySem.W.Frag) : Sp := fun vs H Q E => vs.length = 4 ∧ ∃ (n : Int) (a b c : Addr) (cs : List Int) (rows : List (List Int)) (ks : List Nat), vs = [.int n, .ref a, .ref b, .ref c] ∧ SqL K H a (cs.map V.int) ∧ RowsAt K H b rows ∧ SqL K H c ((castL ks).map V.int) ∧ cs.length ≤ 60 ∧ rows.length ≤ 64 ∧ ks.length ≤ 64 ∧ (∀ k ∈ ks, k < cs.length) ∧
  (n < costL cs ks → ∀ H', Same H H' → E (.ref (clsA K "TooMuch")) none H') ∧
  (costL cs ks ≤ n → ∀ l H' (srt : List Nat), H l = none → Same H H' → Ranked cs rows ks srt → H' l = some (.lst ((castL (grF cs srt (n - costL cs ks))).map V.int)) → Q (.ref l) H')

noncomputable def sp_plan_of (K : PySem.W.Frag) : Sp := spOf 3 fun vs H Q => ∃ (m : Nat) (a b : Addr) (cs : List Int) (rows : List (List Int)), vs = [.int m, .ref a, .ref b] ∧ m ≤ 1000000000000 ∧ SqL K H a (cs.map V.int) ∧ RowsAt K H b rows ∧ cs.length ≤ 12 ∧ (∀ x ∈ cs, 1 ≤ x ∧ x ≤ 1000000000000) ∧ 1 ≤ rows.length ∧ rows.length ≤ 20 ∧
  ∀ t ls lf H' (P : Int) (run : List (Nat × Int)) (ws srt : List Nat), Same H H' → PlanR m cs rows P run ws → Ranked cs rows ws srt → H' t = some (.tup [.ref ls, .ref lf, .int ((m : Int) - costL cs (ws ++ grF cs srt ((m : Int) - costL cs ws)))]) →
    StepsAt H' ls (stepsF rows (List.replicate rows.length P) run) → H' lf = some (.lst ((castL (grF cs srt ((m : Int) - costL cs ws))).map V.int)) → Q (.ref t) H'

noncomputable def sp__law_cell_at (K : PySem.W.Frag) : Sp := spOf 2 fun vs H Q => ∃ (a : Addr) (ns : List Int) (k : Nat), vs = [.ref a, .int k] ∧ SqL K H a (ns.map V.int) ∧ Q (.int (ns.getD k 0)) H

noncomputable def sp__law_whole (_ : PySem.W.Frag) : Sp := spOf 1 fun vs H Q => ∃ i, vs = [.int i] ∧ Q (.bl true) H

noncomputable def sp__law_draw (_ : PySem.W.Frag) : Sp := spOf 2 fun vs H Q => ∃ (c : Int) (p : Nat), vs = [.int c, .int p] ∧ p ≤ 100 ∧ ∀ r : Int, 0 ≤ r → r < 1000000007 → Q (.int r) H

noncomputable def sp__law_draws (_ : PySem.W.Frag) : Sp := spOf 2 fun vs H Q => ∃ (c : Int) (n : Nat), vs = [.int c, .int n] ∧ n ≤ 20 ∧ ∀ l H' (xs : List Int), H l = none → Same H H' → H' l = some (.lst (xs.map V.int)) → xs.length = n → (∀ x ∈ xs, 0 ≤ x ∧ x < 1000000007) → Q (.ref l) H'

noncomputable def sp__law_cost (_ : PySem.W.Frag) : Sp := spOf 3 fun vs H Q => ∃ (n k u : Int), vs = [.int n, .int k, .int u] ∧ 1 ≤ u ∧ u ≤ 1000000000000 ∧ ∀ (d : Int) H', 1 ≤ d → d ≤ 1000000000000 → Same H H' → Q (.int d) H'

/-- a row of wishes: rising, below n -/
noncomputable def RowOk (n : Nat) (r : List Int) : Prop := ∃ ws : List Nat, r = castL ws ∧ ws.Pairwise (· < ·) ∧ ∀ w ∈ ws, w < n
noncomputable def sp__law_wishes (K : PySem.W.Frag) : Sp := spOf 3 fun vs H Q => ∃ (a b : Addr) (zs u : List Int) (n : Nat), vs = [.ref a, .int n, .ref b] ∧ SqL K H a (zs.map V.int) ∧ zs.length ≤ 20 ∧ n ≤ 8 ∧ SqL K H b (u.map V.int) ∧ RowOk n u ∧
  ∀ l H' (rows : List (List Int)), H l = none → Same H H' → RowsM H' l rows → rows.length = zs.length → (∀ r ∈ rows, RowOk n r) → Q (.ref l) H'

noncomputable def sp__law_town (K : PySem.W.Frag) : Sp := spOf 1 fun vs H Q => ∃ (a : Addr) (ns : List Int), vs = [.ref a] ∧ SqL K H a (ns.map V.int) ∧ ns.length ≤ 63 ∧
  ∀ t lc lw H' (m : Nat) (cs : List Int) (rows : List (List Int)), Same H H' → H' t = some (.tup [.int m, .ref lc, .ref lw]) → H' lc = some (.lst (cs.map V.int)) → RowsM H' lw rows → m ≤ 1000000000000 → cs.length ≤ 8 → (∀ x ∈ cs, 1 ≤ x ∧ x ≤ 1000000000000) → 1 ≤ rows.length → rows.length ≤ 20 → (∀ r ∈ rows, RowOk cs.length r) → Q (.ref t) H'

noncomputable def sp__law_sets (_ : PySem.W.Frag) : Sp := spOf 1 fun vs H Q => ∃ n : Nat, vs = [.int n] ∧ n ≤ 8 ∧
  ∀ l H' (wss : List (List Nat)), H l = none → Same H H' → RowsM H' l (wss.map castL) → (∀ ws ∈ wss, ws.Nodup ∧ ∀ w ∈ ws, w < n) → wss.length ≤ 256 → Q (.ref l) H'

noncomputable def sp__law_wrongs (K : PySem.W.Frag) : Sp := spOf 5 fun vs H Q => ∃ (m : Nat) (d a b c : Addr) (cs : List Int) (rows : List (List Int)) (ws done : List Nat), vs = [.int m, .ref d, .ref a, .ref b, .ref c] ∧ m ≤ 1000000000000 ∧ SqL K H d (cs.map V.int) ∧ RowsAt K H a rows ∧ SqL K H b ((castL ws).map V.int) ∧ SqL K H c ((castL done).map V.int) ∧ rows.length ≤ 20 ∧ (∀ r ∈ rows, r.length ≤ 64) ∧ ws.length ≤ 64 ∧ (∀ w ∈ ws, w < cs.length) ∧ NoWrong m cs rows done ws ∧
  ∀ H', Same H H' → Q (.bl false) H'

noncomputable def sp__law_paid (K : PySem.W.Frag) : Sp := spOf 4 fun vs H Q => ∃ (m : Nat) (lc lw ls : Addr) (cs : List Int) (rows : List (List Int)) (P : Int) (run : List (Nat × Int)), vs = [.int m, .ref lc, .ref lw, .ref ls] ∧ m ≤ 1000000000000 ∧ SqL K H lc (cs.map V.int) ∧ RowsAt K H lw rows ∧ StepsAt H ls (stepsF rows (List.replicate rows.length P) run) ∧
  cs.length ≤ 12 ∧ (∀ x ∈ cs, 1 ≤ x ∧ x ≤ 1000000000000) ∧ 1 ≤ rows.length ∧ rows.length ≤ 20 ∧ P * (rows.length : Int) = (m : Int) * ((tog rows.length ^ (cs.length + 1) : Nat) : Int) ∧ 0 ≤ P ∧ RunX (townT cs rows) (PF (List.replicate rows.length P)) [] run ∧ ∀ H', Same H H' → Q (.bl true) H'

/-! ### the text by places -/
noncomputable def top (i : Nat) : Stmt := PySem.Challenge.pw_purse_k39_whole_plans_wrong_nobody.main.body.getD i (.Pass ⟨0, 0, 0, 0⟩)
noncomputable abbrev s_paid_at : Stmt := top 1
theorem sc_paid_at : FnScope ["purses", "level"] ["purses", "level"] (defScope s_paid_at) := ⟨rfl, rfl, rfl, by decide +kernel, rfl, by decide +kernel, by decide +kernel⟩
noncomputable abbrev s_rounded_up : Stmt := top 2
theorem sc_rounded_up : FnScope ["amount", "shares"] ["amount", "shares"] (defScope s_rounded_up) := ⟨rfl, rfl, rfl, by decide +kernel, rfl, by decide +kernel, by decide +kernel⟩
noncomputable abbrev s_level_for : Stmt := top 3
theorem sc_level_for : FnScope ["purses", "price", "missing", "payers", "purse"] ["purses", "price"] (defScope s_level_for) := ⟨rfl, rfl, rfl, by decide +kernel, rfl, by decide +kernel, by decide +kernel⟩
noncomputable abbrev s_least_multiple : Stmt := top 5
theorem sc_least_multiple : FnScope ["step", "number", "multiple"] ["step", "number"] (defScope s_least_multiple) := ⟨rfl, rfl, rfl, by decide +kernel, rfl, by decide +kernel, by decide +kernel⟩
noncomputable abbrev s_together : Stmt := top 6
theorem sc_together : FnScope ["n", "least", "number"] ["n"] (defScope s_together) := ⟨rfl, rfl, rfl, by decide +kernel, rfl, by decide +kernel, by decide +kernel⟩
noncomputable abbrev s_grains_of : Stmt := top 7
theorem sc_grains_of : FnScope ["voters", "works", "factor", "grains", "work"] ["voters", "works"] (defScope s_grains_of) := ⟨rfl, rfl, rfl, by decide +kernel, rfl, by decide +kernel, by decide +kernel⟩
noncomputable abbrev s_equal_purse : Stmt := top 8
theorem sc_equal_purse : FnScope ["coins", "voters", "works"] ["coins", "voters", "works"] (defScope s_equal_purse) := ⟨rfl, rfl, rfl, by decide +kernel, rfl, by decide +kernel, by decide +kernel⟩
noncomputable abbrev s_wants_all : Stmt := top 10
theorem sc_wants_all : FnScope ["wanted", "works"] ["wanted", "works"] (defScope s_wants_all) := ⟨rfl, rfl, rfl, by decide +kernel, rfl, by decide +kernel, by decide +kernel⟩
noncomputable abbrev s_common_of : Stmt := top 12
theorem sc_common_of : FnScope ["wishes", "works"] ["wishes", "works"] (defScope s_common_of) := ⟨rfl, rfl, rfl, by decide +kernel, rfl, by decide +kernel, by decide +kernel⟩
noncomputable abbrev s_wanters_of : Stmt := top 11
theorem sc_wanters_of : FnScope ["wishes", "work"] ["wishes", "work"] (defScope s_wanters_of) := ⟨rfl, rfl, rfl, by decide +kernel, rfl, by decide +kernel, by decide +kernel⟩
noncomputable abbrev s_cost_of : Stmt := top 13
theorem sc_cost_of : FnScope ["costs", "works"] ["costs", "works"] (defScope s_cost_of) := ⟨rfl, rfl, rfl, by decide +kernel, rfl, by decide +kernel, by decide +kernel⟩
noncomputable abbrev s_purses_of : Stmt := top 14
theorem sc_purses_of : FnScope ["coins", "costs", "wishes", "voters", "works"] ["coins", "costs", "wishes"] (defScope s_purses_of) := ⟨rfl, rfl, rfl, by decide +kernel, rfl, by decide +kernel, by decide +kernel⟩
noncomputable abbrev s_prices_of : Stmt := top 16
theorem sc_prices_of : FnScope ["costs", "wishes", "grains"] ["costs", "wishes"] (defScope s_prices_of) := ⟨rfl, rfl, rfl, by decide +kernel, rfl, by decide +kernel, by decide +kernel⟩
noncomputable abbrev s_offer_of : Stmt := top 17
theorem sc_offer_of : FnScope ["purses", "wishes", "work", "price"] ["purses", "wishes", "work", "price"] (defScope s_offer_of) := ⟨rfl, rfl, rfl, by decide +kernel, rfl, by decide +kernel, by decide +kernel⟩
noncomputable abbrev s_offers_of : Stmt := top 18
theorem sc_offers_of : FnScope ["purses", "costs", "wishes", "done", "offers", "work", "price"] ["purses", "costs", "wishes", "done"] (defScope s_offers_of) := ⟨rfl, rfl, rfl, by decide +kernel, rfl, by decide +kernel, by decide +kernel⟩
noncomputable abbrev s_next_of : Stmt := top 19
theorem sc_next_of : FnScope ["offers", "best", "work", "offer"] ["offers"] (defScope s_next_of) := ⟨rfl, rfl, rfl, by decide +kernel, rfl, by decide +kernel, by decide +kernel⟩
noncomputable abbrev s_payments_of : Stmt := top 21
theorem sc_payments_of : FnScope ["purses", "wishes", "work", "level", "wanters"] ["purses", "wishes", "work", "level"] (defScope s_payments_of) := ⟨rfl, rfl, rfl, by decide +kernel, rfl, by decide +kernel, by decide +kernel⟩
noncomputable abbrev s_works_of : Stmt := top 22
theorem sc_works_of : FnScope ["steps"] ["steps"] (defScope s_works_of) := ⟨rfl, rfl, rfl, by decide +kernel, rfl, by decide +kernel, by decide +kernel⟩
noncomputable abbrev s_paid_by : Stmt := top 23
theorem sc_paid_by : FnScope ["steps", "voter"] ["steps", "voter"] (defScope s_paid_by) := ⟨rfl, rfl, rfl, by decide +kernel, rfl, by decide +kernel, by decide +kernel⟩
noncomputable abbrev s_left_of : Stmt := top 24
theorem sc_left_of : FnScope ["purses", "steps"] ["purses", "steps"] (defScope s_left_of) := ⟨rfl, rfl, rfl, by decide +kernel, rfl, by decide +kernel, by decide +kernel⟩
noncomputable abbrev s_step_behind : Stmt := top 25
theorem sc_step_behind : FnScope ["purses", "costs", "wishes", "steps", "left", "offers", "work", "level"] ["purses", "costs", "wishes", "steps"] (defScope s_step_behind) := ⟨rfl, rfl, rfl, by decide +kernel, rfl, by decide +kernel, by decide +kernel⟩
noncomputable abbrev s_choose : Stmt := top 26
theorem sc_choose : FnScope ["purses", "costs", "wishes", "steps", "step"] ["purses", "costs", "wishes"] (defScope s_choose) := ⟨rfl, rfl, rfl, by decide +kernel, rfl, by decide +kernel, by decide +kernel⟩
noncomputable abbrev s_coins_over : Stmt := top 31
theorem sc_coins_over : FnScope ["coins", "costs", "works"] ["coins", "costs", "works"] (defScope s_coins_over) := ⟨rfl, rfl, rfl, by decide +kernel, rfl, by decide +kernel, by decide +kernel⟩
noncomputable abbrev s_further_works : Stmt := top 32
theorem sc_further_works : FnScope ["costs", "wishes", "works"] ["costs", "wishes", "works"] (defScope s_further_works) := ⟨rfl, rfl, rfl, by decide +kernel, rfl, by decide +kernel, by decide +kernel⟩
noncomputable abbrev s_rank_of : Stmt := top 33
theorem sc_rank_of : FnScope ["costs", "wishes", "work"] ["costs", "wishes", "work"] (defScope s_rank_of) := ⟨rfl, rfl, rfl, by decide +kernel, rfl, by decide +kernel, by decide +kernel⟩
noncomputable abbrev s_ranked_works : Stmt := top 34
theorem sc_ranked_works : FnScope ["costs", "wishes", "works", "ranks"] ["costs", "wishes", "works"] (defScope s_ranked_works) := ⟨rfl, rfl, rfl, by decide +kernel, rfl, by decide +kernel, by decide +kernel⟩
noncomputable abbrev s_fill : Stmt := top 35
theorem sc_fill : FnScope ["coins", "costs", "wishes", "works", "over", "filled", "work"] ["coins", "costs", "wishes", "works"] (defScope s_fill) := ⟨rfl, rfl, rfl, by decide +kernel, rfl, by decide +kernel, by decide +kernel⟩
noncomputable abbrev s_plan_of : Stmt := top 36
theorem sc_plan_of : FnScope ["coins", "costs", "wishes", "steps", "chosen", "filled"] ["coins", "costs", "wishes"] (defScope s_plan_of) := ⟨rfl, rfl, rfl, by decide +kernel, rfl, by decide +kernel, by decide +kernel⟩
noncomputable abbrev s__law_cell_at : Stmt := top 38
theorem sc__law_cell_at : FnScope ["script", "k"] ["script", "k"] (defScope s__law_cell_at) := ⟨rfl, rfl, rfl, by decide +kernel, rfl, by decide +kernel, by decide +kernel⟩
noncomputable abbrev s__law_whole : Stmt := top 39
theorem sc__law_whole : FnScope ["found"] ["found"] (defScope s__law_whole) := ⟨rfl, rfl, rfl, by decide +kernel, rfl, by decide +kernel, by decide +kernel⟩
noncomputable abbrev s__law_draw : Stmt := top 40
theorem sc__law_draw : FnScope ["cell", "place", "spot"] ["cell", "place"] (defScope s__law_draw) := ⟨rfl, rfl, rfl, by decide +kernel, rfl, by decide +kernel, by decide +kernel⟩
noncomputable abbrev s__law_draws : Stmt := top 41
theorem sc__law_draws : FnScope ["cell", "many"] ["cell", "many"] (defScope s__law_draws) := ⟨rfl, rfl, rfl, by decide +kernel, rfl, by decide +kernel, by decide +kernel⟩
noncomputable abbrev s__law_cost : Stmt := top 42
theorem sc__law_cost : FnScope ["number", "kind", "usual"] ["number", "kind", "usual"] (defScope s__law_cost) := ⟨rfl, rfl, rfl, by decide +kernel, rfl, by decide +kernel, by decide +kernel⟩
noncomputable abbrev s__law_wishes : Stmt := top 43
theorem sc__law_wishes : FnScope ["cells", "many", "usual", "found", "cell", "ys", "wanted"] ["cells", "many", "usual"] (defScope s__law_wishes) := ⟨rfl, rfl, rfl, by decide +kernel, rfl, by decide +kernel, by decide +kernel⟩
noncomputable abbrev s__law_town : Stmt := top 44
theorem sc__law_town : FnScope ["script", "xs", "many", "costs", "usual", "wishes", "zs", "rich", "coins"] ["script"] (defScope s__law_town) := ⟨rfl, rfl, rfl, by decide +kernel, rfl, by decide +kernel, by decide +kernel⟩
noncomputable abbrev s__law_sets : Stmt := top 45
theorem sc__law_sets : FnScope ["many", "found", "k"] ["many"] (defScope s__law_sets) := ⟨rfl, rfl, rfl, by decide +kernel, rfl, by decide +kernel, by decide +kernel⟩
noncomputable abbrev s__law_wrongs : Stmt := top 46
theorem sc__law_wrongs : FnScope ["coins", "costs", "wishes", "asked", "done", "group", "wanted"] ["coins", "costs", "wishes", "asked", "done"] (defScope s__law_wrongs) := ⟨rfl, rfl, rfl, by decide +kernel, rfl, by decide +kernel, by decide +kernel⟩
noncomputable abbrev s__law_paid : Stmt := top 47
theorem sc__law_paid : FnScope ["coins", "costs", "wishes", "steps", "grain", "spent", "work", "level", "paid"] ["coins", "costs", "wishes", "steps"] (defScope s__law_paid) := ⟨rfl, rfl, rfl, by decide +kernel, rfl, by decide +kernel, by decide +kernel⟩
noncomputable abbrev s_law : Stmt := top 48
theorem sc_law : FnScope ["script", "coins", "costs", "wishes", "steps", "filled", "over", "done", "asked"] ["script"] (defScope s_law) := ⟨rfl, rfl, rfl, by decide +kernel, rfl, by decide +kernel, by decide +kernel⟩
/-! ### the readings -/
noncomputable def rd_paid_at (K : PySem.W.Frag) : TS :=
  (tRet (tComp [none, some 1] (iList K (tVar 0)) (gName 0) tYes (tCB rMin (tCons (tVar 0) (tCons (tVar 1) tNil)))))
noncomputable def rd_rounded_up (K : PySem.W.Frag) : TS :=
  (tRet (tOp oDiv (tOp oSub (tOp oAdd (tVar 0) (tVar 1)) (tC (.int 1))) (tVar 1)))
noncomputable def rd_level_for (K : PySem.W.Frag) : TS :=
  (tSeq (tIfS (tTest (tOp oLt (tCB (rSum K) (tCons (tVar 0) tNil)) (tVar 1))) (tRet (tC .non)) tNext)
    (tSeq (tAsg (tVar 1) (gName 2))
    (tSeq (tAsg (tCB (rLenL K) (tCons (tVar 0) tNil)) (gName 3))
    (tSeq (tFor (iList K (tCB (rSorted K) (tCons (tVar 0) tNil))) (gName 4) (tSeq (tIfS (tTest (tOp oGe (tOp oMul (tVar 4) (tVar 3)) (tVar 2))) (tRet (tCall (sp_rounded_up K) [] E0 (tCons (tVar 2) (tCons (tVar 3) tNil)))) tNext)
    (tSeq (tAug 2 (tVar 4) oSub)
    (tAug 3 (tC (.int 1)) oSub))))
    (tRet (tC (.int 0)))))))
noncomputable def rd_least_multiple (K : PySem.W.Frag) : TS :=
  (tSeq (tAsg (tVar 0) (gName 2))
    (tSeq (tWhile (tTest (tOp rNe (tOp oMod (tVar 2) (tVar 1)) (tC (.int 0)))) (tAug 2 (tVar 0) oAdd))
    (tRet (tVar 2))))
noncomputable def rd_together (K : PySem.W.Frag) : TS :=
  (tSeq (tAsg (tC (.int 1)) (gName 1))
    (tSeq (tFor (iRng2 (tCons (tC (.int 1)) (tCons (tOp oAdd (tVar 0) (tC (.int 1))) tNil))) (gName 2) (tAsg (tCall (sp_least_multiple K) [] E0 (tCons (tVar 1) (tCons (tVar 2) tNil))) (gName 1)))
    (tRet (tVar 1))))
noncomputable def rd_grains_of (K : PySem.W.Frag) : TS :=
  (tSeq (tAsg (tCall (sp_together K) [] E0 (tCons (tVar 0) tNil)) (gName 2))
    (tSeq (tAsg (tVar 2) (gName 3))
    (tSeq (tFor (iRng1 (tCons (tVar 1) tNil)) (gName 4) (tAug 3 (tVar 2) oMul))
    (tRet (tVar 3)))))
noncomputable def rd_equal_purse (K : PySem.W.Frag) : TS :=
  (tRet (tOp oDiv (tOp oMul (tVar 0) (tCall (sp_grains_of K) [] E0 (tCons (tVar 1) (tCons (tVar 2) tNil)))) (tVar 1)))
noncomputable def rd_wants_all (K : PySem.W.Frag) : TS :=
  (tRet (tCB (rAll K) (tCons (tComp [none, some 0] (iList K (tVar 1)) (gName 0) tYes (tOp (rIn K false) (tVar 0) (tVar 1))) tNil)))
noncomputable def rd_common_of (K : PySem.W.Frag) : TS :=
  (tRet (tComp [none, none, some 1] (iEnum K (tVar 0)) (gTup K 2 (gCons (gName 0) (gCons (gName 1) gNil))) (tB (tCall (sp_wants_all K) [] E0 (tCons (tVar 1) (tCons (tVar 2) tNil)))) (tVar 0)))
noncomputable def rd_wanters_of (K : PySem.W.Frag) : TS :=
  (tRet (tCall (sp_common_of K) [] E0 (tCons (tVar 0) (tCons (tLst (tCons (tVar 1) tNil)) tNil))))
noncomputable def rd_cost_of (K : PySem.W.Frag) : TS :=
  (tRet (tCB (rSum K) (tCons (tComp [none, some 0] (iList K (tVar 1)) (gName 0) tYes (tOp (rIxL K) (tVar 1) (tVar 0))) tNil)))
noncomputable def rd_purses_of (K : PySem.W.Frag) : TS :=
  (tSeq (tAsg (tCB (rLenL K) (tCons (tVar 2) tNil)) (gName 3))
    (tSeq (tAsg (tCB (rLenL K) (tCons (tVar 1) tNil)) (gName 4))
    (tRet (tComp [none, some 0, some 3, some 4] (iRng1 (tCons (tVar 3) tNil)) (gName 0) tYes (tCall (sp_equal_purse K) [] E0 (tCons (tVar 1) (tCons (tVar 2) (tCons (tVar 3) tNil))))))))
noncomputable def rd_prices_of (K : PySem.W.Frag) : TS :=
  (tSeq (tAsg (tCall (sp_grains_of K) [] E0 (tCons (tCB (rLenL K) (tCons (tVar 1) tNil)) (tCons (tCB (rLenL K) (tCons (tVar 0) tNil)) tNil))) (gName 2))
    (tRet (tComp [none, some 2] (iList K (tVar 0)) (gName 0) tYes (tOp oMul (tVar 0) (tVar 1)))))
noncomputable def rd_offer_of (K : PySem.W.Frag) : TS :=
  (tRet (tCall (sp_level_for K) [] E0 (tCons (tComp [none, some 0] (iList K (tCall (sp_wanters_of K) [] E0 (tCons (tVar 1) (tCons (tVar 2) tNil)))) (gName 0) tYes (tOp (rIxL K) (tVar 1) (tVar 0))) (tCons (tVar 3) tNil))))
noncomputable def rd_offers_of (K : PySem.W.Frag) : TS :=
  (tSeq (tAsg (tLst tNil) (gName 4))
    (tSeq (tFor (iEnum K (tCall (sp_prices_of K) [] E0 (tCons (tVar 1) (tCons (tVar 2) tNil)))) (gTup K 2 (gCons (gName 5) (gCons (gName 6) gNil))) (tDrop (tBM K "list" rAppend (tVar 4) (tCons (tIf (tTest (tOp (rIn K false) (tVar 5) (tVar 3))) (tC .non) (tCall (sp_offer_of K) [] E0 (tCons (tVar 0) (tCons (tVar 2) (tCons (tVar 5) (tCons (tVar 6) tNil)))))) tNil))))
    (tRet (tVar 4))))
noncomputable def rd_next_of (K : PySem.W.Frag) : TS :=
  (tSeq (tAsg (tC .non) (gName 1))
    (tSeq (tFor (iEnum K (tVar 0)) (gTup K 2 (gCons (gName 2) (gCons (gName 3) gNil))) (tIfS (tAnd (tTest (tOp oNotN (tVar 3) (tC .non))) (tOr (tTest (tOp oIsN (tVar 1) (tC .non))) (tTest (tOp oLt (tVar 3) (tOp (rIxL K) (tVar 0) (tVar 1)))))) (tAsg (tVar 2) (gName 1)) tNext))
    (tRet (tVar 1))))
noncomputable def rd_payments_of (K : PySem.W.Frag) : TS :=
  (tSeq (tAsg (tCall (sp_wanters_of K) [] E0 (tCons (tVar 1) (tCons (tVar 2) tNil))) (gName 4))
    (tRet (tComp [none, none, some 4] (iEnum K (tCall (sp_paid_at K) [] E0 (tCons (tVar 0) (tCons (tVar 3) tNil)))) (gTup K 2 (gCons (gName 0) (gCons (gName 1) gNil))) tYes (tIf (tTest (tOp (rIn K false) (tVar 0) (tVar 2))) (tVar 1) (tC (.int 0))))))
noncomputable def rd_works_of (K : PySem.W.Frag) : TS :=
  (tRet (tCB (rSorted K) (tCons (tComp [none, none, none] (iList K (tVar 0)) (gTup K 3 (gCons (gName 0) (gCons (gName 1) (gCons (gName 2) gNil)))) tYes (tVar 0)) tNil)))
noncomputable def rd_paid_by (K : PySem.W.Frag) : TS :=
  (tRet (tCB (rSum K) (tCons (tComp [none, none, none, some 1] (iList K (tVar 0)) (gTup K 3 (gCons (gName 0) (gCons (gName 1) (gCons (gName 2) gNil)))) tYes (tOp (rIxL K) (tVar 2) (tVar 3))) tNil)))
noncomputable def rd_left_of (K : PySem.W.Frag) : TS :=
  (tRet (tComp [none, none, some 1] (iEnum K (tVar 0)) (gTup K 2 (gCons (gName 0) (gCons (gName 1) gNil))) tYes (tOp oSub (tVar 1) (tCall (sp_paid_by K) [] E0 (tCons (tVar 2) (tCons (tVar 0) tNil))))))
noncomputable def rd_step_behind (K : PySem.W.Frag) : TS :=
  (tSeq (tAsg (tCall (sp_left_of K) [] E0 (tCons (tVar 0) (tCons (tVar 3) tNil))) (gName 4))
    (tSeq (tAsg (tCall (sp_offers_of K) [] E0 (tCons (tVar 4) (tCons (tVar 1) (tCons (tVar 2) (tCons (tCall (sp_works_of K) [] E0 (tCons (tVar 3) tNil)) tNil))))) (gName 5))
    (tSeq (tAsg (tCall (sp_next_of K) [] E0 (tCons (tVar 5) tNil)) (gName 6))
    (tSeq (tIfS (tTest (tOp oIsN (tVar 6) (tC .non))) (tRet (tC .non)) tNext)
    (tSeq (tAsg (tOp (rIxL K) (tVar 5) (tVar 6)) (gName 7))
    (tRet (tTup (tCons (tVar 6) (tCons (tVar 7) (tCons (tCall (sp_payments_of K) [] E0 (tCons (tVar 4) (tCons (tVar 2) (tCons (tVar 6) (tCons (tVar 7) tNil))))) tNil))))))))))
noncomputable def rd_choose (K : PySem.W.Frag) : TS :=
  (tSeq (tAsg (tLst tNil) (gName 3))
    (tSeq (tAsg (tCall (sp_step_behind K) [] E0 (tCons (tVar 0) (tCons (tVar 1) (tCons (tVar 2) (tCons (tVar 3) tNil))))) (gName 4))
    (tSeq (tWhile (tTest (tOp oNotN (tVar 4) (tC .non))) (tSeq (tDrop (tBM K "list" rAppend (tVar 3) (tCons (tVar 4) tNil)))
    (tAsg (tCall (sp_step_behind K) [] E0 (tCons (tVar 0) (tCons (tVar 1) (tCons (tVar 2) (tCons (tVar 3) tNil))))) (gName 4))))
    (tRet (tVar 3)))))
noncomputable def rd_coins_over (K : PySem.W.Frag) : TS :=
  (tRet (tOp oSub (tVar 0) (tCall (sp_cost_of K) [] E0 (tCons (tVar 1) (tCons (tVar 2) tNil)))))
noncomputable def rd_further_works (K : PySem.W.Frag) : TS :=
  (tRet (tComp [none, some 2, some 1] (iRng1 (tCons (tCB (rLenL K) (tCons (tVar 0) tNil)) tNil)) (gName 0) (tAnd (tTest (tOp (rIn K true) (tVar 0) (tVar 1))) (tBL K (tCall (sp_wanters_of K) [] E0 (tCons (tVar 2) (tCons (tVar 0) tNil))))) (tVar 0)))
noncomputable def rd_rank_of (K : PySem.W.Frag) : TS :=
  (tRet (tTup (tCons (tUn (rU fun i => .int (-i)) (tCB (rLenL K) (tCons (tCall (sp_wanters_of K) [] E0 (tCons (tVar 1) (tCons (tVar 2) tNil))) tNil))) (tCons (tOp (rIxL K) (tVar 0) (tVar 2)) (tCons (tVar 2) tNil)))))
noncomputable def rd_ranked_works (K : PySem.W.Frag) : TS :=
  (tSeq (tAsg (tComp [none, some 0, some 1] (iList K (tCall (sp_further_works K) [] E0 (tCons (tVar 0) (tCons (tVar 1) (tCons (tVar 2) tNil))))) (gName 0) tYes (tCall (sp_rank_of K) [] E0 (tCons (tVar 1) (tCons (tVar 2) (tCons (tVar 0) tNil))))) (gName 3))
    (tRet (tComp [none, none, none] (iList K (tCB rSortT (tCons (tVar 3) tNil))) (gTup K 3 (gCons (gName 0) (gCons (gName 1) (gCons (gName 2) gNil)))) tYes (tVar 2))))
noncomputable def rd_fill (K : PySem.W.Frag) (E : XK) : TS :=
  (tSeq (tAsg (tCall (sp_coins_over K) [] E0 (tCons (tVar 0) (tCons (tVar 1) (tCons (tVar 3) tNil)))) (gName 4))
    (tSeq (tIfS (tTest (tOp oLt (tVar 4) (tC (.int 0)))) (tRaise (clsA K "TooMuch") E (tCons (tC (.str "the works cost more than the coins")) tNil)) tNext)
    (tSeq (tAsg (tLst tNil) (gName 5))
    (tSeq (tFor (iList K (tCall (sp_ranked_works K) [] E0 (tCons (tVar 1) (tCons (tVar 2) (tCons (tVar 3) tNil))))) (gName 6) (tIfS (tTest (tOp oLe (tOp (rIxL K) (tVar 1) (tVar 6)) (tVar 4))) (tSeq (tDrop (tBM K "list" rAppend (tVar 5) (tCons (tVar 6) tNil)))
    (tAug 4 (tOp (rIxL K) (tVar 1) (tVar 6)) oSub)) tNext))
    (tRet (tVar 5))))))
noncomputable def rd_plan_of (K : PySem.W.Frag) : TS :=
  (tSeq (tAsg (tCall (sp_choose K) [] E0 (tCons (tCall (sp_purses_of K) [] E0 (tCons (tVar 0) (tCons (tVar 1) (tCons (tVar 2) tNil)))) (tCons (tVar 1) (tCons (tVar 2) tNil)))) (gName 3))
    (tSeq (tAsg (tCall (sp_works_of K) [] E0 (tCons (tVar 3) tNil)) (gName 4))
    (tSeq (tAsg (tCall (sp_fill K) [] E0 (tCons (tVar 0) (tCons (tVar 1) (tCons (tVar 2) (tCons (tVar 4) tNil))))) (gName 5))
    (tRet (tTup (tCons (tVar 3) (tCons (tVar 5) (tCons (tCall (sp_coins_over K) [] E0 (tCons (tVar 0) (tCons (tVar 1) (tCons (tOp rCat (tVar 4) (tVar 5)) tNil)))) tNil))))))))
noncomputable def rd__law_cell_at (K : PySem.W.Frag) : TS :=
  (tSeq (tIfS (tTest (tOp oLt (tVar 1) (tCB (rLenL K) (tCons (tVar 0) tNil)))) (tRet (tOp (rIxL K) (tVar 0) (tVar 1))) tNext)
    (tRet (tC (.int 0))))
noncomputable def rd__law_whole (K : PySem.W.Frag) : TS :=
  (tRet (tAndV (tCB (rIsi K) (tCons (tVar 0) (tCons (tC (.ty "int")) tNil))) (tNotV (tCB (rIsi K) (tCons (tVar 0) (tCons (tC (.ty "bool")) tNil))))))
noncomputable def rd__law_draw (K : PySem.W.Frag) : TS :=
  (tSeq (tAsg (tOp oAdd (tOp oAdd (tOp oMod (tVar 0) (tC (.int 999983))) (tC (.int 400009))) (tOp oMul (tC (.int 7001)) (tVar 1))) (gName 2))
    (tRet (tOp oMod (tOp oMul (tOp oMul (tOp oMul (tVar 2) (tVar 2)) (tVar 2)) (tOp oAdd (tOp oMul (tC (.int 2)) (tVar 1)) (tC (.int 3)))) (tC (.int 1000000007)))))
noncomputable def rd__law_draws (K : PySem.W.Frag) : TS :=
  (tRet (tComp [none, some 0] (iRng1 (tCons (tVar 1) tNil)) (gName 0) tYes (tCall (sp__law_draw K) [] E0 (tCons (tVar 1) (tCons (tVar 0) tNil)))))
noncomputable def rd__law_cost (K : PySem.W.Frag) : TS :=
  (tRet (tOp (rIxL K) (tLst (tCons (tOp oAdd (tC (.int 1)) (tOp oMod (tVar 0) (tC (.int 9)))) (tCons (tOp oAdd (tC (.int 1)) (tOp oMod (tOp oMul (tVar 0) (tC (.int 80021))) (tOp oPow (tC (.int 10)) (tC (.int 12))))) (tCons (tVar 2) tNil)))) (tOp oMod (tVar 1) (tC (.int 3)))))
noncomputable def rd__law_wishes (K : PySem.W.Frag) : TS :=
  (tSeq (tAsg (tLst tNil) (gName 3))
    (tSeq (tFor (iList K (tVar 0)) (gName 4) (tSeq (tAsg (tCall (sp__law_draws K) [] E0 (tCons (tVar 4) (tCons (tC (.int 13)) tNil))) (gName 5))
    (tSeq (tAsg (tComp [none, some 5] (iRng1 (tCons (tVar 1) tNil)) (gName 0) (tTest (tOp oGt (tOp oMod (tOp (rIxL K) (tVar 1) (tVar 0)) (tC (.int 3))) (tC (.int 0)))) (tVar 0)) (gName 6))
    (tDrop (tBM K "list" rAppend (tVar 3) (tCons (tOp (rIxL K) (tLst (tCons (tListRng (tCons (tVar 1) tNil)) (tCons (tCB (rListOf K) (tCons (tVar 2) tNil)) (tCons (tVar 6) (tCons (tSl (rSlL K) (tVar 6) tNoPart (tPart (tC (.int 2)))) tNil))))) (tOp oMod (tOp (rIxL K) (tVar 5) (tC (.int 12))) (tC (.int 4)))) tNil))))))
    (tRet (tVar 3))))
noncomputable def rd__law_town (K : PySem.W.Frag) : TS :=
  (tSeq (tAsg (tCall (sp__law_draws K) [] E0 (tCons (tCall (sp__law_cell_at K) [] E0 (tCons (tVar 0) (tCons (tC (.int 0)) tNil))) (tCons (tC (.int 14)) tNil))) (gName 1))
    (tSeq (tAsg (tOp (rIxL K) (tLst (tCons (tOp oMod (tOp (rIxL K) (tVar 1) (tC (.int 0))) (tC (.int 7))) (tCons (tOp oAdd (tC (.int 7)) (tOp oMod (tOp oDiv (tOp (rIxL K) (tVar 1) (tC (.int 0))) (tC (.int 7))) (tC (.int 2)))) tNil))) (tCB rInt1 (tCons (tOp rEq (tOp oMod (tOp (rIxL K) (tVar 1) (tC (.int 1))) (tC (.int 8))) (tC (.int 0))) tNil))) (gName 2))
    (tSeq (tAsg (tComp [none, some 1] (iRng1 (tCons (tVar 2) tNil)) (gName 0) tYes (tCall (sp__law_cost K) [] E0 (tCons (tOp (rIxL K) (tVar 1) (tOp oAdd (tC (.int 2)) (tVar 0))) (tCons (tOp oDiv (tOp (rIxL K) (tVar 1) (tC (.int 10))) (tOp oAdd (tVar 0) (tC (.int 1)))) (tCons (tOp oAdd (tC (.int 1)) (tOp oMod (tOp (rIxL K) (tVar 1) (tC (.int 12))) (tC (.int 20)))) tNil))))) (gName 3))
    (tSeq (tAsg (tComp [none, some 1] (iRng1 (tCons (tVar 2) tNil)) (gName 0) (tTest (tOp oGt (tOp oMod (tOp oDiv (tOp (rIxL K) (tVar 1) (tC (.int 11))) (tOp oAdd (tVar 0) (tC (.int 1)))) (tC (.int 3))) (tC (.int 0)))) (tVar 0)) (gName 4))
    (tSeq (tAsg (tCall (sp__law_wishes K) [] E0 (tCons (tOp rCat (tSl (rSlL K) (tVar 0) (tPart (tC (.int 3))) (tPart (tC (.int 22)))) (tLst (tCons (tCall (sp__law_cell_at K) [] E0 (tCons (tVar 0) (tCons (tC (.int 2)) tNil))) tNil))) (tCons (tVar 2) (tCons (tVar 4) tNil)))) (gName 5))
    (tSeq (tAsg (tCall (sp__law_draws K) [] E0 (tCons (tCall (sp__law_cell_at K) [] E0 (tCons (tVar 0) (tCons (tC (.int 1)) tNil))) (tCons (tC (.int 3)) tNil))) (gName 6))
    (tSeq (tAsg (tLst (tCons (tC (.int 0)) (tCons (tOp oAdd (tC (.int 1)) (tOp oMod (tOp (rIxL K) (tVar 6) (tC (.int 0))) (tC (.int 9)))) (tCons (tOp oDiv (tCB (rSum K) (tCons (tVar 3) tNil)) (tC (.int 2))) (tCons (tCB (rSum K) (tCons (tVar 3) tNil)) (tCons (tOp oMod (tOp oMul (tOp (rIxL K) (tVar 6) (tC (.int 0))) (tOp (rIxL K) (tVar 6) (tC (.int 1)))) (tOp oAdd (tCB (rSum K) (tCons (tVar 3) tNil)) (tC (.int 1)))) (tCons (tOp oAdd (tCB (rSum K) (tCons (tVar 3) tNil)) (tOp (rIxL K) (tVar 6) (tC (.int 0)))) tNil))))))) (gName 7))
    (tSeq (tAsg (tOp (rIxL K) (tVar 7) (tOp oMod (tOp (rIxL K) (tVar 6) (tC (.int 2))) (tC (.int 6)))) (gName 8))
    (tRet (tTup (tCons (tCB rMin (tCons (tVar 8) (tCons (tOp oPow (tC (.int 10)) (tC (.int 12))) tNil))) (tCons (tVar 3) (tCons (tVar 5) tNil)))))))))))))
noncomputable def rd__law_sets (K : PySem.W.Frag) : TS :=
  (tSeq (tAsg (tLst (tCons (tLst tNil) tNil)) (gName 1))
    (tSeq (tFor (iRng1 (tCons (tVar 0) tNil)) (gName 2) (tAsg (tOp rCat (tVar 1) (tComp [none, some 2] (iList K (tVar 1)) (gName 0) tYes (tOp rCat (tVar 0) (tLst (tCons (tVar 1) tNil))))) (gName 1)))
    (tRet (tSl (rSlL K) (tVar 1) (tPart (tC (.int 1))) tNoPart))))
noncomputable def rd__law_wrongs (K : PySem.W.Frag) : TS :=
  (tSeq (tAsg (tC (.int 0)) (gName 5))
    (tSeq (tFor (iList K (tVar 2)) (gName 6) (tIfS (tTest (tOp (rEqI K false) (tComp [none, some 6] (iList K (tVar 3)) (gName 0) (tTest (tOp (rIn K true) (tVar 0) (tVar 1))) (tVar 0)) (tLst tNil))) (tIfS (tTest (tOp oLt (tCB (rLenL K) (tCons (tComp [none, some 4] (iList K (tVar 6)) (gName 0) (tTest (tOp (rIn K false) (tVar 0) (tVar 1))) (tVar 0)) tNil)) (tCB (rLenL K) (tCons (tVar 3) tNil)))) (tAsg (tOp oAdd (tVar 5) (tC (.int 1))) (gName 5)) tNext) tNext))
    (tRet (tAndV (tOp oGt (tVar 5) (tC (.int 0))) (tOp oGe (tOp oMul (tVar 0) (tVar 5)) (tOp oMul (tCB (rSum K) (tCons (tComp [none, some 1] (iList K (tVar 3)) (gName 0) tYes (tOp (rIxL K) (tVar 1) (tVar 0))) tNil)) (tCB (rLenL K) (tCons (tVar 2) tNil))))))))
noncomputable def rd__law_paid (K : PySem.W.Frag) : TS :=
  (tSeq (tAsg (tCall (sp_grains_of K) [] E0 (tCons (tCB (rLenL K) (tCons (tVar 2) tNil)) (tCons (tCB (rLenL K) (tCons (tVar 1) tNil)) tNil))) (gName 4))
    (tSeq (tAsg (tComp [none] (iList K (tVar 2)) (gName 0) tYes (tC (.int 0))) (gName 5))
    (tSeq (tFor (iList K (tVar 3)) (gTup K 3 (gCons (gName 6) (gCons (gName 7) (gCons (gName 8) gNil)))) (tSeq (tIfS (tOr (tNot (tB (tCall (sp__law_whole K) [] E0 (tCons (tVar 6) tNil)))) (tOr (tTest (tOp oLt (tVar 6) (tC (.int 0)))) (tOr (tTest (tOp oGe (tVar 6) (tCB (rLenL K) (tCons (tVar 1) tNil)))) (tTest (tOp rNe (tCB (rLenL K) (tCons (tVar 8) tNil)) (tCB (rLenL K) (tCons (tVar 2) tNil))))))) (tRet (tC (.bl false))) tNext)
    (tSeq (tIfS (tOr (tTest (tOp (rEqI K true) (tComp [none] (iList K (tVar 8)) (gName 0) (tOr (tNot (tB (tCall (sp__law_whole K) [] E0 (tCons (tVar 0) tNil)))) (tTest (tOp oLt (tVar 0) (tC (.int 0))))) (tVar 0)) (tLst tNil))) (tTest (tOp rNe (tCB (rSum K) (tCons (tVar 8) tNil)) (tOp oMul (tOp (rIxL K) (tVar 1) (tVar 6)) (tVar 4))))) (tRet (tC (.bl false))) tNext)
    (tSeq (tIfS (tTest (tOp (rEqI K true) (tComp [none, none, some 6, some 2] (iEnum K (tVar 8)) (gTup K 2 (gCons (gName 0) (gCons (gName 1) gNil))) (tAnd (tTest (tOp oGt (tVar 1) (tC (.int 0)))) (tTest (tOp (rIn K true) (tVar 2) (tOp (rIxL K) (tVar 3) (tVar 0))))) (tC (.int 1))) (tLst tNil))) (tRet (tC (.bl false))) tNext)
    (tAsg (tComp [none, none] (iZip K (tCons (tVar 5) (tCons (tVar 8) tNil))) (gTup K 2 (gCons (gName 0) (gCons (gName 1) gNil))) tYes (tOp oAdd (tVar 0) (tVar 1))) (gName 5))))))
    (tRet (tOp (rEqI K false) (tComp [none, some 2, some 0, some 4] (iList K (tVar 5)) (gName 0) (tTest (tOp oGt (tOp oMul (tVar 0) (tCB (rLenL K) (tCons (tVar 1) tNil))) (tOp oMul (tVar 2) (tVar 3)))) (tVar 0)) (tLst tNil))))))
noncomputable def rd_law (K : PySem.W.Frag) : TS :=
  (tSeq (tAsg (tCall (sp__law_town K) [] E0 (tCons (tVar 0) tNil)) (gTup K 3 (gCons (gName 1) (gCons (gName 2) (gCons (gName 3) gNil)))))
    (tSeq (tAsg (tCall (sp_plan_of K) [] E0 (tCons (tVar 1) (tCons (tCB (rListOf K) (tCons (tVar 2) tNil)) (tCons (tComp [none] (iList K (tVar 3)) (gName 0) tYes (tCB (rListOf K) (tCons (tVar 0) tNil))) tNil)))) (gTup K 3 (gCons (gName 4) (gCons (gName 5) (gCons (gName 6) gNil)))))
    (tSeq (tIfS (tOr (tNot (tB (tCall (sp__law_paid K) [] E0 (tCons (tVar 1) (tCons (tVar 2) (tCons (tVar 3) (tCons (tVar 4) tNil))))))) (tOr (tNot (tB (tCall (sp__law_whole K) [] E0 (tCons (tVar 6) tNil)))) (tTest (tOp oLt (tVar 6) (tC (.int 0)))))) (tRet (tC (.bl false))) tNext)
    (tSeq (tAsg (tOp rCat (tComp [none] (iList K (tVar 4)) (gName 0) tYes (tOp (rIxT K) (tVar 0) (tC (.int 0)))) (tCB (rListOf K) (tCons (tVar 5) tNil))) (gName 7))
    (tSeq (tIfS (tOr (tTest (tOp (rEqI K true) (tAllW fun w => tCB (rSortW w) (tCons (tCB (rSetW K w) (tCons (tVar 7) tNil)) tNil)) (tCB (rSorted K) (tCons (tVar 7) tNil)))) (tTest (tOp (rEqI K true) (tComp [none, some 2] (iList K (tVar 5)) (gName 0) (tOr (tTest (tOp oLt (tVar 0) (tC (.int 0)))) (tTest (tOp oGe (tVar 0) (tCB (rLenL K) (tCons (tVar 1) tNil))))) (tVar 0)) (tLst tNil)))) (tRet (tC (.bl false))) tNext)
    (tSeq (tIfS (tTest (tOp rNe (tVar 1) (tOp oAdd (tCB (rSum K) (tCons (tComp [none, some 2] (iList K (tVar 7)) (gName 0) tYes (tOp (rIxL K) (tVar 1) (tVar 0))) tNil)) (tVar 6)))) (tRet (tC (.bl false))) tNext)
    (tSeq (tFor (iList K (tCall (sp__law_sets K) [] E0 (tCons (tCB (rLenL K) (tCons (tVar 2) tNil)) tNil))) (gName 8) (tIfS (tB (tCall (sp__law_wrongs K) [] E0 (tCons (tVar 1) (tCons (tVar 2) (tCons (tVar 3) (tCons (tVar 8) (tCons (tVar 7) tNil))))))) (tRet (tC (.bl false))) tNext))
    (tRet (tC (.bl true))))))))))

section
variable {K : PySem.W.Frag}

theorem rk_paid_at : ∀ vs H Q E, sp_paid_at K vs H Q E → rd_paid_at K { nx := fun _ H' => Q .non H', rt := Q } (start ["purses", "level"] vs) H := by
  rintro vs H Q E ⟨_, a, ps, lev, rfl, hS, hl, q⟩
  unfold rd_paid_at
  walk_at "w"
  refine comp_mapL (K := K) (xs := ps.map V.int) (fun x v => ∃ p, x = .int p ∧ v = .int (min p lev)) [some (.int lev)] rfl hS (by rw [List.length_map]; exact Nat.le_trans hl (by decide)) ?_ ?_
  · intro x hx H' G s k
    obtain ⟨p, _, rfl⟩ := mem_ints hx
    walk_at "w"
    exact k _ _ ⟨p, rfl, rfl⟩ (Same.refl _)
  · intro l ys H' h0 s h1 pr
    have e := paired_fun pr int_inj
    subst e
    refine q l H' h0 s ?_
    rw [h1, List.map_map]
    rfl

theorem rk_rounded_up : ∀ vs H Q E, sp_rounded_up K vs H Q E → rd_rounded_up K { nx := fun _ H' => Q .non H', rt := Q } (start ["amount", "shares"] vs) H := by
  rintro vs H Q E ⟨_, m, p, rfl, h0, h1, q⟩
  unfold rd_rounded_up
  walk_at "w"
  exact q

theorem pairwise_split {ms : List Int} (h : ms.Pairwise (· ≤ ·)) {i : Nat} (hi : i < ms.length) : (∀ y ∈ ms.take i, y ≤ ms[i]) ∧ (∀ y ∈ ms.drop (i + 1), ms[i] ≤ y) := by
  have e : ms = ms.take i ++ ms[i] :: ms.drop (i + 1) := by
    rw [List.getElem_cons_drop, List.take_append_drop]
  have h' := h
  rw [e] at h'
  obtain ⟨_, h2, h3⟩ := List.pairwise_append.mp h'
  exact ⟨fun y hy => h3 y hy _ List.mem_cons_self, fun y hy => (List.pairwise_cons.mp h2).1 y hy⟩
theorem rk_level_for : ∀ vs H Q E, sp_level_for K vs H Q E → rd_level_for K { nx := fun _ H' => Q .non H', rt := Q } (start ["purses", "price", "missing", "payers", "purse"] vs) H := by
  rintro vs H Q E ⟨_, a, ps, price, rfl, hS, hl, hp, hpr, qn, qs⟩
  have hL : (ps.map V.int).length = ps.length := List.length_map _
  unfold rd_level_for
  walk_at "w"
  refine ite2 (fun h => ?_) (fun h => ?_)
  · walk_at "w"
    exact qn (of_decide_eq_true h) H (Same.refl _)
  have hsum : price ≤ ps.sum := by
    rcases Int.lt_or_le ps.sum price with z | z
    · exact absurd (decide_eq_true z) h
    · exact z
  walk_at "w"
  refine ⟨a, ps, rfl, hS, by omega, fun l ms h0 perm pw => ?_⟩
  have s1 := Same.updN (o := .lst (ms.map V.int)) h0
  have hq : SqL K (upd H l (.lst (ms.map V.int))) l (ms.map V.int) := SqL.of upd_same
  generalize upd H l (.lst (ms.map V.int)) = H1 at *
  have hlen : ms.length = ps.length := perm.length_eq
  have hms : ∀ y ∈ ms, 0 ≤ y := fun y hy => hp y (perm.mem_iff.mp hy)
  have hsm : ms.sum = ps.sum := sum_perm perm
  walk_at "w"
  refine for_list (K := K) (a := l) (xs := ms.map V.int) (fun i σ H' => H1 = H' ∧ i ≤ ms.length ∧ ∃ (m : Int) (v : Option V), m = price - (ms.take i).sum ∧ 0 < m ∧ (∀ y ∈ ms.take i, y * ((ms.length : Int) - (i : Int)) < m) ∧
    σ = [some (.ref a), some (.int price), some (.int m), some (.int ((ms.length : Int) - (i : Int))), v]) ⟨rfl, Nat.zero_le _, price, none, by simp, by omega, by simp, ?_⟩ ?_ ?_ ?_
  · rw [hL, hlen]
    show _ = [_, _, _, some (V.int ((ps.length : Int) - ((0 : Nat) : Int))), _]
    rw [show ((ps.length : Int) - ((0 : Nat) : Int)) = (ps.length : Int) by omega]
    rfl
  · rintro i σ H' _ ⟨rfl, _⟩
    exact hq
  · rintro i x σ H' hx ⟨rfl, hil, m, v, hm, hm0, hA, rfl⟩
    have hi : i < ms.length := by
      have := (List.getElem?_eq_some_iff.mp hx).1
      rwa [List.length_map] at this
    have hx' : x = V.int ms[i] := by
      rw [List.getElem?_map, List.getElem?_eq_getElem hi] at hx
      exact (Option.some.inj hx).symm
    subst hx'
    have hmi : 0 ≤ ms[i] := hms _ (List.getElem_mem hi)
    obtain ⟨b1, b2⟩ := pairwise_split pw hi
    have htk : ms.take (i + 1) = ms.take i ++ [ms[i]] := by
      rw [List.take_add_one, List.getElem?_eq_getElem hi]
      rfl
    show tSeq _ _ _ _ _
    walk_at "w"
    refine ite2 (fun h => ?_) (fun h => ?_)
    · have h := of_decide_eq_true h
      walk_at "w"
      refine ⟨rfl, m, (ms.length : Int) - (i : Int), rfl, by omega, by omega, ?_⟩
      have e : ms = ms.take i ++ ms[i] :: ms.drop (i + 1) := by
        rw [List.getElem_cons_drop, List.take_append_drop]
      have key := lev_found (pre := ms.take i) (post := ms.drop (i + 1)) (x := ms[i]) (m := m) (p := (ms.length : Int) - (i : Int)) (price := price)
        (by rw [List.length_drop]; omega) hm hm0 hA h b2
      rw [← e] at key
      refine qs hsum _ _ ?_ s1
      unfold IsLev at key ⊢
      rw [gat_perm perm, gat_perm perm] at key
      exact key
    · have h : ¬ m ≤ ms[i] * ((ms.length : Int) - (i : Int)) := fun z => h (decide_eq_true z)
      obtain ⟨c1, c2⟩ := lev_step (p := (ms.length : Int) - (i : Int)) (by omega) hmi b1 h
      walk_at "w"
      refine ⟨rfl, hi, m - ms[i], some (.int ms[i]), ?_, c1, ?_, ?_⟩
      · rw [htk, sum_snoc]
        omega
      · rw [htk]
        have e : (ms.length : Int) - ((i + 1 : Nat) : Int) = (ms.length : Int) - (i : Int) - 1 := by omega
        rw [e]
        exact c2
      · have e : (ms.length : Int) - ((i + 1 : Nat) : Int) = (ms.length : Int) - (i : Int) - 1 := by omega
        rw [e]
        rfl
  · rintro σ H' ⟨rfl, _, m, v, hm, hm0, hA, rfl⟩
    exfalso
    rw [List.length_map, List.take_length] at hm
    omega

theorem rk_least_multiple : ∀ vs H Q E, sp_least_multiple K vs H Q E → rd_least_multiple K { nx := fun _ H' => Q .non H', rt := Q } (start ["step", "number", "multiple"] vs) H := by
  rintro vs H Q E ⟨_, s, n, rfl, hs, hn, q⟩
  unfold rd_least_multiple
  walk_at "w"
  refine ⟨fun μ σ H' => ∃ m : Nat, σ = [some (.int s), some (.int n), some (.int m)] ∧ H' = H ∧ 0 < m ∧ s ∣ m ∧ m ≤ Nat.lcm s n ∧ μ = Nat.lcm s n - m, ⟨_, s, rfl, rfl, hs, Nat.dvd_refl s, Nat.le_of_dvd (Nat.lcm_pos hs hn) (Nat.dvd_lcm_left s n), rfl⟩, ?_⟩
  rintro μ σ H' ⟨m, rfl, rfl, h1, h2, h3, rfl⟩
  walk_at "w"
  refine ite2 (fun h => ?_) (fun h => ?_)
  · have hne : m % n ≠ 0 := fun e => by
      have e' : ((m : Int) % (n : Int)) = 0 := by exact_mod_cast e
      rw [e'] at h
      simp at h
    have hst := lcm_step hs hn h2 h3 hne
    refine ⟨fun σ' H'' => ∃ m' : Nat, σ' = [some (.int s), some (.int n), some (.int m')] ∧ H'' = H' ∧ m' = m + s, ?_, ?_⟩
    · rintro σ' H'' ⟨m', rfl, rfl, rfl⟩
      exact ⟨_, (by omega), m + s, rfl, rfl, (by omega), Nat.dvd_add h2 (Nat.dvd_refl s), hst, rfl⟩
    · walk_at "w"
      exact ⟨m + s, rfl, rfl, rfl⟩
  · have h0 : m % n = 0 := by
      rcases Nat.eq_zero_or_pos (m % n) with z | z
      · exact z
      · exfalso
        apply h
        have : ¬ ((m : Int) % (n : Int)) = 0 := by
          intro e
          have e' : m % n = 0 := by exact_mod_cast e
          omega
        simp [this]
    walk_at "w"
    rw [lcm_end h1 h2 h3 h0]
    exact q

theorem rk_together : ∀ vs H Q E, sp_together K vs H Q E → rd_together K { nx := fun _ H' => Q .non H', rt := Q } (start ["n", "least", "number"] vs) H := by
  rintro vs H Q E ⟨_, n, rfl, hn, q⟩
  unfold rd_together
  walk_at "w"
  refine for_range (lo := 1) (n := ((n : Int) + 1 - 1).toNat) (fun i σ H' => H' = H ∧ ∃ v, σ = [some (.int n), some (.int (tog i : Nat)), v]) ⟨rfl, none, rfl⟩ ?_ ?_
  · rintro i σ H' hi ⟨rfl, v, rfl⟩
    show tAsg _ _ _ _ _
    walk_at "w"
    refine ⟨rfl, tog i, i + 1, ?_, tog_pos i, Nat.succ_pos i, ?_⟩
    · have e : (1 : Int) + (i : Int) = ((i + 1 : Nat) : Int) := by omega
      rw [e]
    · exact ⟨rfl, _, rfl⟩
  · rintro σ H' ⟨rfl, v, rfl⟩
    walk_at "w"
    have e : ((n : Int) + 1 - 1).toNat = n := by omega
    rw [e]
    exact q

theorem pow_int_succ (a i : Nat) : ((a ^ (i + 1) : Nat) : Int) * ((a : Nat) : Int) = ((a ^ (i + 1 + 1) : Nat) : Int) := by
  rw [Nat.pow_succ a (i + 1)]
  push_cast
  rfl
theorem rk_grains_of : ∀ vs H Q E, sp_grains_of K vs H Q E → rd_grains_of K { nx := fun _ H' => Q .non H', rt := Q } (start ["voters", "works", "factor", "grains", "work"] vs) H := by
  rintro vs H Q E ⟨_, v, w, rfl, h1, h2, h3, q⟩
  have ts := tog_small v (by omega)
  unfold rd_grains_of
  walk_at "w"
  refine ⟨rfl, v, rfl, h2, ?_⟩
  walk_at "w"
  refine for_range (lo := 0) (n := ((w : Int)).toNat) (fun i σ H' => H = H' ∧ ∃ u, σ = [some (.int v), some (.int w), some (.int (tog v : Nat)), some (.int (tog v ^ (i + 1) : Nat)), u]) ⟨rfl, none, by rw [Nat.pow_one]; rfl⟩ ?_ ?_
  · rintro i σ H' hi ⟨rfl, u, rfl⟩
    show tAug _ _ _ _ _ _
    walk_at "w"
    rw [pow_int_succ]
    exact ⟨rfl, _, rfl⟩
  · rintro σ H' ⟨rfl, u, rfl⟩
    walk_at "w"
    exact q

theorem rk_equal_purse : ∀ vs H Q E, sp_equal_purse K vs H Q E → rd_equal_purse K { nx := fun _ H' => Q .non H', rt := Q } (start ["coins", "voters", "works"] vs) H := by
  rintro vs H Q E ⟨_, c, v, w, rfl, h0, h1, h2, h3, q⟩
  unfold rd_equal_purse
  walk_at "w"
  refine ⟨rfl, v, w, rfl, h1, h2, h3, ?_⟩
  walk_at "w"
  have e : ((c : Int) * ((tog v ^ (w + 1) : Nat) : Int)) / (v : Int) = ((c * tog v ^ (w + 1) / v : Nat) : Int) := by
    push_cast
    rfl
  rw [e]
  exact q

theorem range_getD {α β : Type} (f : α → β) (d : α) (xs : List α) : (List.range xs.length).map (fun i => f (xs.getD i d)) = xs.map f := by
  apply List.ext_getElem
  · simp
  · intro k h1 h2
    have hk : k < xs.length := by simpa using h1
    simp [List.getD, hk]
theorem rk_wants_all : ∀ vs H Q E, sp_wants_all K vs H Q E → rd_wants_all K { nx := fun _ H' => Q .non H', rt := Q } (start ["wanted", "works"] vs) H := by
  rintro vs H Q E ⟨_, a, b, ws, ks, rfl, hA, hB, hl, q⟩
  have hlm : (ks.map V.int).length = ks.length := List.length_map _
  unfold rd_wants_all
  walk_at "v"
  refine comp_mapY (ys_list (xs := ks.map V.int) 0) (fun j => [some ((ks.map V.int).getD j .non), some (.ref a)]) (by rintro j σ' (rfl | ⟨k, rfl⟩) <;> rfl) (fun H' s => s.seq hB) (by rw [hlm]; exact Nat.le_trans (show ks.length ≤ 1000 by omega) line64) (fun j => .bl (decide (ks.getD j 0 ∈ ws))) ?_ ?_
  · intro j hj H' G s k
    rw [hlm] at hj
    have e : (ks.map V.int).getD j .non = .int (ks.getD j 0) := by simp [List.getD, hj]
    rw [e]
    walk_at "v"
    exact k H' (Same.refl _)
  · intro l H' f s h
    have e : (List.range (ks.map V.int).length).map (fun j => V.bl (decide (ks.getD j 0 ∈ ws))) = (ks.map fun k => decide (k ∈ ws)).map V.bl := by
      rw [hlm, range_getD (fun k => V.bl (decide (k ∈ ws))) 0 ks, List.map_map]
      rfl
    rw [e] at h
    walk_at "v"
    have e2 : (ks.map fun k => decide (k ∈ ws)).all id = ks.all fun k => decide (k ∈ ws) := by
      rw [List.all_map]
      rfl
    rw [e2]
    exact q H' s

theorem rk_common_of : ∀ vs H Q E, sp_common_of K vs H Q E → rd_common_of K { nx := fun _ H' => Q .non H', rt := Q } (start ["wishes", "works"] vs) H := by
  rintro vs H Q E ⟨_, a, b, rows, ks, rfl, ⟨bs, hA, hP⟩, hB, hl1, hl2, q⟩
  have hbl : bs.length = rows.length := (Paired.length hP).symm
  have hlm : (bs.map V.ref).length = bs.length := List.length_map _
  unfold rd_common_of
  walk_at "v"
  refine comp_filtY (ys_enum (xs := bs.map V.ref) 0 1) (fun i => [some (.int i), some ((bs.map V.ref).getD i .non), some (.ref b)]) (by rintro i σ' (rfl | ⟨k, rfl⟩) <;> rfl) (fun H' s => s.seq hA) (by rw [hlm]; exact Nat.le_trans (show bs.length ≤ 1000 by omega) line64) (fun i => ks.all fun k => decide (k ∈ rows.getD i [])) (fun i => .int i) ?_ ?_ ?_
  · intro i hi H' G s k
    rw [hlm] at hi
    obtain ⟨row, hr, hq⟩ := paired_at' hP (show bs[i]? = some bs[i] by simp [hi])
    have e : (bs.map V.ref).getD i .non = .ref bs[i] := by simp [List.getD, hi]
    have e2 : rows.getD i [] = row := by simp [List.getD, hr]
    rw [e2] at k
    rw [e]
    walk_at "v"
    refine ⟨rfl, bs[i], b, row, ks, rfl, s.seq hq, s.seq hB, hl2, fun H'' s' => ?_⟩
    walk_at "v"
    exact k H'' s'
  · intro i hi _ H' G s k
    walk_at "v"
    exact k H' (Same.refl _)
  · intro l H' f s h
    rw [hlm, hbl] at h
    refine q l H' f s ?_
    rw [h]
    unfold commonF
    rw [List.map_map]
    rfl

theorem rk_wanters_of : ∀ vs H Q E, sp_wanters_of K vs H Q E → rd_wanters_of K { nx := fun _ H' => Q .non H', rt := Q } (start ["wishes", "work"] vs) H := by
  rintro vs H Q E ⟨_, a, rows, k, rfl, hR, hl, q⟩
  unfold rd_wanters_of
  walk_at "v"
  rename_i l1 H1 f1 s1 h1
  refine ⟨rfl, a, l1, rows, [k], rfl, by walk_at "rows", SqL.of h1, hl, Nat.le_of_ble_eq_true rfl, fun l H' f s h => ?_⟩
  exact q l H' (s1.free f) (s1.trans s) h

theorem rk_cost_of : ∀ vs H Q E, sp_cost_of K vs H Q E → rd_cost_of K { nx := fun _ H' => Q .non H', rt := Q } (start ["costs", "works"] vs) H := by
  rintro vs H Q E ⟨_, a, b, cs, ks, rfl, hA, hB, hl, hk, q⟩
  have hlm : (ks.map V.int).length = ks.length := List.length_map _
  unfold rd_cost_of
  walk_at "v"
  refine comp_mapY (ys_list (xs := ks.map V.int) 0) (fun j => [some ((ks.map V.int).getD j .non), some (.ref a)]) (by rintro j σ' (rfl | ⟨k, rfl⟩) <;> rfl) (fun H' s => s.seq hB) (by rw [hlm]; exact Nat.le_trans (show ks.length ≤ 1000 by omega) line64) (fun j => .int (cs.getD (ks.getD j 0).toNat 0)) ?_ ?_
  · intro j hj H' G s k
    rw [hlm] at hj
    have e : (ks.map V.int).getD j .non = .int (ks.getD j 0) := by simp [List.getD, hj]
    obtain ⟨n, hn, hnl⟩ := hk (ks.getD j 0) (by simp [List.getD, hj])
    rw [e]
    rw [hn] at k ⊢
    walk_at "v"
    refine r_ix (s.seq hA) (atI_nat (getInt (show cs[n]? = some (cs.getD n 0) by simp [List.getD, hnl]))) ?_
    exact k H' (Same.refl _)
  · intro l H' f s h
    have e : (List.range (ks.map V.int).length).map (fun j => V.int (cs.getD (ks.getD j 0).toNat 0)) = (ks.map fun k => cs.getD k.toNat 0).map V.int := by
      rw [hlm, range_getD' (fun k => V.int (cs.getD k.toNat 0)) 0 ks, List.map_map]
      rfl
    rw [e] at h
    walk_at "v"
    exact q H' s

theorem rk_purses_of : ∀ vs H Q E, sp_purses_of K vs H Q E → rd_purses_of K { nx := fun _ H' => Q .non H', rt := Q } (start ["coins", "costs", "wishes", "voters", "works"] vs) H := by
  rintro vs H Q E ⟨_, c, a, b, xs, ys, rfl, hc, hA, hx, hB, hy1, hy2, q⟩
  unfold rd_purses_of
  walk_at "v"
  have en : ((ys.length : Int)).toNat = ys.length := by omega
  rw [en]
  refine comp_mapY (ys_range 0) (fun j => [some (.int (0 + (j : Int))), some (.int c), some (.int ys.length), some (.int xs.length)]) (by rintro j σ' (rfl | ⟨k, rfl⟩) <;> rfl) (fun _ _ => trivial) (Nat.le_trans (show ys.length ≤ 1000 by omega) line64) (fun j => .int ((c * tog ys.length ^ (xs.length + 1) / ys.length : Nat) : Int)) ?_ ?_
  · intro j hj H' G s k
    walk_at "v"
    exact ⟨rfl, c, ys.length, xs.length, rfl, hc, hy1, hy2, hx, k H' (Same.refl _)⟩
  · intro l H' f s h
    refine q l H' f s ?_
    rw [h]
    congr 2
    apply List.ext_getElem
    · simp
    · intro k h1 h2
      simp

theorem rk_prices_of : ∀ vs H Q E, sp_prices_of K vs H Q E → rd_prices_of K { nx := fun _ H' => Q .non H', rt := Q } (start ["costs", "wishes", "grains"] vs) H := by
  rintro vs H Q E ⟨_, a, b, cs, rows, rfl, hA, ⟨bs, hB, hP⟩, hl, hb, hv1, hv, q⟩
  have hlc : (cs.map V.int).length = cs.length := List.length_map _
  have hlb : (bs.map V.ref).length = rows.length := by rw [List.length_map]; exact (Paired.length hP).symm
  have pi := togpow_int (v := rows.length) (w := cs.length + 1) hv (by omega)
  unfold rd_prices_of
  walk_at "v"
  refine ⟨rfl, rows.length, cs.length, by rw [hlc, hlb], hv1, hv, hl, ?_⟩
  walk_at "v"
  generalize ((tog rows.length ^ (cs.length + 1) : Nat) : Int) = g at *
  refine comp_mapY (ys_list (xs := cs.map V.int) 0) (fun j => [some ((cs.map V.int).getD j .non), some (.int g)]) (by rintro j σ' (rfl | ⟨k, rfl⟩) <;> rfl) (fun H' s => s.seq hA) (by rw [hlc]; exact Nat.le_trans (show cs.length ≤ 1000 by omega) line64) (fun j => .int (cs.getD j 0 * g)) ?_ ?_
  · intro j hj H' G s k
    rw [hlc] at hj
    have e : (cs.map V.int).getD j .non = .int (cs.getD j 0) := by simp [List.getD, hj]
    have hbj := hb (cs.getD j 0) (by simp [List.getD, hj])
    rw [e]
    walk_at "v"
    exact k H' (Same.refl _)
  · intro l H' f s h
    refine q l H' f s ?_
    rw [h, hlc, range_getD' (fun x => V.int (x * g)) 0 cs, List.map_map]
    rfl

theorem rk_offer_of : ∀ vs H Q E, sp_offer_of K vs H Q E → rd_offer_of K { nx := fun _ H' => Q .non H', rt := Q } (start ["purses", "wishes", "work", "price"] vs) H := by
  rintro vs H Q E ⟨_, a, b, ps, rows, k, price, rfl, hA, hB, hv, hl, hp, hpr, qn, qs⟩
  unfold rd_offer_of
  walk_at "v"
  refine ⟨rfl, b, rows, (k : Int), rfl, hB, by omega, fun lw H1 f1 s1 h1 => ?_⟩
  rw [common_one] at h1
  have hwl := wantN_len rows k
  have hA1 := s1.seq hA
  have q1 : SqL K H1 lw (((wantN rows k).map fun i : Nat => (i : Int)).map V.int) := SqL.of h1
  have hlw : (((wantN rows k).map fun i : Nat => (i : Int)).map V.int).length = (wantN rows k).length := by simp
  walk_at "v"
  refine comp_mapY (ys_list (xs := ((wantN rows k).map fun i : Nat => (i : Int)).map V.int) 0) (fun j => [some ((((wantN rows k).map fun i : Nat => (i : Int)).map V.int).getD j .non), some (.ref a)]) (by rintro j σ' (rfl | ⟨k, rfl⟩) <;> rfl) (fun H' s => s.seq q1) (by rw [hlw]; exact Nat.le_trans (show _ ≤ 1000 by omega) line64) (fun j => .int (PF ps ((wantN rows k).getD j 0))) ?_ ?_
  · intro j hj H' G s kk
    rw [hlw] at hj
    have e : (((wantN rows k).map fun i : Nat => (i : Int)).map V.int).getD j .non = .int (((wantN rows k).getD j 0 : Nat) : Int) := by simp [List.getD, hj]
    have hm : (wantN rows k).getD j 0 ∈ wantN rows k := by simp [List.getD, hj]
    have hi := wantN_lt hm
    rw [e]
    generalize (wantN rows k).getD j 0 = i at *
    walk_at "v"
    refine r_ix (s.seq hA1) (atI_nat (PF_of_getD (by omega))) ?_
    exact kk H' (Same.refl _)
  intro l H2 f2 s2 h2
  have e2 : (List.range (((wantN rows k).map fun i : Nat => (i : Int)).map V.int).length).map (fun j => V.int (PF ps ((wantN rows k).getD j 0))) = ((wantN rows k).map (PF ps)).map V.int := by
    rw [hlw, range_getD' (fun i => V.int (PF ps i)) 0 (wantN rows k), List.map_map]
    rfl
  rw [e2] at h2
  walk_at "v"
  refine ⟨rfl, l, (wantN rows k).map (PF ps), price, rfl, SqL.of h2, by rw [List.length_map]; omega, fun p h => ?_, hpr, fun h H3 s3 => ?_, fun h L H3 hL s3 => ?_⟩
  · obtain ⟨i, _, e⟩ := List.mem_map.mp h
    rw [← e]
    exact PF_nn hp i
  · rw [want_sum] at h
    exact qn h H3 (s1.trans (s2.trans s3))
  · rw [want_sum] at h
    obtain ⟨z1, z2, z3⟩ := hL
    rw [want_gat] at z2 z3
    exact qs h L H3 z1 z2 z3 (s1.trans (s2.trans s3))

theorem rk_offers_of : ∀ vs H Q E, sp_offers_of K vs H Q E → rd_offers_of K { nx := fun _ H' => Q .non H', rt := Q } (start ["purses", "costs", "wishes", "done", "offers", "work", "price"] vs) H := by
  rintro vs H Q E ⟨_, a, b, c, d, ps, cs, rows, done, rfl, hA, hB, hC, hD, hl, hb, hv1, hv, hpl, hp, hdl, q⟩
  unfold rd_offers_of
  with_reducible refine r_seq ?_
  walk_at "s1"
  rename_i lo H1 f1 s1 h1
  with_reducible refine r_seq ?_
  walk_at "s1"
  refine ⟨rfl, b, c, cs, rows, rfl, s1.seq hB, s1.rows hC, hl, hb, hv1, hv, fun lp H2 f2 s2 h2 => ?_⟩
  have hpr : ∀ j, j < cs.length → (((cs.map (· * ((tog rows.length ^ (cs.length + 1) : Nat) : Int))).map V.int)).getD j .non = .int ((townT cs rows).c j) := fun j hj => by
    simp [List.getD, hj, townT]
  have hlx : ((cs.map (· * ((tog rows.length ^ (cs.length + 1) : Nat) : Int))).map V.int).length = cs.length := by simp
  generalize (cs.map (· * ((tog rows.length ^ (cs.length + 1) : Nat) : Int))).map V.int = xs at *
  have q2 : SqL K H2 lp xs := SqL.of h2
  have hne : lp ≠ lo := fun z => by
    rw [z, h1] at f2
    cases f2
  have h1' := s2 _ _ h1
  have s12 := s1.trans s2
  walk_at "s1"
  refine for_ys (ys_enum (xs := xs) 5 6) (fun i σ H' => Same H H' ∧ H' lp = some (.lst xs) ∧ ∃ (os : List (Option Int)) (v5 v6 : Option V), H' lo = some (.lst (os.map oV)) ∧ os.length = i ∧ i ≤ cs.length ∧ (∀ j o, os[j]? = some o → OffOk (townT cs rows) (PF ps) done j o) ∧ σ = [some (.ref a), some (.ref b), some (.ref c), some (.ref d), some (.ref lo), v5, v6]) ⟨s12, h2, [], _, _, h1', rfl, Nat.zero_le _, (fun j o h => by simp at h), rfl⟩ (fun i σ H' h => SqL.of h.2.1) ?_ ?_
  · rintro i σ Ha Hb hi ⟨sa, hpa, os, v5, v6, ho, hol, hil, hok, rfl⟩ sb
    rw [hlx] at hi
    rw [hpr i hi]
    have sab := sa.trans sb
    have fit : (os.map oV).length < sizeLine := by rw [List.length_map, hol]; exact Nat.lt_of_lt_of_le (show i < 1000 by omega) line64
    have add : ∀ (o : Option Int) (Hc : Hp), Same Hb Hc → OffOk (townT cs rows) (PF ps) done i o → Same H (upd Hc lo (.lst (os.map oV ++ [oV o]))) ∧ (upd Hc lo (.lst (os.map oV ++ [oV o]))) lp = some (.lst xs) ∧ ∃ (os' : List (Option Int)) (v5 v6 : Option V), (upd Hc lo (.lst (os.map oV ++ [oV o]))) lo = some (.lst (os'.map oV)) ∧ os'.length = i + 1 ∧ i + 1 ≤ cs.length ∧ (∀ j o, os'[j]? = some o → OffOk (townT cs rows) (PF ps) done j o) ∧ [some (V.ref a), some (.ref b), some (.ref c), some (.ref d), some (.ref lo), some (.int (i : Int)), some (.int ((townT cs rows).c i))] = [some (.ref a), some (.ref b), some (.ref c), some (.ref d), some (.ref lo), v5, v6] := by
      intro o Hc sc hoff
      refine ⟨(sab.trans sc).upd f1, by rw [upd_ne hne]; exact sc _ _ (sb _ _ hpa), os ++ [o], _, _, by rw [upd_same]; simp, by simp [hol], hi, fun j o' hj => ?_, rfl⟩
      by_cases hjl : j < os.length
      · rw [List.getElem?_append_left hjl] at hj
        exact hok j o' hj
      · rw [List.getElem?_append_right (by omega)] at hj
        cases e : j - os.length with
        | zero =>
          rw [e] at hj
          have e1 : o = o' := by simpa using hj
          have e2 : j = i := by omega
          rw [← e1, e2]
          exact hoff
        | succ n => rw [e] at hj; simp at hj
    have hD' := sab.seq hD
    have hA' := sab.seq hA
    have hC' := sab.rows hC
    have ho' := sb _ _ ho
    show tDrop _ _ _ _
    walk_at "s1"
    refine ⟨tyL ho', ?_⟩
    walk_at "s1"
    refine iteD (fun h => ?_) (fun h => ?_)
    · walk_at "s1"
      refine r_appendN ho' fit ?_
      exact add none Hb (Same.refl _) (.inl (mem_nats.mp h))
    · have hn : i ∉ done := fun z => h (mem_nats.mpr z)
      walk_at "s1"
      refine ⟨rfl, a, c, ps, rows, i, _, rfl, hA', hC', hv, hpl, hp, c_pos hb i hi, fun hlt Hc sc => ?_, fun hle L Hc z1 z2 z3 sc => ?_⟩
      · walk_at "s1"
        refine r_appendN (sc _ _ ho') fit ?_
        exact add none Hc sc (.inr hlt)
      · walk_at "s1"
        refine r_appendN (sc _ _ ho') fit ?_
        exact add (some L) Hc sc ⟨hn, z1, z2, z3⟩
  rintro σ Ha ⟨sa, _, os, v5, v6, ho, hol, _, hok, rfl⟩
  rw [hlx] at hol
  walk_at "s1"
  exact q lo Ha os f1 sa ho hol hok

theorem rk_next_of : ∀ vs H Q E, sp_next_of K vs H Q E → rd_next_of K { nx := fun _ H' => Q .non H', rt := Q } (start ["offers", "best", "work", "offer"] vs) H := by
  rintro vs H Q E ⟨_, a, os, rfl, hA, hl, q⟩
  have hlo : (os.map oV).length = os.length := List.length_map _
  unfold rd_next_of
  with_reducible refine r_seq ?_
  walk_at "s1"
  with_reducible refine r_seq ?_
  walk_at "s1"
  try refine ⟨a, rfl, ⟨_, hA⟩, ?_⟩
  refine for_ys (ys_enum (xs := os.map oV) 2 3) (fun i σ H' => Same H H' ∧ ∃ (k : Option Nat) (v2 v3 : Option V), NextOk (os.take i) k ∧ σ = [some (.ref a), some (oV (k.map fun j : Nat => (j : Int))), v2, v3]) ⟨Same.refl _, none, _, _, next_nil, rfl⟩ (fun i σ H' h => h.1.seq hA) ?_ ?_
  · rintro i σ Ha Hb hi ⟨sa, k, v2, v3, hk, rfl⟩ sb
    rw [hlo] at hi
    have hi' : os[i]? = some os[i] := by simp [hi]
    have e : (os.map oV).getD i .non = oV os[i] := by simp [List.getD, hi]
    have htk := take_snoc hi'
    have htl : (os.take i).length = i := by rw [List.length_take]; omega
    rw [e]
    have sab := sa.trans sb
    show tIfS _ _ _ _ _ _
    cases ho : os[i] with
    | none =>
      rw [ho] at htk
      show tIfS _ _ _ _ [some (V.ref a), some (oV (k.map fun j : Nat => (j : Int))), some (.int (i : Int)), some .non] _
      walk_at "s1"
      refine iteNS rfl ?_
      walk_at "s1"
      exact ⟨sab, k, _, _, by rw [htk]; exact next_none hk, rfl⟩
    | some M =>
      rw [ho] at htk
      cases k with
      | none =>
        show tIfS _ _ _ _ [some (V.ref a), some .non, some (.int (i : Int)), some (.int M)] _
        walk_at "s1"
        refine iteNP (by simp) ?_
        walk_at "s1"
        refine iteP rfl ?_
        walk_at "s1"
        refine ⟨sab, some i, _, _, ?_, rfl⟩
        have := next_first (M := M) hk
        rw [htl] at this
        rw [htk]
        exact this
      | some j =>
        show tIfS _ _ _ _ [some (V.ref a), some (.int (j : Int)), some (.int (i : Int)), some (.int M)] _
        have hk' := hk
        obtain ⟨L, hL, _⟩ := hk'
        have hLo : os[j]? = some (some L) := by
          have h := hL
          rw [List.getElem?_take] at h
          split at h
          · exact h
          · cases h
        have hix : (os.map oV)[j]? = some (.int L) := by
          rw [List.getElem?_map, hLo]
          rfl
        walk_at "s1"
        refine iteNP (by simp) ?_
        walk_at "s1"
        refine iteN (by simp) ?_
        walk_at "s1"
        refine r_ix (sab.seq hA) (atI_nat hix) ?_
        walk_at "s1"
        refine iteD (fun h => ?_) (fun h => ?_)
        · walk_at "s1"
          refine ⟨sab, some i, _, _, ?_, rfl⟩
          have := next_less hk hL h
          rw [htl] at this
          rw [htk]
          exact this
        · walk_at "s1"
          refine ⟨sab, some j, _, _, ?_, rfl⟩
          rw [htk]
          exact next_stay hk hL h
  rintro σ Ha ⟨sa, k, v2, v3, hk, rfl⟩
  rw [hlo, List.take_length] at hk
  walk_at "s1"
  exact q k Ha hk sa

theorem rk_payments_of : ∀ vs H Q E, sp_payments_of K vs H Q E → rd_payments_of K { nx := fun _ H' => Q .non H', rt := Q } (start ["purses", "wishes", "work", "level", "wanters"] vs) H := by
  rintro vs H Q E ⟨_, a, b, ps, rows, k, L, rfl, hA, hB, hl, hl64, q⟩
  have hlp : ((ps.map (min · L)).map V.int).length = ps.length := by simp
  unfold rd_payments_of
  with_reducible refine r_seq ?_
  walk_at "s1"
  refine ⟨rfl, b, rows, (k : Int), rfl, hB, by omega, fun lw H1 f1 s1 h1 => ?_⟩
  have hA1 := s1.seq hA
  walk_at "s1"
  refine ⟨rfl, a, ps, L, rfl, hA1, hl64, fun lq H2 f2 s2 h2 => ?_⟩
  have q1 : SqL K H2 lw ((commonF rows [(k : Int)]).map V.int) := SqL.of (s2 _ _ h1)
  have q2 : SqL K H2 lq ((ps.map (min · L)).map V.int) := SqL.of h2
  walk_at "s1"
  try refine ⟨lq, rfl, ⟨_, q2⟩, ?_⟩
  refine comp_mapY (ys_enum (xs := (ps.map (min · L)).map V.int) 0 1) (fun j => [some (.int j), some (((ps.map (min · L)).map V.int).getD j .non), some (.ref lw)]) (by rintro j σ' (rfl | ⟨k, rfl⟩) <;> rfl) (fun H' s => s.seq q2) (by rw [hlp]; exact Nat.le_trans (show _ ≤ 1000 by omega) line64) (fun j => .int (pay (WR rows) (PF ps) k L j)) ?_ ?_
  · intro j hj H' G s kk
    rw [hlp] at hj
    have e : ((ps.map (min · L)).map V.int).getD j .non = .int (min (PF ps j) L) := by unfold PF; simp [List.getD, hj]
    have q1' := s.seq q1
    rw [e]
    walk_at "s1"
    unfold pay at kk
    refine iteD (fun h => ?_) (fun h => ?_)
    · rw [if_pos (mem_common.mp h)] at kk
      walk_at "s1"
      exact kk H' (Same.refl _)
    · rw [if_neg fun z => h (mem_common.mpr z)] at kk
      walk_at "s1"
      exact kk H' (Same.refl _)
  · intro l H' f s h
    rw [hlp] at h
    refine q l H' (s1.free (s2.free f)) (s1.trans (s2.trans s)) ?_
    rw [h]
    unfold paidF
    rw [List.map_map]
    rfl

theorem perm_nats {ms : List Int} {ks : List Nat} (h : ms.Perm (ks.map fun k : Nat => (k : Int))) : ∃ ws : List Nat, ms = ws.map fun k : Nat => (k : Int) := by
  refine ⟨ms.map Int.toNat, ?_⟩
  rw [List.map_map]
  conv => lhs; rw [← List.map_id ms]
  refine List.map_congr_left fun x hx => ?_
  obtain ⟨k, _, e⟩ := List.mem_map.mp (h.mem_iff.mp hx)
  rw [← e]
  rfl
theorem rk_works_of : ∀ vs H Q E, sp_works_of K vs H Q E → rd_works_of K { nx := fun _ H' => Q .non H', rt := Q } (start ["steps"] vs) H := by
  rintro vs H Q E ⟨_, a, sts, rfl, hA, hl, hw, hn, q⟩
  obtain ⟨ts, bs, B⟩ := hA.b
  have qA : SqL K H a (ts.map V.ref) := (B.ys (Same.refl _)).1
  unfold rd_works_of
  walk_at "s1"
  refine comp_mapY (ys_list3 (ts := ts) (u := fun i => .int ((sts.getD i stN).1 : Nat)) (v := fun i => .int (sts.getD i stN).2.1) (w := fun i => .ref (bs.getD i 0)) 0 1 2) (fun j => [some (.int ((sts.getD j stN).1 : Nat)), some (.int (sts.getD j stN).2.1), some (.ref (bs.getD j 0))]) (by rintro j σ' (rfl | ⟨k, rfl⟩) <;> rfl) (fun H' s => B.ys s) (by rw [B.tl]; exact Nat.le_trans (show sts.length ≤ 1000 by omega) line64) (fun j => .int ((sts.getD j stN).1 : Nat)) ?_ ?_
  · intro j hj H' G s kk
    walk_at "s1"
    exact kk H' (Same.refl _)
  intro l H1 f1 s1 h1
  have e1 : (List.range ts.length).map (fun j => V.int ((sts.getD j stN).1 : Nat)) = ((sts.map (·.1)).map fun k : Nat => (k : Int)).map V.int := by
    rw [B.tl, range_getD' (fun x : Nat × Int × List Int => V.int ((x.1 : Nat) : Int)) stN sts, List.map_map, List.map_map]
    rfl
  rw [e1] at h1
  walk_at "s1"
  refine ⟨l, (sts.map (·.1)).map fun k : Nat => (k : Int), rfl, SqL.of h1, by simp; omega, fun p ms hp perm pw => ?_⟩
  have s2 := Same.updN (o := .lst (ms.map V.int)) hp
  have h2 : (upd H1 p (.lst (ms.map V.int))) p = some (.lst (ms.map V.int)) := upd_same
  generalize upd H1 p (.lst (ms.map V.int)) = H2 at *
  obtain ⟨ws, rfl⟩ := perm_nats perm
  have hmem : ∀ k, k ∈ ws ↔ k ∈ sts.map (·.1) := fun k => by
    rw [← mem_nats, perm.mem_iff, mem_nats]
  have hnd : ws.Nodup := by
    have h3 : ((sts.map (·.1)).map fun k : Nat => (k : Int)).Nodup := List.Pairwise.map _ (fun x y hxy z => hxy (by omega)) hn
    have h4 := (perm.nodup_iff).mpr h3
    exact List.Pairwise.of_map _ (fun x y hxy z => hxy (by rw [z])) h4
  have hpw : ws.Pairwise (· < ·) := by
    have h5 : ws.Pairwise (· ≤ ·) := List.Pairwise.of_map _ (fun x y h => by omega) pw
    exact List.Pairwise.imp₂ (fun x y h6 h7 => Nat.lt_of_le_of_ne h6 h7) h5 hnd
  exact q p H2 ws (s1.free hp) (s1.trans s2) h2 hpw hmem

theorem rk_paid_by : ∀ vs H Q E, sp_paid_by K vs H Q E → rd_paid_by K { nx := fun _ H' => Q .non H', rt := Q } (start ["steps", "voter"] vs) H := by
  rintro vs H Q E ⟨_, a, sts, i, rfl, hA, hl, hi, q⟩
  obtain ⟨ts, bs, B⟩ := hA.b
  have qA : SqL K H a (ts.map V.ref) := (B.ys (Same.refl _)).1
  unfold rd_paid_by
  walk_at "s1"
  refine comp_mapY (ys_list3 (ts := ts) (u := fun i => .int ((sts.getD i stN).1 : Nat)) (v := fun i => .int (sts.getD i stN).2.1) (w := fun i => .ref (bs.getD i 0)) 0 1 2) (fun j => [some (.int ((sts.getD j stN).1 : Nat)), some (.int (sts.getD j stN).2.1), some (.ref (bs.getD j 0)), some (.int (i : Int))]) (by rintro j σ' (rfl | ⟨k, rfl⟩) <;> rfl) (fun H' s => B.ys s) (by rw [B.tl]; exact Nat.le_trans (show sts.length ≤ 1000 by omega) line64) (fun j => .int ((sts.getD j stN).2.2.getD i 0)) ?_ ?_
  · intro j hj H' G s kk
    rw [B.tl] at hj
    have hp : SqL K H' (bs.getD j 0) ((sts.getD j stN).2.2.map V.int) := B.paid s hj
    have hil := hi (sts.getD j stN) (by simp [List.getD, hj])
    walk_at "s1"
    refine r_ix hp (atI_nat (v := .int ((sts.getD j stN).2.2.getD i 0)) (by generalize (sts.getD j stN).2.2 = xs at *; simp [List.getD, hil])) ?_
    exact kk H' (Same.refl _)
  intro l H1 f1 s1 h1
  have e1 : (List.range ts.length).map (fun j => V.int ((sts.getD j stN).2.2.getD i 0)) = (sts.map fun x => x.2.2.getD i 0).map V.int := by
    rw [B.tl, range_getD' (fun x : Nat × Int × List Int => V.int (x.2.2.getD i 0)) stN sts, List.map_map]
    rfl
  rw [e1] at h1
  walk_at "s1"
  exact q H1 s1

theorem rk_left_of : ∀ vs H Q E, sp_left_of K vs H Q E → rd_left_of K { nx := fun _ H' => Q .non H', rt := Q } (start ["purses", "steps"] vs) H := by
  rintro vs H Q E ⟨_, a, b, ps, sts, rfl, hA, hB, hl, hsl, hsp, q⟩
  have hlp : (ps.map V.int).length = ps.length := List.length_map _
  unfold rd_left_of
  walk_at "s1"
  try refine ⟨a, rfl, ⟨_, hA⟩, ?_⟩
  refine comp_mapY (ys_enum (xs := ps.map V.int) 0 1) (fun j => [some (.int j), some ((ps.map V.int).getD j .non), some (.ref b)]) (by rintro j σ' (rfl | ⟨k, rfl⟩) <;> rfl) (fun H' s => s.seq hA) (by rw [hlp]; exact Nat.le_trans (show _ ≤ 1000 by omega) line64) (fun j => .int (ps.getD j 0 - (sts.map fun x => x.2.2.getD j 0).sum)) ?_ ?_
  · intro j hj H' G s kk
    rw [hlp] at hj
    have e : (ps.map V.int).getD j .non = .int (ps.getD j 0) := by simp [List.getD, hj]
    rw [e]
    walk_at "s1"
    refine ⟨rfl, b, sts, j, rfl, stepsAt_same s hB, by omega, fun x hx => by rw [hsp x hx]; exact hj, fun H2 s2 => ?_⟩
    walk_at "s1"
    exact kk H2 s2
  · intro l H' f s h
    rw [hlp] at h
    refine q l H' f s ?_
    rw [h]
    unfold leftOf
    rw [List.map_map]
    rfl

theorem rk_step_behind : ∀ vs H Q E, sp_step_behind K vs H Q E → rd_step_behind K { nx := fun _ H' => Q .non H', rt := Q } (start ["purses", "costs", "wishes", "steps", "left", "offers", "work", "level"] vs) H := by
  rintro vs H Q E ⟨_, a, b, c, d, ps, cs, rows, sts, rfl, hA, hB, hC, hD, hl, hb, hv1, hv, hpl, hsl, hsw, hsn, hsp, hnn, qn, qs⟩
  have hll : (leftOf ps sts).length = ps.length := by unfold leftOf; rw [List.length_map, List.length_range]
  unfold rd_step_behind
  with_reducible refine r_seq ?_
  walk_at "s1"
  refine ⟨rfl, a, d, ps, sts, rfl, hA, hD, by omega, hsl, hsp, fun l1 H1 f1 s1 h1 => ?_⟩
  walk_at "s1"
  with_reducible refine r_seq ?_
  walk_at "s1"
  refine ⟨rfl, d, sts, rfl, stepsAt_same s1 hD, hsl, hsw, hsn, fun l2 H2 ws f2 s2 h2 hpw hmem => ?_⟩
  walk_at "s1"
  have s02 := s1.trans s2
  have hwl : ws.length ≤ 12 := by
    have := nodup_sub (l := ws) (m := sts.map (·.1)) (List.Pairwise.imp (fun h => Nat.ne_of_lt h) hpw) fun x hx => (hmem x).mp hx
    rw [List.length_map] at this
    omega
  refine ⟨rfl, l1, b, c, l2, leftOf ps sts, cs, rows, ws, rfl, SqL.of (s2 _ _ h1), s02.seq hB, s02.rows hC, SqL.of h2, hl, hb, hv1, hv, by rw [hll]; exact hpl, hnn, hwl, fun l3 H3 os f3 s3 h3 hol hok => ?_⟩
  have s03 := s02.trans s3
  have h13 : H3 l1 = some (.lst ((leftOf ps sts).map V.int)) := s3 _ _ (s2 _ _ h1)
  walk_at "s1"
  with_reducible refine r_seq ?_
  walk_at "s1"
  refine ⟨rfl, l3, os, rfl, SqL.of h3, by omega, fun k H4 hnx s4 => ?_⟩
  have s04 := s03.trans s4
  walk_at "s1"
  with_reducible refine r_seq ?_
  cases k with
  | none =>
    show tIfS _ _ _ _ [some (V.ref a), some (.ref b), some (.ref c), some (.ref d), some (.ref l1), some (.ref l3), some .non, none] _
    walk_at "s1"
    refine iteP rfl ?_
    walk_at "s1"
    refine qn (fun k hk hkn => ?_) H4 s04
    have hko : os[k]? = some os[k] := by simp [hol, hk]
    have h5 := hok k os[k] hko
    rw [hnx os[k] (List.mem_of_getElem? hko)] at h5
    rcases h5 with z | z
    · exact absurd ((hmem k).mp z) hkn
    · exact z
  | some k =>
    have hnx' := hnx
    obtain ⟨L, hkL, _⟩ := hnx'
    show tIfS _ _ _ _ [some (V.ref a), some (.ref b), some (.ref c), some (.ref d), some (.ref l1), some (.ref l3), some (.int (k : Int)), none] _
    walk_at "s1"
    refine iteN (by simp) ?_
    walk_at "s1"
    with_reducible refine r_seq ?_
    walk_at "s1"
    have hix : (os.map oV)[k]? = some (.int L) := by
      rw [List.getElem?_map, hkL]
      rfl
    refine r_ix (SqL.of (s4 _ _ h3)) (atI_nat hix) ?_
    walk_at "s1"
    refine ⟨rfl, l1, c, leftOf ps sts, rows, k, L, rfl, SqL.of (s4 _ _ h13), s04.rows hC, by omega, by omega, fun lp H5 f5 s5 h5 => ?_⟩
    walk_at "s1"
    rename_i t H6 f6 s6 h6
    have N := nx_of_offers (T := townT cs rows) hol hok (fun i _ => PF_nn hnn i) (c_pos hb) hkL hnx
    exact qs k L (nx_congr (fun j => (hmem j).symm) N) t lp H6 (s04.free (s5.free f6)) (s04.free f5) (s04.trans (s5.trans s6)) h6 (s6 _ _ h5)

theorem rk_choose : ∀ vs H Q E, sp_choose K vs H Q E → rd_choose K { nx := fun _ H' => Q .non H', rt := Q } (start ["purses", "costs", "wishes", "steps", "step"] vs) H := by
  rintro vs H Q E ⟨_, a, b, c, ps, cs, rows, rfl, hA, hB, hC, G, q⟩
  have h12 := G.c12
  unfold rd_choose
  with_reducible refine r_seq ?_
  walk_at "s1"
  rename_i ls H1 f1 s1 h1
  have ask : ∀ (r : List (Nat × Int)) (Ha : Hp) (R : VK), Pre cs rows ps r → Same H Ha → StepsNew H Ha ls (stepsF rows ps r) →
      (∀ (Hb : Hp) (v : V), Same Ha Hb → ((v = .non ∧ ∀ k, k < cs.length → k ∉ r.map (·.1) → hav rows.length (WR rows) (PF (leftS rows ps r)) k < (townT cs rows).c k) ∨ ∃ (k : Nat) (L : Int) (t : Addr), v = .ref t ∧ Nx (townT cs rows) (PF (leftS rows ps r)) (r.map (·.1)) k L ∧ t ≠ ls ∧ StepNew H Hb ls (k, L, paidF rows (leftS rows ps r) k L) t) → R v Hb) →
      sp_step_behind K [.ref a, .ref b, .ref c, .ref ls] Ha R E0 := by
    intro r Ha R hr sa hst hR
    have hrl := hr.len
    have hls : ∃ o, Ha ls = some o := by
      obtain ⟨ts, z, _⟩ := hst
      exact ⟨_, z⟩
    obtain ⟨o, ho⟩ := hls
    have e1 := leftOf_steps rows ps r
    have e2 := stepsF_1 rows ps r
    refine ⟨rfl, a, b, c, ls, ps, cs, rows, stepsF rows ps r, rfl, sa.seq hA, sa.seq hB, sa.rows hC, hst.at, h12, G.cb, G.v1, G.v20, G.pl, by rw [stepsF_len]; omega, fun x hx => ?_, by rw [e2]; exact hr.nd, stepsF_paid rows ps r, by rw [e1]; exact leftS_nn G.p0, fun h H' s' => ?_, fun k L n t b' H' ft fb s' ht hb' => ?_⟩
    · have : x.1 ∈ r.map (·.1) := by rw [← e2]; exact List.mem_map.mpr ⟨x, hx, rfl⟩
      obtain ⟨y, hy, e⟩ := List.mem_map.mp this
      have := hr.lt y hy
      omega
    · rw [e1, e2] at h
      exact hR H' .non s' (.inl ⟨rfl, h⟩)
    · rw [e1, e2] at n
      rw [e1] at hb'
      refine hR H' (.ref t) s' (.inr ⟨k, L, t, rfl, n, fun z => ?_, b', sa.free ft, sa.free fb, fun z => ?_, ht, hb'⟩)
      · rw [z, ho] at ft
        cases ft
      · rw [z, ho] at fb
        cases fb
  let St : List (Nat × Int) → V → Hp → Prop := fun r v Hb => (v = .non ∧ ∀ k, k < cs.length → k ∉ r.map (·.1) → hav rows.length (WR rows) (PF (leftS rows ps r)) k < (townT cs rows).c k) ∨ ∃ (k : Nat) (L : Int) (t : Addr), v = .ref t ∧ Nx (townT cs rows) (PF (leftS rows ps r)) (r.map (·.1)) k L ∧ t ≠ ls ∧ StepNew H Hb ls (k, L, paidF rows (leftS rows ps r) k L) t
  with_reducible refine r_seq ?_
  walk_at "s1"
  refine ask [] H1 _ (pre_nil cs rows ps) s1 ⟨[], h1, .nil⟩ fun H2 v s2 hv => ?_
  walk_at "s1"
  with_reducible refine r_seq ?_
  refine ⟨fun μ σ H' => ∃ (r : List (Nat × Int)) (v : V), σ = [some (.ref a), some (.ref b), some (.ref c), some (.ref ls), some v] ∧ Pre cs rows ps r ∧ Same H H' ∧ StepsNew H H' ls (stepsF rows ps r) ∧ St r v H' ∧ μ = cs.length - r.length, ⟨_, [], v, rfl, pre_nil cs rows ps, s1.trans s2, ⟨[], s2 _ _ h1, .nil⟩, hv, rfl⟩, ?_⟩
  rintro μ σ Ha ⟨r, v, rfl, hr, sa, hst, hv, rfl⟩
  rcases hv with ⟨rfl, hstop⟩ | ⟨k, L, t, rfl, n, htl, b', z1, z2, z3, z4, z5⟩
  · walk_at "s1"
    refine iteNS rfl ?_
    walk_at "s1"
    exact q ls Ha r f1 sa hst (runx_town G (hr.stop hstop))
  · walk_at "s1"
    refine iteNP (by simp) ?_
    have hr' := hr.snoc G.pl n
    have hlen := hr'.len
    rw [List.length_append] at hlen
    have hlen : r.length + 1 ≤ cs.length := hlen
    refine ⟨fun σ' H' => ∃ (v : V), σ' = [some (.ref a), some (.ref b), some (.ref c), some (.ref ls), some v] ∧ Same H H' ∧ StepsNew H H' ls (stepsF rows ps (r ++ [(k, L)])) ∧ St (r ++ [(k, L)]) v H', ?_, ?_⟩
    · rintro σ' H' ⟨v, rfl, s', hst', hv'⟩
      exact ⟨_, (by rw [List.length_append]; show cs.length - (r.length + 1) < cs.length - r.length; omega), r ++ [(k, L)], v, rfl, hr', s', hst', hv', rfl⟩
    obtain ⟨ts, ht, hpt⟩ := hst
    have hpl := Paired.length hpt
    rw [stepsF_len] at hpl
    with_reducible refine r_seq ?_
    walk_at "s1"
    refine ⟨tyL ht, ?_⟩
    walk_at "s1"
    refine r_appendN ht (by rw [List.length_map]; exact Nat.lt_of_lt_of_le (show ts.length < 1000 by omega) line64) ?_
    have sb : Same H (upd Ha ls (.lst (ts.map V.ref ++ [.ref t]))) := sa.upd f1
    have hst2 : StepsNew H (upd Ha ls (.lst (ts.map V.ref ++ [.ref t]))) ls (stepsF rows ps (r ++ [(k, L)])) := by
      refine ⟨ts ++ [t], by rw [upd_same, List.map_append]; rfl, ?_⟩
      rw [stepsF_app]
      refine paired_app (paired_mapne hpt ht) (.cons ⟨b', z1, z2, z3, by rw [upd_ne htl]; exact z4, by rw [upd_ne z3]; exact z5⟩ .nil)
    generalize upd Ha ls (.lst (ts.map V.ref ++ [.ref t])) = Hb at *
    walk_at "s1"
    refine ask (r ++ [(k, L)]) Hb _ hr' sb hst2 fun H3 v s3 hv3 => ?_
    walk_at "s1"
    obtain ⟨ts3, y1, y2⟩ := hst2
    exact ⟨v, rfl, sb.trans s3, ⟨ts3, s3 _ _ y1, Paired.mapP y2 fun _ _ ⟨b3, w1, w2, w3, w4, w5⟩ => ⟨b3, w1, w2, w3, s3 _ _ w4, s3 _ _ w5⟩⟩, hv3⟩

theorem cost_cast (cs : List Int) (ks : List Nat) : ((castL ks).map fun k => cs.getD k.toNat 0).sum = costL cs ks := by
  unfold castL costL
  rw [List.map_map]
  rfl
theorem rk_coins_over : ∀ vs H Q E, sp_coins_over K vs H Q E → rd_coins_over K { nx := fun _ H' => Q .non H', rt := Q } (start ["coins", "costs", "works"] vs) H := by
  rintro vs H Q E ⟨_, c, a, b, cs, ks, rfl, hA, hB, hl, hk, q⟩
  unfold rd_coins_over
  walk_at "s1"
  refine ⟨rfl, a, b, cs, castL ks, rfl, hA, hB, by unfold castL; rw [List.length_map]; exact hl, fun k h => ?_, fun H1 s1 => ?_⟩
  · obtain ⟨n, hn, e⟩ := List.mem_map.mp h
    exact ⟨n, e.symm, hk n hn⟩
  rw [cost_cast]
  walk_at "s1"
  exact q H1 s1

theorem cntW_common (rows : List (List Int)) (k : Nat) : (commonF rows [(k : Int)]).length = cntW rows k := by
  unfold commonF cntW
  rw [List.length_map]
  have : ∀ (rs : List (List Int)) (d : Nat), ((List.range rs.length).filter fun i => [(k : Int)].all fun k => decide (k ∈ rs.getD i [])).length = (rs.filter fun r => decide ((k : Int) ∈ r)).length := by
    intro rs
    induction rs with
    | nil => intro _; rfl
    | cons r rs ih =>
      intro d
      rw [List.length_cons, List.range_succ_eq_map, List.filter_cons, List.filter_cons]
      have e : ((List.map Nat.succ (List.range rs.length)).filter fun i => [(k : Int)].all fun k => decide (k ∈ (r :: rs).getD i [])).length = (rs.filter fun r => decide ((k : Int) ∈ r)).length := by
        rw [List.filter_map, List.length_map]
        exact ih d
      by_cases h : (k : Int) ∈ r
      · have h1 : ([(k : Int)].all fun k => decide (k ∈ (r :: rs).getD 0 [])) = true := by simpa using h
        rw [h1, decide_eq_true h, if_pos rfl, if_pos rfl, List.length_cons, List.length_cons, e]
      · have h1 : ([(k : Int)].all fun k => decide (k ∈ (r :: rs).getD 0 [])) = false := by simpa using h
        rw [h1, decide_eq_false h, if_neg (by simp), if_neg (by simp), e]
  exact this rows 0
theorem mem_castL {k : Nat} {ks : List Nat} : (k : Int) ∈ castL ks ↔ k ∈ ks := by
  unfold castL
  constructor
  · intro h
    obtain ⟨n, hn, e⟩ := List.mem_map.mp h
    have : n = k := by omega
    rwa [← this]
  · intro h
    exact List.mem_map.mpr ⟨k, h, rfl⟩
theorem rk_further_works : ∀ vs H Q E, sp_further_works K vs H Q E → rd_further_works K { nx := fun _ H' => Q .non H', rt := Q } (start ["costs", "wishes", "works"] vs) H := by
  rintro vs H Q E ⟨_, a, b, c, cs, rows, ks, rfl, hA, hB, hC, hl, hrl, q⟩
  have hlc : (cs.map V.int).length = cs.length := List.length_map _
  have en : ((cs.length : Int)).toNat = cs.length := by omega
  unfold rd_further_works
  walk_at "s1"
  rw [hlc] at *
  rw [en]
  refine comp_filtY (ys_range 0) (fun j => [some (.int (0 + (j : Int))), some (.ref c), some (.ref b)]) (by rintro j σ' (rfl | ⟨k, rfl⟩) <;> rfl) (fun _ _ => trivial) (Nat.le_trans (show cs.length ≤ 1000 by omega) line64) (fun k => decide (k ∉ ks) && decide (0 < cntW rows k)) (fun j => .int (j : Int)) ?_ ?_ ?_
  · intro j hj H' F s kk
    have ei : (0 : Int) + (j : Int) = (j : Int) := by omega
    rw [ei]
    have hC' := s.seq hC
    walk_at "s1"
    by_cases hj' : j ∈ ks
    rotate_left
    · rw [decide_eq_false (fun z => hj' (mem_castL.mp z))]
      refine iteNF ?_
      rw [decide_eq_true hj', Bool.true_and] at kk
      refine r_tBL ?_
      walk_at "s1"
      refine ⟨rfl, b, rows, (j : Int), rfl, s.rows hB, hrl, fun l1 H1 f1 s1 h1 => ⟨l1, _, rfl, SqL.of h1, ?_⟩⟩
      have e : (!((commonF rows [(j : Int)]).map V.int).isEmpty) = decide (0 < cntW rows j) := by
        rw [← cntW_common]
        cases commonF rows [(j : Int)] <;> simp
      rw [e]
      exact kk H1 s1
    · rw [decide_eq_true (mem_castL.mpr hj')]
      refine iteNT ?_
      rw [decide_eq_false (fun z => z hj'), Bool.false_and] at kk
      exact kk H' (Same.refl _)
  · intro j hj _ H' F s kk
    have ei : (0 : Int) + (j : Int) = (j : Int) := by omega
    rw [ei]
    walk_at "s1"
    exact kk H' (Same.refl _)
  intro l H1 f1 s1 h1
  refine q l H1 f1 s1 ?_
  rw [h1]
  unfold castL furtherF
  rw [List.map_map]
  rfl

theorem rk_rank_of : ∀ vs H Q E, sp_rank_of K vs H Q E → rd_rank_of K { nx := fun _ H' => Q .non H', rt := Q } (start ["costs", "wishes", "work"] vs) H := by
  rintro vs H Q E ⟨_, a, b, cs, rows, k, rfl, hA, hB, hrl, hk, q⟩
  unfold rd_rank_of
  walk_at "s1"
  refine ⟨rfl, b, rows, (k : Int), rfl, hB, hrl, fun l1 H1 f1 s1 h1 => ?_⟩
  have q1 : SqL K H1 l1 ((commonF rows [(k : Int)]).map V.int) := SqL.of h1
  have hA1 := s1.seq hA
  walk_at "s1"
  refine r_ix hA1 (atI_nat (getInt (show cs[k]? = some (cs.getD k 0) by simp [List.getD, hk]))) ?_
  walk_at "s1"
  rename_i t H2 f2 s2 h2
  refine q t H2 (s1.free f2) (s1.trans s2) ?_
  rw [h2]
  unfold rankF
  rw [← cntW_common, List.length_map]
  rfl

theorem further_len (cs : List Int) (rows : List (List Int)) (ks : List Nat) : (furtherF cs rows ks).length ≤ cs.length := by
  unfold furtherF
  have := List.length_filter_le (fun k => decide (k ∉ ks) && decide (0 < cntW rows k)) (List.range cs.length)
  rwa [List.length_range] at this
theorem rk_ranked_works : ∀ vs H Q E, sp_ranked_works K vs H Q E → rd_ranked_works K { nx := fun _ H' => Q .non H', rt := Q } (start ["costs", "wishes", "works", "ranks"] vs) H := by
  rintro vs H Q E ⟨_, a, b, c, cs, rows, ks, rfl, hA, hB, hC, hl, hrl, q⟩
  unfold rd_ranked_works
  have hfl := further_len cs rows ks
  have hfm : ∀ k ∈ furtherF cs rows ks, k < cs.length := fun k hk => List.mem_range.mp (List.mem_filter.mp hk).1
  have hfn : (furtherF cs rows ks).Nodup := List.Pairwise.filter _ List.nodup_range
  generalize hf : furtherF cs rows ks = fs at *
  have hlm : ((castL fs).map V.int).length = fs.length := by simp [castL]
  with_reducible refine r_seq ?_
  walk_at "s1"
  refine ⟨rfl, a, b, c, cs, rows, ks, rfl, hA, hB, hC, by omega, hrl, fun l1 H1 f1 s1 h1 => ?_⟩
  rw [hf] at h1
  have q1 : SqL K H1 l1 ((castL fs).map V.int) := SqL.of h1
  walk_at "s1"
  try refine ⟨l1, rfl, ⟨_, q1⟩, ?_⟩
  refine comp_tupsY (ys_list (xs := (castL fs).map V.int) 0) (fun j => [some (((castL fs).map V.int).getD j .non), some (.ref a), some (.ref b)]) (by rintro j σ' (rfl | ⟨k, rfl⟩) <;> rfl) (fun H' s => s.seq q1) (by rw [hlm]; exact Nat.le_trans (show fs.length ≤ 1000 by omega) line64) (fun _ => true) (fun j => rankF cs rows (fs.getD j 0)) (fun i hi H' F s kk => kk H' (Same.refl _)) ?_ ?_
  · intro j hj _ H' F s kk
    rw [hlm] at hj
    have e : ((castL fs).map V.int).getD j .non = .int ((fs.getD j 0 : Nat) : Int) := by simp [castL, List.getD, hj]
    rw [e]
    have hk := hfm (fs.getD j 0) (by simp [List.getD, hj])
    have sH := s1.trans s
    walk_at "s1"
    exact ⟨rfl, a, b, cs, rows, _, rfl, sH.seq hA, sH.rows hB, hrl, hk, fun t H2 f2 s2 h2 => kk t H2 f2 s2 h2⟩
  intro l2 bs H2 f2 s2 h2 hT
  have eT : ((List.range ((castL fs).map V.int).length).filter fun _ => true).map (fun j => rankF cs rows (fs.getD j 0)) = fs.map (rankF cs rows) := by
    rw [List.filter_eq_self.mpr (fun _ _ => rfl), hlm, range_getD' (rankF cs rows) 0 fs]
  rw [eT] at hT
  walk_at "s1"
  refine r_sortT (k := 2) h2 hT (fun r hr => ?_) ?_ (by rw [List.length_map]; omega) fun l3 bs3 rows3 H3 f3 s3 h3 hT3 perm pw => ?_
  · obtain ⟨i, _, rfl⟩ := List.mem_map.mp hr
    rfl
  · exact List.Pairwise.map _ (fun x y hxy z => hxy (rankF_inj z)) hfn
  obtain ⟨srt, hs⟩ : ∃ srt : List Nat, rows3 = srt.map (rankF cs rows) := by
    refine ⟨rows3.map fun r => (r.getD 2 0).toNat, ?_⟩
    rw [List.map_map]
    conv => lhs; rw [← List.map_id rows3]
    refine List.map_congr_left fun r hr => ?_
    obtain ⟨i, _, rfl⟩ := List.mem_map.mp (perm.mem_iff.mp hr)
    simp [rankF]
  subst hs
  have hR : Ranked cs rows ks srt := by
    refine ⟨?_, List.Pairwise.of_map _ (fun _ _ h => h) pw⟩
    rw [hf]
    have h5 := perm.map fun r : List Int => (r.getD 2 0).toNat
    rw [List.map_map, List.map_map] at h5
    have e5 : ∀ xs : List Nat, xs.map ((fun r : List Int => (r.getD 2 0).toNat) ∘ rankF cs rows) = xs := fun xs => by
      conv => rhs; rw [← List.map_id xs]
      refine List.map_congr_left fun x _ => ?_
      simp [rankF]
    rw [e5, e5] at h5
    exact h5
  have hbl : bs3.length = srt.length := by have := Paired.length hT3; rw [List.length_map] at this; omega
  have hsl : srt.length = fs.length := by have := hR.pm.length_eq; rw [hf] at this; exact this
  walk_at "s1"
  try refine ⟨l3, rfl, ⟨_, SqL.of h3⟩, ?_⟩
  refine comp_mapY (ys_list3 (ts := bs3) (u := fun i => .int (-(cntW rows (srt.getD i 0) : Int))) (v := fun i => .int (cs.getD (srt.getD i 0) 0)) (w := fun i => .int ((srt.getD i 0 : Nat) : Int)) 0 1 2) (fun j => [some (.int (-(cntW rows (srt.getD j 0) : Int))), some (.int (cs.getD (srt.getD j 0) 0)), some (.int ((srt.getD j 0 : Nat) : Int))]) (by rintro j σ' (rfl | ⟨k, rfl⟩) <;> rfl) (fun H' s => ⟨s.seq (SqL.of h3), fun i b hb => ?_⟩) (by rw [hbl]; exact Nat.le_trans (show srt.length ≤ 1000 by omega) line64) (fun j => .int ((srt.getD j 0 : Nat) : Int)) ?_ ?_
  · obtain ⟨r, hr, hH⟩ := hT3.get hb
    rw [List.getElem?_map] at hr
    have hi : i < srt.length := by rw [← hbl]; exact (List.getElem?_eq_some_iff.mp hb).1
    rw [List.getElem?_eq_getElem hi] at hr
    cases hr
    have e6 : srt.getD i 0 = srt[i] := by simp [List.getD, hi]
    rw [e6]
    exact SqT.of (s _ _ hH)
  · intro j hj H' F s kk
    walk_at "s1"
    exact kk H' (Same.refl _)
  intro l4 H4 f4 s4 h4
  have e4 : (List.range bs3.length).map (fun j => V.int ((srt.getD j 0 : Nat) : Int)) = (castL srt).map V.int := by
    unfold castL
    rw [hbl, range_getD' (fun k : Nat => V.int (k : Int)) 0 srt, List.map_map]
    rfl
  rw [e4] at h4
  exact q l4 H4 srt ((s1.trans (s2.trans s3)).free f4) (s1.trans (s2.trans (s3.trans s4))) hR h4

theorem rk_fill : ∀ vs H Q E, sp_fill K vs H Q E → rd_fill K E { nx := fun _ H' => Q .non H', rt := Q } (start ["coins", "costs", "wishes", "works", "over", "filled", "work"] vs) H := by
  rintro vs H Q E ⟨_, n, a, b, c, cs, rows, ks, rfl, hA, hB, hC, hl, hrl, hkl, hk, qe, qn⟩
  unfold rd_fill
  with_reducible refine r_seq ?_
  walk_at "s1"
  refine ⟨rfl, n, a, c, cs, ks, rfl, hA, hC, hkl, hk, fun H1 s1 => ?_⟩
  generalize hO : n - costL cs ks = over at *
  walk_at "s1"
  with_reducible refine r_seq ?_
  walk_at "s1"
  by_cases hneg : over < 0
  · rw [decide_eq_true hneg]
    refine iteT ?_
    exact ⟨by decide, qe (by omega) H1 s1⟩
  rw [decide_eq_false hneg]
  refine iteF ?_
  have qn := qn (by omega)
  walk_at "s1"
  with_reducible refine r_seq ?_
  walk_at "s1"
  rename_i lf H2 f2 s2 h2
  with_reducible refine r_seq ?_
  have s12 := s1.trans s2
  walk_at "s1"
  refine ⟨rfl, a, b, c, cs, rows, ks, rfl, s12.seq hA, s12.rows hB, s12.seq hC, hl, hrl, fun l3 H3 srt f3 s3 hR h3 => ?_⟩
  have hsm : ∀ k ∈ srt, k < cs.length := fun k hk => List.mem_range.mp (List.mem_filter.mp (hR.pm.mem_iff.mp hk)).1
  have hsl : srt.length ≤ cs.length := by rw [hR.pm.length_eq]; exact further_len cs rows ks
  have hlm : ((castL srt).map V.int).length = srt.length := by simp [castL]
  have q3 : SqL K H3 l3 ((castL srt).map V.int) := SqL.of h3
  have s03 := s12.trans s3
  have n3 : l3 ≠ lf := fun z => by rw [z, h2] at f3; cases f3
  walk_at "s1"
  try refine ⟨l3, rfl, ⟨_, q3⟩, ?_⟩
  refine for_ys (ys_list (xs := (castL srt).map V.int) 6)
    (fun i σ H' => SameX lf H3 H' ∧ Same H H' ∧ i ≤ srt.length ∧ ∃ (D : List Nat) (o : Int) (v6 : Option V), H' lf = some (.lst ((castL D).map V.int)) ∧ D.length ≤ i ∧ D ++ grF cs (srt.drop i) o = grF cs srt over ∧ σ = [some (.int n), some (.ref a), some (.ref b), some (.ref c), some (.int o), some (.ref lf), v6])
    ⟨(Same.refl _).x _, s03, Nat.zero_le _, [], over, _, s3 _ _ h2, Nat.le_refl _, rfl, rfl⟩ (fun i σ H' h => SqL.of (h.1 _ _ n3 h3)) ?_ ?_
  · rintro i σ Ha Hb hi ⟨sx, sa, hil, D, o, v6, hD, hDl, hE, rfl⟩ sb
    rw [hlm] at hi
    have e : ((castL srt).map V.int).getD i .non = .int ((srt[i] : Nat) : Int) := by simp [castL, List.getD, hi]
    rw [e]
    have hk := hsm srt[i] (List.getElem_mem hi)
    rw [List.drop_eq_getElem_cons hi, grF] at hE
    generalize srt[i] = k at *
    have sab := sa.trans sb
    have hDb := sb _ _ hD
    have sxb : SameX lf H3 Hb := fun x y hx hy => sb _ _ (sx x y hx hy)
    have hAb := sab.seq hA
    have ax : (cs.map V.int)[k]? = some (.int (cs.getD k 0)) := getInt (show cs[k]? = some (cs.getD k 0) by simp [List.getD, hk])
    walk_at "s1"
    refine r_ix hAb (atI_nat ax) ?_
    walk_at "s1"
    refine iteD (fun hc => ?_) (fun hc => ?_)
    · rw [if_pos hc] at hE
      with_reducible refine r_seq ?_
      walk_at "s1"
      refine ⟨tyL hDb, ?_⟩
      walk_at "s1"
      refine r_appendN hDb (by rw [List.length_map]; unfold castL; rw [List.length_map]; exact Nat.lt_of_lt_of_le (show D.length < 1000 by omega) line64) ?_
      have su : Same H (upd Hb lf (.lst ((castL D).map V.int ++ [.int k]))) := sab.upd (s1.free f2)
      have sxu : SameX lf H3 (upd Hb lf (.lst ((castL D).map V.int ++ [.int k]))) := fun x y hx hy => by rw [upd_ne hx]; exact sxb x y hx hy
      have hu : upd Hb lf (.lst ((castL D).map V.int ++ [.int k])) lf = some (.lst ((castL (D ++ [k])).map V.int)) := by rw [upd_same]; simp [castL]
      generalize upd Hb lf (.lst ((castL D).map V.int ++ [.int k])) = H7 at *
      walk_at "s1"
      refine r_ix (su.seq hA) (atI_nat ax) ?_
      walk_at "s1"
      exact ⟨sxu, su, by omega, D ++ [k], o - cs.getD k 0, _, hu, by rw [List.length_append]; show D.length + 1 ≤ i + 1; omega, by rw [List.append_assoc]; exact hE, rfl⟩
    · rw [if_neg hc] at hE
      walk_at "s1"
      exact ⟨sxb, sab, by omega, D, o, _, hDb, by omega, hE, rfl⟩
  · rintro σ Ha ⟨_, sa, _, D, o, v6, hD, hDl, hE, rfl⟩
    rw [hlm, List.drop_length, grF, List.append_nil] at hE
    walk_at "s1"
    rw [hE] at hD
    exact qn lf Ha srt (s1.free f2) sa hR hD

theorem castL_appd (a b : List Nat) : castL a ++ castL b = castL (a ++ b) := by unfold castL; rw [List.map_append]
theorem rk_plan_of : ∀ vs H Q E, sp_plan_of K vs H Q E → rd_plan_of K { nx := fun _ H' => Q .non H', rt := Q } (start ["coins", "costs", "wishes", "steps", "chosen", "filled"] vs) H := by
  rintro vs H Q E ⟨_, m, a, b, cs, rows, rfl, hm, hA, hB, hc12, hcb, hv1, hv20, q⟩
  have hlc : (cs.map V.int).length = cs.length := List.length_map _
  obtain ⟨bs, hbs, hbp⟩ := id hB
  have hlb : (bs.map V.ref).length = rows.length := by rw [List.length_map]; exact (Paired.length hbp).symm
  unfold rd_plan_of
  with_reducible refine r_seq ?_
  walk_at "s1"
  refine ⟨rfl, m, a, b, cs.map V.int, bs.map V.ref, rfl, hm, hA, by omega, hbs, by omega, by omega, fun lp H1 f1 s1 h1 => ?_⟩
  rw [hlb, hlc] at h1
  obtain ⟨hPv, hPd⟩ := purse_town (c := m) (v := rows.length) (w := cs.length) hv1 hv20
  generalize hPe : ((m * tog rows.length ^ (cs.length + 1) / rows.length : Nat) : Int) = P at *
  have hP0 : 0 ≤ P := by rw [← hPe]; exact Int.natCast_nonneg _
  have G : GoodT cs rows (List.replicate rows.length P) := ⟨by omega, hcb, hv1, hv20, List.length_replicate, fun p hp => by rw [List.eq_of_mem_replicate hp]; exact hP0, fun p hp => by rw [List.eq_of_mem_replicate hp]; exact hPd⟩
  walk_at "s1"
  refine ⟨rfl, lp, a, b, List.replicate rows.length P, cs, rows, rfl, SqL.of h1, s1.seq hA, s1.rows hB, G, fun ls H2 run f2 s2 hst hrun => ?_⟩
  have hrl : run.length ≤ 12 := Nat.le_trans (run_len hrun.run) hc12
  obtain ⟨hrk, hrn⟩ := run_works hrun.run
  have e2 := stepsF_1 rows (List.replicate rows.length P) run
  have s02 := s1.trans s2
  walk_at "s1"
  with_reducible refine r_seq ?_
  walk_at "s1"
  refine ⟨rfl, ls, _, rfl, hst.at, by rw [stepsF_len]; omega, fun x hx => ?_, by rw [e2]; exact hrn, fun lw H3 ws f3 s3 h3 hws hwm => ?_⟩
  · have hx1 : x.1 ∈ run.map (·.1) := by rw [← e2]; exact List.mem_map.mpr ⟨x, hx, rfl⟩
    obtain ⟨y, hy, e⟩ := List.mem_map.mp hx1
    have hy2 : y.1 < cs.length := (hrk y hy).1
    omega
  rw [e2] at hwm
  have PR : PlanR m cs rows P run ws := ⟨hPv, hP0, hrun, hws, hwm⟩
  have hwl : ws.length ≤ 12 := by rw [PR.perm.length_eq, List.length_map]; exact hrl
  have hcost := PR.cost
  have s03 := s02.trans s3
  have h3 : H3 lw = some (.lst ((castL ws).map V.int)) := h3
  walk_at "s1"
  with_reducible refine r_seq ?_
  walk_at "s1"
  refine ⟨rfl, m, a, b, lw, cs, rows, ws, rfl, s03.seq hA, s03.rows hB, SqL.of h3, by omega, by omega, by omega, PR.lt, fun z => by omega, fun _ lf H4 srt f4 s4 hR h4 => ?_⟩
  have s04 := s03.trans s4
  have hlen : (grF cs srt ((m : Int) - costL cs ws)).length ≤ cs.length := Nat.le_trans (grF_sub cs srt _).length_le (by rw [hR.pm.length_eq]; exact further_len cs rows ws)
  have hmem : ∀ k ∈ grF cs srt ((m : Int) - costL cs ws), k < cs.length := fun k hk => List.mem_range.mp (List.mem_filter.mp (hR.pm.mem_iff.mp ((grF_sub cs srt _).subset hk))).1
  generalize hD : grF cs srt ((m : Int) - costL cs ws) = D at *
  walk_at "s1"
  refine r_catN (s4 _ _ h3) h4 (by simp only [List.length_map, castL]; exact Nat.le_trans (show _ ≤ 1000 by omega) line64) fun l5 H5 f5 s5 h5 => ?_
  rw [← List.map_append, castL_appd] at h5
  have s05 := s04.trans s5
  walk_at "s1"
  refine ⟨rfl, m, a, l5, cs, ws ++ D, rfl, s05.seq hA, SqL.of h5, by rw [List.length_append]; omega, fun k hk => ?_, fun H6 s6 => ?_⟩
  · rcases List.mem_append.mp hk with z | z
    · exact PR.lt k z
    · exact hmem k z
  walk_at "s1"
  rename_i t H7 f7 s7 h7
  have s37 : Same H3 H7 := s4.trans (s5.trans (s6.trans s7))
  refine q t ls lf H7 P run ws srt (s03.trans s37) PR hR ?_ (stepsAt_same (s3.trans s37) hst.at) ?_
  · rw [hD]
    exact h7
  · rw [hD]
    exact s7 _ _ (s6 _ _ (s5 _ _ h4))

theorem rk__law_cell_at : ∀ vs H Q E, sp__law_cell_at K vs H Q E → rd__law_cell_at K { nx := fun _ H' => Q .non H', rt := Q } (start ["script", "k"] vs) H := by
  rintro vs H Q E ⟨_, a, ns, k, rfl, hS, q⟩
  unfold rd__law_cell_at
  walk_at "w"
  rw [List.length_map]
  refine ite2 (fun h => ?_) (fun h => ?_)
  · have hk : k < ns.length := by have := of_decide_eq_true h; omega
    walk_at "w"
    refine r_ix hS (atI_nat (getInt (show ns[k]? = some (ns.getD k 0) by simp [List.getD, hk]))) ?_
    exact q
  · have hk : ¬ k < ns.length := fun z => h (decide_eq_true (by omega))
    walk_at "w"
    have e : ns.getD k 0 = 0 := by simp [List.getD, List.getElem?_eq_none (Nat.le_of_not_lt hk)]
    rw [e] at q
    exact q
theorem r__law_cell_at {a : Addr} {ns : List Int} {k : Int} {H : Hp} {Q : VK} {E : XK} (h0 : 0 ≤ k) (hS : SqL K H a (ns.map V.int)) (h : Q (.int (ns.getD k.toNat 0)) H) : sp__law_cell_at K [.ref a, .int k] H Q E :=
  ⟨rfl, a, ns, k.toNat, by rw [Int.toNat_of_nonneg h0], hS, h⟩
local macro_rules | `(tactic| walk_at "call") => `(tactic| ((with_reducible show sp__law_cell_at _ _ _ _ _); refine r__law_cell_at (by walk_at "num") (by walk_at "sq") ?_))

theorem rk__law_whole : ∀ vs H Q E, sp__law_whole K vs H Q E → rd__law_whole K { nx := fun _ H' => Q .non H', rt := Q } (start ["found"] vs) H := by
  rintro vs H Q E ⟨_, i, rfl, q⟩
  unfold rd__law_whole
  walk_at "w"
  refine r_isiI kit_ii ?_
  walk_at "w"
  refine iteT ?_
  walk_at "w"
  refine r_isiI kit_ib ?_
  walk_at "w"
  exact q
theorem r__law_whole {i : Int} {H : Hp} {Q : VK} {E : XK} (h : Q (.bl true) H) : sp__law_whole K [.int i] H Q E := ⟨rfl, i, rfl, h⟩
local macro_rules | `(tactic| walk_at "call") => `(tactic| ((with_reducible show sp__law_whole _ _ _ _ _); refine r__law_whole ?_))

theorem rk__law_draw : ∀ vs H Q E, sp__law_draw K vs H Q E → rd__law_draw K { nx := fun _ H' => Q .non H', rt := Q } (start ["cell", "place", "spot"] vs) H := by
  rintro vs H Q E ⟨_, c, p, rfl, hp, q⟩
  unfold rd__law_draw
  with_reducible refine r_seq ?_
  walk_at "s1"
  have z1 := Int.emod_nonneg c (show (999983 : Int) ≠ 0 by decide)
  have z2 := Int.emod_lt_of_pos c (show (0 : Int) < 999983 by decide)
  generalize c % 999983 = y at *
  walk_at "s1"
  generalize (y + 400009 + 7001 * (p : Int)) * (y + 400009 + 7001 * (p : Int)) * (y + 400009 + 7001 * (p : Int)) * (2 * (p : Int) + 3) = w at *
  exact q _ (Int.emod_nonneg w (by decide)) (Int.emod_lt_of_pos w (by decide))

theorem rk__law_draws : ∀ vs H Q E, sp__law_draws K vs H Q E → rd__law_draws K { nx := fun _ H' => Q .non H', rt := Q } (start ["cell", "many"] vs) H := by
  rintro vs H Q E ⟨_, c, n, rfl, hn, q⟩
  unfold rd__law_draws
  walk_at "s1"
  have en : ((n : Int)).toNat = n := by omega
  rw [en]
  refine comp_genY (ys_range 0) (fun i => [some (.int (0 + (i : Int))), some (.int c)]) (by rintro i σ' (rfl | ⟨k, rfl⟩) <;> rfl) (fun _ _ => trivial) (Nat.le_trans (show n ≤ 1000 by omega) line64) (fun _ => true)
    (fun _ _ v _ => ∃ r : Int, v = .int r ∧ 0 ≤ r ∧ r < 1000000007) (fun l i v H1 H2 s h => h) (fun i hi H' F s kk => kk H' (Same.refl _)) ?_ ?_
  · intro l i hi _ H' F hl _ s kk
    have ei : (0 : Int) + (i : Int) = (i : Int) := by omega
    rw [ei]
    walk_at "s1"
    exact ⟨rfl, c, i, rfl, by omega, fun r h1 h2 => kk _ H' ⟨r, rfl, h1, h2⟩ (Same.refl _)⟩
  intro l ys H1 f1 s1 h1 pr
  obtain ⟨xs, rfl, hxl, hxb⟩ := paired_ints (P := fun _ r => 0 ≤ r ∧ r < 1000000007) pr
  rw [List.filter_eq_self.mpr (fun _ _ => rfl), List.length_range] at hxl
  refine q l H1 xs f1 s1 h1 hxl fun x hx => ?_
  obtain ⟨_, _, z⟩ := hxb x hx
  exact z

theorem rk__law_cost : ∀ vs H Q E, sp__law_cost K vs H Q E → rd__law_cost K { nx := fun _ H' => Q .non H', rt := Q } (start ["number", "kind", "usual"] vs) H := by
  rintro vs H Q E ⟨_, n, k, u, rfl, hu1, hu2, q⟩
  unfold rd__law_cost
  walk_at "s1"
  rename_i l1 H1 f1 s1 h1
  obtain ⟨y, hy, hy3⟩ := modI k 3 (by decide)
  have hy : k % 3 = (y : Int) := hy
  rw [hy]
  have key : ∀ y, y < 3 → ∃ d : Int, ([.int (1 + n % 9), .int (1 + n * 80021 % 1000000000000), .int u] : List V)[y]? = some (.int d) ∧ 1 ≤ d ∧ d ≤ 1000000000000 := by
    intro y hy
    rcases (show y = 0 ∨ y = 1 ∨ y = 2 by omega) with e | e | e <;> subst e
    · exact ⟨_, rfl, by omega, by omega⟩
    · exact ⟨_, rfl, by omega, by omega⟩
    · exact ⟨_, rfl, hu1, hu2⟩
  obtain ⟨d, hd, hd1, hd2⟩ := key y hy3
  refine r_ix (SqL.of h1) (atI_nat hd) ?_
  exact q d H1 hd1 hd2 s1

theorem rowOk_range (n : Nat) : RowOk n (castL (List.range n)) := ⟨List.range n, rfl, List.pairwise_lt_range, fun w hw => List.mem_range.mp hw⟩
theorem rowOk_filter (n : Nat) (p : Nat → Bool) : RowOk n (castL ((List.range n).filter p)) := ⟨_, rfl, List.Pairwise.filter _ List.pairwise_lt_range, fun w hw => List.mem_range.mp (List.mem_filter.mp hw).1⟩
theorem rowOk_take {n : Nat} {r : List Int} (m : Nat) (h : RowOk n r) : RowOk n (r.take m) := by
  obtain ⟨ws, rfl, h1, h2⟩ := h
  exact ⟨ws.take m, by unfold castL; rw [List.map_take], List.Pairwise.sublist (List.take_sublist _ _) h1, fun w hw => h2 w (List.mem_of_mem_take hw)⟩
theorem rowOk_nodup {n : Nat} {r : List Int} (h : RowOk n r) : r.Nodup := by
  obtain ⟨ws, rfl, h1, h2⟩ := h
  exact List.Pairwise.map _ (fun a b hab z => by omega) h1
theorem rowOk_len {n : Nat} {r : List Int} (h : RowOk n r) : r.length ≤ n := by
  obtain ⟨ws, rfl, h1, h2⟩ := h
  unfold castL
  rw [List.length_map]
  exact nodup_len n ws (List.Pairwise.imp (fun h => Nat.ne_of_lt h) h1) h2
theorem rk__law_wishes : ∀ vs H Q E, sp__law_wishes K vs H Q E → rd__law_wishes K { nx := fun _ H' => Q .non H', rt := Q } (start ["cells", "many", "usual", "found", "cell", "ys", "wanted"] vs) H := by
  rintro vs H Q E ⟨_, a, b, zs, u, n, rfl, hA, hzl, hn, hB, hu, q⟩
  have hlz : (zs.map V.int).length = zs.length := List.length_map _
  unfold rd__law_wishes
  with_reducible refine r_seq ?_
  walk_at "s1"
  rename_i l H1 f1 s1 h1
  have hA1 := s1.seq hA
  with_reducible refine r_seq ?_
  walk_at "s1"
  refine for_ys (ys_list (xs := zs.map V.int) 4) (fun i σ H' => Same H H' ∧ ∃ (rows : List (List Int)) (v4 v5 v6 : Option V), RowsM H' l rows ∧ rows.length = i ∧ (∀ r ∈ rows, RowOk n r) ∧ σ = [some (.ref a), some (.int n), some (.ref b), some (.ref l), v4, v5, v6]) ⟨s1, [], _, _, _, ⟨[], h1, .nil⟩, rfl, (fun r hr => by simp at hr), rfl⟩ (fun i σ H' h => h.1.seq hA) ?_ ?_
  · rintro i σ Ha Hb hi ⟨sa, rows, v4, v5, v6, hM, hrl, hro, rfl⟩ sb
    rw [hlz] at hi
    have e : (zs.map V.int).getD i .non = .int (zs.getD i 0) := by simp [List.getD, hi]
    rw [e]
    generalize zs.getD i 0 = cell
    have sab := sa.trans sb
    have hMb := hM.same sb
    clear hM sa sb
    show tSeq _ _ _ _ _
    with_reducible refine r_seq ?_
    walk_at "s1"
    refine ⟨rfl, cell, 13, rfl, by decide, fun l2 H2 ys f2 s2 h2 hyl hyb => ?_⟩
    have q2 : SqL K H2 l2 (ys.map V.int) := SqL.of h2
    have hys : ∀ j, j < 13 → (ys.map V.int)[j]? = some (.int (ys.getD j 0)) := fun j hj => by
      have hj' : j < ys.length := by omega
      simp [List.getD, hj']
    walk_at "s1"
    with_reducible refine r_seq ?_
    walk_at "s1"
    have en : ((n : Int)).toNat = n := by omega
    rw [en]
    refine comp_filtY (ys_range 0) (fun j => [some (.int (0 + (j : Int))), some (.ref l2)]) (by rintro j σ' (rfl | ⟨k, rfl⟩) <;> rfl) (fun _ _ => trivial) (Nat.le_trans (show n ≤ 1000 by omega) line64) (fun j => decide (ys.getD j 0 % 3 > 0)) (fun j => .int (j : Int)) ?_ ?_ ?_
    · intro j hj H' F s kk
      have ei : (0 : Int) + (j : Int) = (j : Int) := by omega
      rw [ei]
      walk_at "s1"
      refine r_ix (s.seq q2) (atI_nat (hys j (by omega))) ?_
      walk_at "s1"
      exact kk H' (Same.refl _)
    · intro j hj _ H' F s kk
      have ei : (0 : Int) + (j : Int) = (j : Int) := by omega
      rw [ei]
      walk_at "s1"
      exact kk H' (Same.refl _)
    intro l3 H3 f3 s3 h3
    have e3 : ((List.range n).filter fun j => decide (ys.getD j 0 % 3 > 0)).map (fun j : Nat => V.int (j : Int)) = (castL ((List.range n).filter fun j => decide (ys.getD j 0 % 3 > 0))).map V.int := by unfold castL; rw [List.map_map]; rfl
    rw [e3] at h3
    have hw := rowOk_filter n fun j => decide (ys.getD j 0 % 3 > 0)
    generalize castL ((List.range n).filter fun j => decide (ys.getD j 0 % 3 > 0)) = wd at *
    have s03 := sab.trans (s2.trans s3)
    have hM3 := (hMb.same s2).same s3
    have hB3 := s03.seq hB
    have q3 : SqL K H3 l2 (ys.map V.int) := s3.seq q2
    have q33 : SqL K H3 l3 (wd.map V.int) := SqL.of h3
    have hl3 : ∃ o, H3 l = some o := by obtain ⟨x, h, _⟩ := hM3; exact ⟨_, h⟩
    obtain ⟨o, ho⟩ := hl3
    have hl2 : ∃ o, H2 l = some o := by obtain ⟨x, h, _⟩ := hMb.same s2; exact ⟨_, h⟩
    obtain ⟨o2, ho2⟩ := hl2
    clear s2 s3
    walk_at "s1"
    refine ⟨tyL hM3.choose_spec.1, ?_⟩
    walk_at "s1"
    refine r_listRng ?_
    walk_at "s1"
    refine r_rngL (by omega) fun l4 H4 f4 s4 h4 => ?_
    have e4 : (List.range n).map (fun i : Nat => V.int (i : Int)) = (castL (List.range n)).map V.int := by unfold castL; rw [List.map_map]; rfl
    rw [e4] at h4
    have hB4 := s4.seq hB3
    have q34 := s4.seq q33
    walk_at "s1"
    rename_i l5 H5 f5 s5 h5 l6 H6 f6 s6 h6 l7 H7 f7 s7 h7
    have e6 : cutV (wd.map V.int) none (some 2) = (wd.take 2).map V.int := cut_take wd 2
    rw [e6] at h6
    have s37 : Same H3 H7 := s4.trans (s5.trans (s6.trans s7))
    refine r_ix (s37.seq q3) (atI_nat (j := 12) (hys 12 (by decide))) ?_
    walk_at "s1"
    obtain ⟨y, hy, hy4⟩ := modI (ys.getD 12 0) 4 (by decide)
    have hy : ys.getD 12 0 % 4 = (y : Int) := hy
    rw [hy]
    have key : ∀ y, y < 4 → ∃ (bb : Addr) (r : List Int), ([.ref l4, .ref l5, .ref l3, .ref l6] : List V)[y]? = some (.ref bb) ∧ H7 bb = some (.lst (r.map V.int)) ∧ RowOk n r ∧ bb ≠ l := by
      intro y hy
      rcases (show y = 0 ∨ y = 1 ∨ y = 2 ∨ y = 3 by omega) with e | e | e | e <;> subst e
      · exact ⟨l4, _, rfl, s7 _ _ (s6 _ _ (s5 _ _ h4)), rowOk_range n, fun z => by rw [z, ho] at f4; cases f4⟩
      · exact ⟨l5, u, rfl, s7 _ _ (s6 _ _ h5), hu, fun z => by rw [z, s4 _ _ ho] at f5; cases f5⟩
      · exact ⟨l3, wd, rfl, s37 _ _ h3, hw, fun z => by rw [z, ho2] at f3; cases f3⟩
      · exact ⟨l6, _, rfl, s7 _ _ h6, rowOk_take 2 hw, fun z => by rw [z, s5 _ _ (s4 _ _ ho)] at f6; cases f6⟩
    obtain ⟨bb, r, hb1, hb2, hb3, hb4⟩ := key y hy4
    refine r_ix (SqL.of h7) (atI_nat hb1) ?_
    walk_at "s1"
    obtain ⟨xs, hxs, hxl, hM4⟩ := (hM3.same s37).snoc hb2 hb4
    refine r_appendN hxs (by rw [hxl, hrl]; exact Nat.lt_of_lt_of_le (show i < 1000 by omega) line64) ?_
    refine ⟨(s03.trans s37).upd f1, rows ++ [r], _, _, _, hM4, by rw [List.length_append, hrl]; rfl, fun x hx => ?_, rfl⟩
    rcases List.mem_append.mp hx with z | z
    · exact hro x z
    · rw [List.mem_singleton.mp z]
      exact hb3
  rintro σ Ha ⟨sa, rows, v4, v5, v6, hM, hrl, hro, rfl⟩
  rw [hlz] at hrl
  walk_at "s1"
  exact q l Ha rows f1 sa hM hrl hro

theorem rk__law_town : ∀ vs H Q E, sp__law_town K vs H Q E → rd__law_town K { nx := fun _ H' => Q .non H', rt := Q } (start ["script", "xs", "many", "costs", "usual", "wishes", "zs", "rich", "coins"] vs) H := by
  rintro vs H Q E ⟨_, a, ns, rfl, hS, hl63, q⟩
  unfold rd__law_town
  with_reducible refine r_seq ?_
  walk_at "s1"
  refine ⟨rfl, _, 14, rfl, by decide, fun l1 H1 xs f1 s1 h1 hxl hxb => ?_⟩
  have q1 : SqL K H1 l1 (xs.map V.int) := SqL.of h1
  have hS1 := s1.seq hS
  have hat : ∀ j, j < 14 → (xs.map V.int)[j]? = some (.int (xs.getD j 0)) := fun j hj => by
    have : j < xs.length := by omega
    simp [List.getD, this]
  have hxb' : ∀ j, j < 14 → 0 ≤ xs.getD j 0 ∧ xs.getD j 0 < 1000000007 := fun j hj => by
    have h2 : j < xs.length := by omega
    exact hxb _ (by simp [List.getD, h2])
  have sA := s1
  clear s1
  walk_at "s1"
  with_reducible refine r_seq ?_
  walk_at "s1"
  refine r_ix q1 (atI_nat (j := 0) (hat 0 (by decide))) ?_
  walk_at "s1"
  refine r_ix q1 (atI_nat (j := 0) (hat 0 (by decide))) ?_
  walk_at "s1"
  rename_i l2 H2 f2 s2 h2
  have q2 := s2.seq q1
  have hS2 := s2.seq hS1
  refine r_ix q2 (atI_nat (j := 1) (hat 1 (by decide))) ?_
  walk_at "s1"
  obtain ⟨n, hn1, hn8⟩ : ∃ n : Nat, ([.int (xs.getD 0 0 % 7), .int (7 + xs.getD 0 0 / 7 % 2)] : List V)[(if decide (xs.getD 1 0 % 8 = 0) = true then (1 : Int) else 0).toNat]? = some (.int n) ∧ n ≤ 8 := by
    by_cases c : xs.getD 1 0 % 8 = 0
    · rw [decide_eq_true c, if_pos rfl]
      exact ⟨(7 + xs.getD 0 0 / 7 % 2).toNat, by show some (V.int _) = _; congr 2; omega, by omega⟩
    · rw [decide_eq_false c, if_neg Bool.false_ne_true]
      exact ⟨(xs.getD 0 0 % 7).toNat, by show some (V.int _) = _; congr 2; omega, by omega⟩
  refine r_ixN (SqL.of h2) (by split <;> decide) hn1 ?_
  have s2A := s2
  clear s2 q1 hS1
  walk_at "s1"
  have en : ((n : Int)).toNat = n := by omega
  with_reducible refine r_seq ?_
  walk_at "s1"
  rw [en]
  refine comp_genY (ys_range 0) (fun i => [some (.int (0 + (i : Int))), some (.ref l1)]) (by rintro i σ' (rfl | ⟨k, rfl⟩) <;> rfl) (fun _ _ => trivial) (Nat.le_trans (show n ≤ 1000 by omega) line64) (fun _ => true)
    (fun _ _ v _ => ∃ r : Int, v = .int r ∧ 1 ≤ r ∧ r ≤ 1000000000000) (fun l i v H1 H2 s h => h) (fun i hi H' F s kk => kk H' (Same.refl _)) ?_ ?_
  · intro l i hi _ H' F hl _ s kk
    have ei : (0 : Int) + (i : Int) = (i : Int) := by omega
    rw [ei]
    have q' := s.seq q2
    walk_at "s1"
    have e2 : (2 : Int) + (i : Int) = ((2 + i : Nat) : Int) := by omega
    rw [e2]
    refine r_ix q' (atI_nat (hat (2 + i) (by omega))) ?_
    walk_at "s1"
    refine r_ix q' (atI_nat (j := 10) (hat 10 (by decide))) ?_
    walk_at "s1"
    refine r_ix q' (atI_nat (j := 12) (hat 12 (by decide))) ?_
    walk_at "s1"
    exact ⟨rfl, _, _, _, rfl, by omega, by omega, fun d H'' d1 d2 s'' => kk _ H'' ⟨d, rfl, d1, d2⟩ s''⟩
  intro lc ys H3 f3 s3 h3 pr
  obtain ⟨cs, rfl, hcl, hcb⟩ := paired_ints (P := fun _ r => 1 ≤ r ∧ r ≤ 1000000000000) pr
  rw [List.filter_eq_self.mpr (fun _ _ => rfl), List.length_range] at hcl
  have hcb : ∀ x ∈ cs, 1 ≤ x ∧ x ≤ 1000000000000 := fun x hx => by obtain ⟨_, _, z⟩ := hcb x hx; exact z
  have q3 := s3.seq q2
  have hS3 := s3.seq hS2
  clear pr
  walk_at "s1"
  with_reducible refine r_seq ?_
  walk_at "s1"
  rw [en]
  refine comp_filtY (ys_range 0) (fun j => [some (.int (0 + (j : Int))), some (.ref l1)]) (by rintro j σ' (rfl | ⟨k, rfl⟩) <;> rfl) (fun _ _ => trivial) (Nat.le_trans (show n ≤ 1000 by omega) line64) (fun j => decide (xs.getD 11 0 / ((j : Int) + 1) % 3 > 0)) (fun j => .int (j : Int)) ?_ ?_ ?_
  · intro j hj H' F s kk
    have ei : (0 : Int) + (j : Int) = (j : Int) := by omega
    rw [ei]
    walk_at "s1"
    refine r_ix (s.seq q3) (atI_nat (j := 11) (hat 11 (by decide))) ?_
    walk_at "s1"
    exact kk H' (Same.refl _)
  · intro j hj _ H' F s kk
    have ei : (0 : Int) + (j : Int) = (j : Int) := by omega
    rw [ei]
    walk_at "s1"
    exact kk H' (Same.refl _)
  intro l4 H4 f4 s4 h4
  have e4 : ((List.range n).filter fun j : Nat => decide (xs.getD 11 0 / ((j : Int) + 1) % 3 > 0)).map (fun j : Nat => V.int (j : Int)) = (castL ((List.range n).filter fun j : Nat => decide (xs.getD 11 0 / ((j : Int) + 1) % 3 > 0))).map V.int := by unfold castL; rw [List.map_map]; rfl
  rw [e4] at h4
  have hu := rowOk_filter n fun j : Nat => decide (xs.getD 11 0 / ((j : Int) + 1) % 3 > 0)
  generalize castL ((List.range n).filter fun j : Nat => decide (xs.getD 11 0 / ((j : Int) + 1) % 3 > 0)) = us at *
  have hS4 := s4.seq hS3
  have h34 := s4 _ _ h3
  walk_at "s1"
  with_reducible refine r_seq ?_
  walk_at "s1"
  rename_i l5 H5 f5 s5 h5 l6 H6 f6 s6 h6
  have e5 : cutV (ns.map V.int) (some 3) (some 22) = ((ns.drop 3).take (22 - 3)).map V.int := cutA_mid V.int ns 3 22
  rw [e5] at h5
  have hl5 : ((ns.drop 3).take (22 - 3)).length ≤ 19 := by rw [List.length_take]; omega
  generalize (ns.drop 3).take (22 - 3) = ms at *
  refine r_catN (s6 _ _ h5) h6 (by rw [List.length_map]; exact Nat.le_trans (show _ ≤ 1000 by show _ + 1 ≤ _; omega) line64) fun l7 H7 f7 s7 h7 => ?_
  have s47 : Same H4 H7 := s5.trans (s6.trans s7)
  have e7 : ms.map V.int ++ [V.int (ns.getD (Int.toNat 2) 0)] = (ms ++ [ns.getD (Int.toNat 2) 0]).map V.int := by simp
  rw [e7] at h7
  have hl7 : (ms ++ [ns.getD (Int.toNat 2) 0]).length ≤ 20 ∧ 1 ≤ (ms ++ [ns.getD (Int.toNat 2) 0]).length := by rw [List.length_append]; exact ⟨by show _ + 1 ≤ _; omega, by show _ ≤ _ + 1; omega⟩
  generalize ms ++ [ns.getD (Int.toNat 2) 0] = zs at *
  walk_at "s1"
  refine ⟨rfl, l7, l4, zs, us, n, rfl, SqL.of h7, hl7.1, hn8, SqL.of (s47 _ _ h4), hu, fun lw H8 rows f8 s8 h8 hrl hro => ?_⟩
  have s48 := s47.trans s8
  have hS8 := s48.seq hS4
  have h38 := s48 _ _ h34
  have q38 : SqL K H8 lc (cs.map V.int) := SqL.of h38
  have s08 : Same H H8 := (sA.trans s2A).trans (s3.trans (s4.trans s48))
  clear s5 s6 s7
  walk_at "s1"
  with_reducible refine r_seq ?_
  walk_at "s1"
  refine ⟨rfl, _, 3, rfl, by decide, fun l9 H9 ys f9 s9 h9 hyl hyb => ?_⟩
  have q9 : SqL K H9 l9 (ys.map V.int) := SqL.of h9
  have hys : ∀ j, j < 3 → (ys.map V.int)[j]? = some (.int (ys.getD j 0)) := fun j hj => by
    have hj' : j < ys.length := by omega
    simp [List.getD, hj']
  have hmem : ∀ j, j < 3 → ys.getD j 0 ∈ ys := fun j hj => by
    have hj' : j < ys.length := by omega
    simp [List.getD, hj']
  have hy0 := hyb (ys.getD 0 0) (hmem 0 (by decide))
  have hy1 := hyb (ys.getD 1 0) (hmem 1 (by decide))
  have q39 := s9.seq q38
  have hsum : 0 ≤ cs.sum := sum_nonneg fun x hx => by have := hcb x hx; omega
  walk_at "s1"
  with_reducible refine r_seq ?_
  walk_at "s1"
  refine r_ix q9 (atI_nat (j := 0) (hys 0 (by decide))) ?_
  walk_at "s1"
  refine r_ix q9 (atI_nat (j := 0) (hys 0 (by decide))) ?_
  walk_at "s1"
  refine r_ix q9 (atI_nat (j := 1) (hys 1 (by decide))) ?_
  walk_at "s1"
  refine r_ix q9 (atI_nat (j := 0) (hys 0 (by decide))) ?_
  walk_at "s1"
  rename_i l10 H10 f10 s10 h10
  with_reducible refine r_seq ?_
  walk_at "s1"
  refine r_ix (s10.seq q9) (atI_nat (j := 2) (hys 2 (by decide))) ?_
  walk_at "s1"
  obtain ⟨y, hy, hy6⟩ := modI (ys.getD 2 0) 6 (by decide)
  have hy : ys.getD 2 0 % 6 = (y : Int) := hy
  rw [hy]
  generalize ys.getD 0 0 = y0 at *
  generalize ys.getD 1 0 = y1 at *
  have hy01 : 0 ≤ y0 * y1 := Int.mul_nonneg hy0.1 hy1.1
  have hm := Int.emod_nonneg (y0 * y1) (show cs.sum + 1 ≠ 0 by omega)
  generalize y0 * y1 % (cs.sum + 1) = mm at *
  have key : ∀ y, y < 6 → ∃ d : Int, ([.int 0, .int (1 + y0 % 9), .int (cs.sum / 2), .int cs.sum, .int mm, .int (cs.sum + y0)] : List V)[y]? = some (.int d) ∧ 0 ≤ d := by
    intro y hy
    rcases (show y = 0 ∨ y = 1 ∨ y = 2 ∨ y = 3 ∨ y = 4 ∨ y = 5 by omega) with e | e | e | e | e | e <;> subst e
    · exact ⟨_, rfl, by omega⟩
    · exact ⟨_, rfl, by omega⟩
    · exact ⟨_, rfl, by omega⟩
    · exact ⟨_, rfl, by omega⟩
    · exact ⟨_, rfl, by omega⟩
    · exact ⟨_, rfl, by omega⟩
  obtain ⟨d, hd, hd0⟩ := key y hy6
  refine r_ix (SqL.of h10) (atI_nat hd) ?_
  walk_at "s1"
  rename_i t H11 f11 s11 h11
  obtain ⟨m, hm'⟩ : ∃ m : Nat, min d 1000000000000 = (m : Int) := ⟨(min d 1000000000000).toNat, by omega⟩
  have e12 : (10 : Int) ^ Int.toNat 12 = 1000000000000 := by decide
  rw [e12, hm'] at h11
  have s811 : Same H8 H11 := s9.trans (s10.trans s11)
  refine q t lc lw H11 m cs rows (s08.trans s811) h11 (s811 _ _ h38) (h8.same s811) (by omega) (by omega) hcb (by omega) (by omega) (by rw [hcl]; exact hro)

theorem rk__law_sets : ∀ vs H Q E, sp__law_sets K vs H Q E → rd__law_sets K { nx := fun _ H' => Q .non H', rt := Q } (start ["many", "found", "k"] vs) H := by
  rintro vs H Q E ⟨_, n, rfl, hn, q⟩
  unfold rd__law_sets
  with_reducible refine r_seq ?_
  walk_at "s1"
  rename_i l1 H1 f1 s1 h1 l2 H2 f2 s2 h2
  have hM2 : RowsM H2 l2 (([[]] : List (List Nat)).map castL) := ⟨[l1], h2, .cons ⟨(fun z => by rw [z, f2] at h1; cases h1), s2 _ _ h1⟩ .nil⟩
  with_reducible refine r_seq ?_
  walk_at "s1"
  have en : ((n : Int)).toNat = n := by omega
  rw [en]
  have p256 : ∀ k, k ≤ 8 → 2 ^ k ≤ 256 := by decide
  refine for_range (lo := 0) (n := n) (fun k σ H' => Same H H' ∧ ∃ (l : Addr) (wss : List (List Nat)) (v2 : Option V), H l = none ∧ RowsM H' l (wss.map castL) ∧ (∀ ws ∈ wss, ws.Nodup ∧ ∀ w ∈ ws, w < k) ∧ wss.length = 2 ^ k ∧ σ = [some (.int n), some (.ref l), v2]) ⟨s1.trans s2, l2, [[]], _, s1.free f2, hM2, (fun ws hw => by rw [List.mem_singleton.mp hw]; exact ⟨List.nodup_nil, fun w h => by simp at h⟩), rfl, rfl⟩ ?_ ?_
  · rintro k σ Ha hk ⟨sa, l, wss, v2, hl0, ⟨bs, hb1, hb2⟩, hW, hwl, rfl⟩
    have hbl : bs.length = wss.length := by have := Paired.length hb2; rw [List.length_map] at this; exact this.symm
    have hlb : (bs.map V.ref).length = wss.length := by rw [List.length_map, hbl]
    have hw256 : wss.length ≤ 256 := by rw [hwl]; exact p256 k (by omega)
    have ek : (0 : Int) + (k : Int) = (k : Int) := by omega
    have qb : SqL K Ha l (bs.map V.ref) := SqL.of hb1
    show tAsg _ _ _ [some (.int n), some (.ref l), some (.int (0 + (k : Int)))] _
    rw [ek]
    walk_at "s1"
    refine comp_rowsY (ys_list (xs := bs.map V.ref) 0) (fun j => [some ((bs.map V.ref).getD j .non), some (.int (k : Int))]) (by rintro j σ' (rfl | ⟨k, rfl⟩) <;> rfl) (fun H' s => s.seq qb) (by rw [hlb]; exact Nat.le_trans (show _ ≤ 1000 by omega) line64) (fun j => (castL (wss.getD j [] ++ [k])).map V.int) ?_ ?_
    · intro j hj H' F s kk
      rw [hlb] at hj
      have hjb : j < bs.length := by omega
      have e : (bs.map V.ref).getD j .non = .ref bs[j] := by simp [List.getD, hjb]
      rw [e]
      obtain ⟨r, hr', hq⟩ := paired_at' hb2 (show bs[j]? = some bs[j] by simp [hjb])
      have er : r = castL (wss.getD j []) := by
        rw [List.getElem?_map, List.getElem?_eq_getElem hj] at hr'
        simp [List.getD, hj]
        exact (Option.some.inj hr').symm
      have hwj := hW (wss.getD j []) (by simp [List.getD, hj])
      have hwl8 := nodup_len k _ hwj.1 hwj.2
      subst er
      generalize wss.getD j [] = ws at *
      have hq' := s _ _ hq.2
      walk_at "s1"
      rename_i l3 H3 f3 s3 h3
      refine r_catN (s3 _ _ hq') h3 (by unfold castL; rw [List.length_map, List.length_map]; exact Nat.le_trans (show _ ≤ 1000 by show _ + 1 ≤ _; omega) line64) fun l4 H4 f4 s4 h4 => ?_
      have e4 : (castL ws).map V.int ++ [V.int (k : Int)] = (castL (ws ++ [k])).map V.int := by unfold castL; simp
      rw [e4] at h4
      exact kk l4 H4 (s3.free f4) (s3.trans s4) h4
    intro l3 bs3 H3 f3 s3 h3 pr3
    have hb3l : bs3.length = wss.length := by have := Paired.length pr3; rw [List.length_range, hlb] at this; exact this.symm
    refine r_catN (s3 _ _ hb1) h3 (by rw [hlb, List.length_map, hb3l]; exact Nat.le_trans (show _ ≤ 1000 by omega) line64) fun l4 H4 f4 s4 h4 => ?_
    have s34 := s3.trans s4
    walk_at "s1"
    refine ⟨sa.trans s34, l4, wss ++ wss.map (· ++ [k]), _, sa.free (s3.free f4), ⟨bs ++ bs3, by rw [h4, List.map_append], ?_⟩, fun ws hws => ?_, by rw [List.length_append, List.length_map, hwl, Nat.pow_succ]; omega, rfl⟩
    · have ne4 : ∀ b o, H3 b = some o → b ≠ l4 := fun b o hb z => by rw [z, f4] at hb; cases hb
      rw [List.map_append]
      refine paired_app (Paired.mapP hb2 fun _ _ ⟨hc, qq⟩ => ⟨ne4 _ _ (s3 _ _ qq), s34 _ _ qq⟩) ?_
      have e5 : (wss.map (· ++ [k])).map castL = (List.range (bs.map V.ref).length).map fun j => castL (wss.getD j [] ++ [k]) := by
        rw [hlb, range_getD' (fun ws => castL (ws ++ [k])) [] wss, List.map_map]
        rfl
      rw [e5]
      refine paired_mapL (F := fun r b => b ≠ l4 ∧ H4 b = some (.lst (r.map V.int))) (g := fun j => castL (wss.getD j [] ++ [k])) (Paired.mapP pr3 fun _ _ ⟨h0, h1, h2⟩ => ⟨ne4 _ _ h2, s4 _ _ h2⟩)
    · rcases List.mem_append.mp hws with z | z
      · obtain ⟨z1, z2⟩ := hW ws z
        exact ⟨z1, fun w hw => by have := z2 w hw; omega⟩
      · obtain ⟨us, hu, e⟩ := List.mem_map.mp z
        obtain ⟨z1, z2⟩ := hW us hu
        rw [← e]
        refine ⟨List.nodup_append.mpr ⟨z1, by simp, fun x hx y hy e' => ?_⟩, fun w hw => ?_⟩
        · have : y = k := by simpa using hy
          have := z2 x hx
          omega
        · rcases List.mem_append.mp hw with m | m
          · have := z2 w m; omega
          · have : w = k := by simpa using m
            omega
  rintro σ Ha ⟨sa, l, wss, v2, hl0, ⟨bs, hb1, hb2⟩, hW, hwl, rfl⟩
  have qb : SqL K Ha l (bs.map V.ref) := SqL.of hb1
  have hw256 : wss.length ≤ 256 := by rw [hwl]; exact p256 n hn
  walk_at "s1"
  rename_i l3 H3 f3 s3 h3
  have e3 : cutV (bs.map V.ref) (some 1) none = (bs.drop 1).map V.ref := cutA_drop V.ref bs 1
  rw [e3] at h3
  refine q l3 H3 (wss.drop 1) (sa.free f3) (sa.trans s3) ⟨bs.drop 1, h3, ?_⟩ (fun ws hw => hW ws (List.mem_of_mem_drop hw)) (by rw [List.length_drop]; omega)
  rw [List.map_drop]
  exact Paired.mapP (paired_drop 1 hb2) fun _ _ ⟨hc, qq⟩ => ⟨(fun z => by rw [z, f3] at qq; cases qq), s3 _ _ qq⟩

theorem range_filterI (xs : List Int) (p : Int → Bool) : ((List.range xs.length).filter fun j => p (xs.getD j 0)).map (fun j => xs.getD j 0) = xs.filter p := by
  have e3 : xs = (List.range xs.length).map (fun i => xs.getD i 0) := by
    apply List.ext_getElem
    · simp
    · intro k h1 h2
      simp [List.getD, h1]
  conv => rhs; rw [e3]
  rw [List.filter_map]
  rfl
theorem rk__law_wrongs : ∀ vs H Q E, sp__law_wrongs K vs H Q E → rd__law_wrongs K { nx := fun _ H' => Q .non H', rt := Q } (start ["coins", "costs", "wishes", "asked", "done", "group", "wanted"] vs) H := by
  rintro vs H Q E ⟨_, m, d, a, b, c, cs, rows, ws, done, rfl, hm, hD, ⟨bs, hA, hP⟩, hB, hC, hv, hrl, hwl, hul, hnw, q⟩
  have hbl : bs.length = rows.length := (Paired.length hP).symm
  have hlb : (bs.map V.ref).length = rows.length := by rw [List.length_map, hbl]
  have hcl : (castL ws).length = ws.length := List.length_map _
  have hlw : ((castL ws).map V.int).length = ws.length := by rw [List.length_map, hcl]
  unfold rd__law_wrongs
  with_reducible refine r_seq ?_
  walk_at "s1"
  with_reducible refine r_seq ?_
  walk_at "s1"
  let S : Nat → Bool := fun i => (ws.all fun w => WR rows i w) && decide (((rows.getD i []).filter fun k => decide (k ∈ castL done)).length < ws.length)
  refine for_ys (ys_list (xs := bs.map V.ref) 6) (fun i σ H' => Same H H' ∧ ∃ v4, σ = [some (.int m), some (.ref d), some (.ref a), some (.ref b), some (.ref c), some (.int (((List.range i).filter S).length : Nat)), v4]) ⟨Same.refl _, _, rfl⟩ (fun i σ H' h => h.1.seq hA) ?_ ?_
  · rintro i σ Ha Hb hi ⟨sa, v4, rfl⟩ sb
    rw [hlb] at hi
    have hib : i < bs.length := by omega
    have e : (bs.map V.ref).getD i .non = .ref bs[i] := by simp [List.getD, hib]
    rw [e]
    obtain ⟨row, hr, hq⟩ := paired_at' hP (show bs[i]? = some bs[i] by simp [hib])
    have e2 : rows.getD i [] = row := by simp [List.getD, hr]
    have hr64 := hrl row (List.mem_of_getElem? hr)
    have sab := sa.trans sb
    have hBb := sab.seq hB
    have hCb := sab.seq hC
    have hqb := sab.seq hq
    have eS : S i = ((ws.all fun w => decide ((w : Int) ∈ row)) && decide ((row.filter fun k => decide (k ∈ castL done)).length < ws.length)) := by
      show ((ws.all fun w => WR rows i w) && _) = _
      unfold WR
      rw [e2]
    have hsucc : (List.range (i + 1)).filter S = (List.range i).filter S ++ (if S i = true then [i] else []) := by
      rw [List.range_succ, List.filter_append, List.filter_cons]
      simp
    have step1 : S i = true → (((List.range (i + 1)).filter S).length : Int) = (((List.range i).filter S).length : Int) + 1 := fun h => by rw [hsucc, if_pos h, List.length_append]; rfl
    have step0 : ¬ S i = true → (((List.range (i + 1)).filter S).length : Int) = (((List.range i).filter S).length : Int) := fun h => by rw [hsucc, if_neg h, List.append_nil]
    clear hsucc sa sb
    generalize (((List.range i).filter S).length : Int) = cnt at *
    generalize (((List.range (i + 1)).filter S).length : Int) = cnt' at *
    show tIfS _ _ _ _ _ _
    walk_at "s1"
    refine comp_filtY (ys_list (xs := (castL ws).map V.int) 0) (fun j => [some (((castL ws).map V.int).getD j .non), some (.ref bs[i])]) (by rintro j σ' (rfl | ⟨k, rfl⟩) <;> rfl) (fun H' s => s.seq hBb) (by rw [hlw]; exact Nat.le_trans (show _ ≤ 1000 by omega) line64) (fun j => !decide ((castL ws).getD j 0 ∈ row)) (fun j => .int ((castL ws).getD j 0)) ?_ ?_ ?_
    · intro j hj H' F s kk
      rw [hlw, ← hcl] at hj
      have e3 : ((castL ws).map V.int).getD j .non = .int ((castL ws).getD j 0) := by simp [List.getD, hj]
      have hq' := s.seq hqb
      rw [e3]
      walk_at "s1"
      exact kk H' (Same.refl _)
    · intro j hj _ H' F s kk
      rw [hlw, ← hcl] at hj
      have e3 : ((castL ws).map V.int).getD j .non = .int ((castL ws).getD j 0) := by simp [List.getD, hj]
      rw [e3]
      walk_at "s1"
      exact kk H' (Same.refl _)
    intro l1 H1 f1 s1 h1
    have e4 : ((List.range ((castL ws).map V.int).length).filter fun j => !decide ((castL ws).getD j 0 ∈ row)).map (fun j => V.int ((castL ws).getD j 0)) = ((castL ws).filter fun k => !decide (k ∈ row)).map V.int := by
      rw [hlw, ← hcl, ← range_filterI (castL ws) fun k => !decide (k ∈ row), List.map_map]
      rfl
    rw [e4] at h1
    have eall : ((castL ws).filter (fun k => !decide (k ∈ row)) = []) ↔ (ws.all fun w => decide ((w : Int) ∈ row)) = true := by
      rw [List.filter_eq_nil_iff, List.all_eq_true]
      constructor
      · intro h w hw
        have := h (w : Int) (List.mem_map.mpr ⟨w, hw, rfl⟩)
        simpa using this
      · intro h k hk
        obtain ⟨w, hw, e⟩ := List.mem_map.mp hk
        have := h w hw
        rw [← e]
        simpa using this
    walk_at "s1"
    rename_i l2 H2 f2 s2 h2
    refine iteD (fun h => ?_) (fun h => ?_)
    · have ha := eall.mp h
      rw [ha, Bool.true_and] at eS
      have s02 := s1.trans s2
      have hCx := s02.seq hCb
      have hqx := s02.seq hqb
      have hBx := s02.seq hBb
      walk_at "s1"
      have hlr : (row.map V.int).length = row.length := List.length_map _
      refine comp_filtY (ys_list (xs := row.map V.int) 0) (fun j => [some ((row.map V.int).getD j .non), some (.ref c)]) (by rintro j σ' (rfl | ⟨k, rfl⟩) <;> rfl) (fun H' s => s.seq hqx) (by rw [hlr]; exact Nat.le_trans (show _ ≤ 1000 by omega) line64) (fun j => decide (row.getD j 0 ∈ castL done)) (fun j => .int (row.getD j 0)) ?_ ?_ ?_
      · intro j hj H' F s kk
        rw [hlr] at hj
        have e3 : (row.map V.int).getD j .non = .int (row.getD j 0) := by simp [List.getD, hj]
        have hC' := s.seq hCx
        rw [e3]
        walk_at "s1"
        exact kk H' (Same.refl _)
      · intro j hj _ H' F s kk
        rw [hlr] at hj
        have e3 : (row.map V.int).getD j .non = .int (row.getD j 0) := by simp [List.getD, hj]
        rw [e3]
        walk_at "s1"
        exact kk H' (Same.refl _)
      intro l3 H3 f3 s3 h3
      have e5 : ((List.range (row.map V.int).length).filter fun j => decide (row.getD j 0 ∈ castL done)).map (fun j => V.int (row.getD j 0)) = (row.filter fun k => decide (k ∈ castL done)).map V.int := by
        rw [hlr, ← range_filterI row fun k => decide (k ∈ castL done), List.map_map]
        rfl
      rw [e5] at h3
      have hB3 := s3.seq hBx
      walk_at "s1"
      rw [List.length_map, hlw]
      refine iteD (fun h => ?_) (fun h => ?_)
      · have hc := step1 (by rw [eS]; exact decide_eq_true (by omega))
        walk_at "s1"
        refine ⟨sab.trans (s02.trans s3), some (.ref bs[i]), ?_⟩
        rw [hc]
        rfl
      · have hc := step0 (by rw [eS]; exact fun z => h (by have := of_decide_eq_true z; omega))
        walk_at "s1"
        refine ⟨sab.trans (s02.trans s3), some (.ref bs[i]), ?_⟩
        rw [hc]
        rfl
    · have hc := step0 (by rw [eS]; intro z; exact h (eall.mpr (Bool.and_eq_true_iff.mp z).1))
      walk_at "s1"
      refine ⟨sab.trans (s1.trans s2), some (.ref bs[i]), ?_⟩
      rw [hc]
      rfl
  rintro σ Ha ⟨sa, v4, rfl⟩
  rw [hlb]
  have hgr : (List.range rows.length).filter S = grpF rows done ws := rfl
  rw [hgr]
  unfold NoWrong at hnw
  generalize grpF rows done ws = gs at *
  have hDa := sa.seq hD
  have hBa := sa.seq hB
  have hAa := sa.seq hA
  walk_at "s1"
  refine iteD (fun h => ?_) (fun h => ?_)
  · have hne : gs ≠ [] := fun z => by rw [z] at h; simp at h
    have hlt := hnw hne
    walk_at "s1"
    try refine ⟨b, rfl, ⟨_, hBa⟩, ?_⟩
    refine comp_mapY (ys_list (xs := (castL ws).map V.int) 0) (fun j => [some (((castL ws).map V.int).getD j .non), some (.ref d)]) (by rintro j σ' (rfl | ⟨k, rfl⟩) <;> rfl) (fun H' s => s.seq hBa) (by rw [hlw]; exact Nat.le_trans (show _ ≤ 1000 by omega) line64) (fun j => .int (cs.getD (ws.getD j 0) 0)) ?_ ?_
    · intro j hj H' F s kk
      rw [hlw] at hj
      have e3 : ((castL ws).map V.int).getD j .non = .int ((ws.getD j 0 : Nat) : Int) := by unfold castL; simp [List.getD, hj]
      rw [e3]
      have huj := hul (ws.getD j 0) (by simp [List.getD, hj])
      generalize ws.getD j 0 = k at *
      walk_at "s1"
      refine r_ix (s.seq hDa) (atI_nat (v := .int (cs.getD k 0)) (by simp [List.getD, huj])) ?_
      exact kk H' (Same.refl _)
    intro l13 H13 f13 s13 h13
    have e13 : (List.range ((castL ws).map V.int).length).map (fun j => V.int (cs.getD (ws.getD j 0) 0)) = (ws.map fun w => cs.getD w 0).map V.int := by
      rw [hlw, range_getD' (fun w => V.int (cs.getD w 0)) 0 ws, List.map_map]
      rfl
    rw [e13] at h13
    have hA13 := s13.seq hAa
    walk_at "s1"
    have hsum : (ws.map fun w => cs.getD w 0).sum = cstF cs ws := rfl
    rw [hsum, hlb, decide_eq_false (by omega)]
    exact q H13 (sa.trans s13)
  · walk_at "s1"
    try rw [decide_eq_false h]
    exact q Ha sa

/-- what has been spent behind i steps -/
noncomputable def spF (rows : List (List Int)) (P : Int) (run : List (Nat × Int)) (i : Nat) : List Int := (List.range rows.length).map fun j => P - PF (leftS rows (List.replicate rows.length P) (run.take i)) j
theorem spF_len (rows : List (List Int)) (P : Int) (run : List (Nat × Int)) (i : Nat) : (spF rows P run i).length = rows.length := by simp [spF]
theorem spF_at (rows : List (List Int)) (P : Int) (run : List (Nat × Int)) (i j : Nat) (hj : j < rows.length) : (spF rows P run i).getD j 0 = P - PF (leftS rows (List.replicate rows.length P) (run.take i)) j := by
  simp [spF, List.getD, hj]
theorem rk__law_paid : ∀ vs H Q E, sp__law_paid K vs H Q E → rd__law_paid K { nx := fun _ H' => Q .non H', rt := Q } (start ["coins", "costs", "wishes", "steps", "grain", "spent", "work", "level", "paid"] vs) H := by
  rintro vs H Q E ⟨_, m, lc, lw, ls, cs, rows, P, run, rfl, hm, hC, ⟨bw, hbw, hPw⟩, hst, hc12, hcb, hv1, hv20, hPv, hP0, hrn, q⟩
  have hbl : bw.length = rows.length := (Paired.length hPw).symm
  have hlb : (bw.map V.ref).length = rows.length := by rw [List.length_map, hbl]
  have hlc : (cs.map V.int).length = cs.length := List.length_map _
  obtain ⟨ts, bs, B⟩ := hst.b
  have hsl : (stepsF rows (List.replicate rows.length P) run).length = run.length := stepsF_len _ _ _
  have htl : ts.length = run.length := by rw [B.tl, hsl]
  have hrl : run.length ≤ 12 := Nat.le_trans (run_len hrn.run) hc12
  have hps : (List.replicate rows.length P).length = rows.length := List.length_replicate
  have hp0 : ∀ p ∈ List.replicate rows.length P, 0 ≤ p := fun p hp => by rw [List.eq_of_mem_replicate hp]; exact hP0
  unfold rd__law_paid
  with_reducible refine r_seq ?_
  walk_at "s1"
  refine ⟨rfl, rows.length, cs.length, by rw [hlb, hlc], hv1, hv20, hc12, ?_⟩
  walk_at "s1"
  generalize hg : ((tog rows.length ^ (cs.length + 1) : Nat) : Int) = g at hPv ⊢
  with_reducible refine r_seq ?_
  walk_at "s1"
  try refine ⟨lw, rfl, ⟨_, hbw⟩, ?_⟩
  refine comp_mapY (ys_list (xs := bw.map V.ref) 0) (fun j => [some ((bw.map V.ref).getD j .non)]) (by rintro j σ' (rfl | ⟨k, rfl⟩) <;> rfl) (fun H' s => s.seq hbw) (by rw [hlb]; exact Nat.le_trans (show rows.length ≤ 1000 by omega) line64) (fun _ => .int 0) ?_ ?_
  · intro j hj H' F s kk
    walk_at "s1"
    exact kk H' (Same.refl _)
  intro l1 H1 f1 s1 h1
  have e1 : (List.range (bw.map V.ref).length).map (fun _ => V.int 0) = (spF rows P run 0).map V.int := by
    rw [hlb]
    unfold spF
    rw [List.map_map]
    refine List.map_congr_left fun j hj => ?_
    have hj := List.mem_range.mp hj
    show V.int 0 = V.int (P - PF (List.replicate rows.length P) j)
    have : PF (List.replicate rows.length P) j = P := by unfold PF; simp [List.getD, hj]
    rw [this, Int.sub_self]
  rw [e1] at h1
  walk_at "s1"
  with_reducible refine r_seq ?_
  have B1 := B.ys (K := K) s1
  walk_at "s1"
  try refine ⟨ls, rfl, ⟨_, B1.1⟩, ?_⟩
  refine for_ys (ys_list3 (ts := ts) (u := fun i => .int (((stepsF rows (List.replicate rows.length P) run).getD i stN).1 : Nat)) (v := fun i => .int ((stepsF rows (List.replicate rows.length P) run).getD i stN).2.1) (w := fun i => .ref (bs.getD i 0)) 6 7 8)
    (fun i σ H' => Same H H' ∧ i ≤ run.length ∧ ∃ (l5 : Addr) (v6 v7 v8 : Option V), H' l5 = some (.lst ((spF rows P run i).map V.int)) ∧ RunX (townT cs rows) (PF (leftS rows (List.replicate rows.length P) (run.take i))) ((run.take i).map (·.1)).reverse (run.drop i) ∧
      σ = [some (.int m), some (.ref lc), some (.ref lw), some (.ref ls), some (.int g), some (.ref l5), v6, v7, v8]) ⟨s1, Nat.zero_le _, l1, _, _, _, h1, hrn, rfl⟩ (fun i σ H' h => B.ys h.1) ?_ ?_
  · rintro i σ Ha Hb hi ⟨sa, hil, l5, v6, v7, v8, h5, hR, rfl⟩ sb
    rw [htl] at hi
    rcases hkl : run[i] with ⟨k, L⟩
    have hri : run[i]? = some (k, L) := by rw [List.getElem?_eq_getElem hi, hkl]
    have est := stepsF_get rows (List.replicate rows.length P) run i k L hri
    have eg : (stepsF rows (List.replicate rows.length P) run).getD i stN = (k, L, paidF rows (leftS rows (List.replicate rows.length P) (run.take i)) k L) := by rw [List.getD, est]; rfl
    have et : run.take (i + 1) = run.take i ++ [(k, L)] := by rw [List.take_add_one, hri]; rfl
    have hLl : (leftS rows (List.replicate rows.length P) (run.take i)).length = rows.length := by rw [leftS_len]; exact hps
    have hL0 := leftS_nn (rows := rows) (r := run.take i) hp0
    have eL : leftS rows (List.replicate rows.length P) (run.take (i + 1)) = leftF rows (leftS rows (List.replicate rows.length P) (run.take i)) k L := by rw [et, leftS_snoc]
    have eD : (run.take (i + 1)).map (·.1) = (run.take i).map (·.1) ++ [k] := by rw [et, List.map_append]; rfl
    rw [List.drop_eq_getElem_cons hi, hkl] at hR
    have sab := sa.trans sb
    have h5b := sb _ _ h5
    have hpd : SqL K Hb (bs.getD i 0) ((paidF rows (leftS rows (List.replicate rows.length P) (run.take i)) k L).map V.int) := by
      have := B.paid (K := K) sab (i := i) (by omega)
      rw [eg] at this
      exact this
    have hsp1 : spF rows P run (i + 1) = (List.range rows.length).map fun j => (spF rows P run i).getD j 0 + PF (paidF rows (leftS rows (List.replicate rows.length P) (run.take i)) k L) j := by
      refine List.map_congr_left fun j hj => ?_
      have hj := List.mem_range.mp hj
      rw [spF_at rows P run i j hj, eL, PF_leftF hLl, PF_paidF hLl]
      unfold lft
      omega
    rw [eg, eL, eD]
    have hspl := spF_len rows P run i
    clear sa sb h5
    generalize leftS rows (List.replicate rows.length P) (run.take i) = LS at *
    generalize (run.take i).map (·.1) = done at *
    generalize spF rows P run i = sp at *
    have erev : (done ++ [k]).reverse = k :: done.reverse := by simp
    rw [erev]
    cases hR with
    | step n ex hR =>
    have hklt : k < cs.length := n.lt
    have ex' : gth rows.length (WR rows) (PF LS) k L = cs.getD k 0 * g := by rw [← hg]; exact ex
    have hpl : (paidF rows LS k L).length = rows.length := by rw [paidF_len, hLl]
    have hlp : ((paidF rows LS k L).map V.int).length = rows.length := by rw [List.length_map, hpl]
    have hL1 : 0 ≤ L := by have := n.pos; omega
    have hpn : ∀ j, 0 ≤ pay (WR rows) (PF LS) k L j := fun j => by
      unfold pay
      have := PF_nn hL0 j
      split <;> omega
    have hpa : ∀ j, j < rows.length → (paidF rows LS k L).getD j 0 = pay (WR rows) (PF LS) k L j := fun j hj => by
      have := congrFun (PF_paidF (rows := rows) (ps := LS) (k := k) (L := L) hLl) j
      exact this
    have hsum : (paidF rows LS k L).sum = cs.getD k 0 * g := by
      rw [← ex']
      unfold paidF gth sumTo
      rw [hLl]
    have hCb := sab.seq hC
    have hbwb := sab.seq hbw
    have hcbk := hcb (cs.getD k 0) (by simp [List.getD, hklt])
    show tSeq _ _ _ _ _
    with_reducible refine r_seq ?_
    walk_at "s1"
    refine iteN (by omega) ?_
    walk_at "s1"
    refine iteN (by rw [hlc]; omega) ?_
    walk_at "s1"
    refine iteNS (by rw [hlp, hlb]) ?_
    walk_at "s1"
    with_reducible refine r_seq ?_
    walk_at "s1"
    try refine ⟨_, rfl, ⟨_, hpd⟩, ?_⟩
    refine comp_filtY (ys_list (xs := (paidF rows LS k L).map V.int) 0) (fun j => [some (((paidF rows LS k L).map V.int).getD j .non)]) (by rintro j σ' (rfl | ⟨k, rfl⟩) <;> rfl) (fun H' s => s.seq hpd) (by rw [hlp]; exact Nat.le_trans (show rows.length ≤ 1000 by omega) line64) (fun _ => false) (fun _ => .non) ?_ ?_ ?_
    · intro j hj H' F s kk
      rw [hlp] at hj
      have e : ((paidF rows LS k L).map V.int).getD j .non = .int (pay (WR rows) (PF LS) k L j) := by
        rw [← hpa j hj]
        have hj' : j < (paidF rows LS k L).length := by omega
        simp [List.getD, hj']
      rw [e]
      have := hpn j
      generalize pay (WR rows) (PF LS) k L j = pj at *
      walk_at "s1"
      rw [decide_eq_false (by omega)]
      exact kk H' (Same.refl _)
    · intro j hj hb
      cases hb
    intro l2 H2 f2 s2 h2
    have e2 : ((List.range ((paidF rows LS k L).map V.int).length).filter fun _ => false).map (fun _ => V.non) = ([] : List Int).map V.int := by simp
    rw [e2] at h2
    walk_at "s1"
    rename_i l3 H3 f3 s3 h3
    refine iteNS rfl ?_
    have sb3 := s2.trans s3
    have hpd3 := sb3.seq hpd
    have hC3 := sb3.seq hCb
    walk_at "s1"
    refine r_ix hC3 (atI_nat (getInt (show cs[k]? = some (cs.getD k 0) by simp [List.getD, hklt]))) ?_
    walk_at "s1"
    refine iteNS (by rw [hsum]) ?_
    walk_at "s1"
    with_reducible refine r_seq ?_
    walk_at "s1"
    try refine ⟨_, rfl, ⟨_, hpd3⟩, ?_⟩
    refine comp_filtY (ys_enum (xs := (paidF rows LS k L).map V.int) 0 1) (fun j => [some (.int (j : Int)), some (((paidF rows LS k L).map V.int).getD j .non), some (.int k), some (.ref lw)]) (by rintro j σ' (rfl | ⟨k, rfl⟩) <;> rfl) (fun H' s => s.seq hpd3) (by rw [hlp]; exact Nat.le_trans (show rows.length ≤ 1000 by omega) line64) (fun _ => false) (fun _ => .non) ?_ ?_ ?_
    · intro j hj H' F s kk
      rw [hlp] at hj
      have e : ((paidF rows LS k L).map V.int).getD j .non = .int (pay (WR rows) (PF LS) k L j) := by
        rw [← hpa j hj]
        have hj' : j < (paidF rows LS k L).length := by omega
        simp [List.getD, hj']
      rw [e]
      have hjb : j < bw.length := by omega
      obtain ⟨row, hr, hq⟩ := paired_at' hPw (show bw[j]? = some bw[j] by simp [hjb])
      have e2 : rows.getD j [] = row := by simp [List.getD, hr]
      have hpay : ¬ (k : Int) ∈ row → pay (WR rows) (PF LS) k L j = 0 := fun z => by
        unfold pay WR
        rw [e2, decide_eq_false z]
        rfl
      have hq' := (sab.trans (sb3.trans s)).seq hq
      generalize pay (WR rows) (PF LS) k L j = pj at *
      walk_at "s1"
      refine iteD (fun h => ?_) (fun h => ?_)
      · walk_at "s1"
        refine r_ix ((sb3.trans s).seq hbwb) (atI_nat (v := .ref bw[j]) (by simp [hjb])) ?_
        walk_at "s1"
        have hin : (k : Int) ∈ row := Classical.byContradiction fun z => by have := hpay z; omega
        rw [decide_eq_true hin]
        exact kk H' (Same.refl _)
      · walk_at "s1"
        exact kk H' (Same.refl _)
    · intro j hj hb
      cases hb
    intro l4 H4 f4 s4 h4
    rw [e2] at h4
    walk_at "s1"
    rename_i l6 H6 f6 s6 h6
    refine iteNS rfl ?_
    have sb6 := sb3.trans (s4.trans s6)
    have hpd6 := sb6.seq hpd
    have q5 : SqL K H6 l5 (sp.map V.int) := SqL.of (sb6 _ _ h5b)
    have hls : (sp.map V.int).length = rows.length := by rw [List.length_map, hspl]
    walk_at "s1"
    try refine ⟨_, _, rfl, ⟨_, q5⟩, ⟨_, hpd6⟩, ?_⟩
    have hmin : min (sp.map V.int).length ((paidF rows LS k L).map V.int).length = rows.length := by omega
    refine comp_mapY (ys_zip (xs := sp.map V.int) (ys := (paidF rows LS k L).map V.int) 0 1) (fun j => [some ((sp.map V.int).getD j .non), some (((paidF rows LS k L).map V.int).getD j .non)]) (by rintro j σ' (rfl | ⟨k, rfl⟩) <;> rfl) (fun H' s => ⟨s.seq q5, s.seq hpd6⟩) (by rw [hmin]; exact Nat.le_trans (show rows.length ≤ 1000 by omega) line64) (fun j => .int (sp.getD j 0 + PF (paidF rows LS k L) j)) ?_ ?_
    · intro j hj H' F s kk
      rw [hmin] at hj
      have hj1 : j < sp.length := by omega
      have hj2 : j < (paidF rows LS k L).length := by omega
      have e : (sp.map V.int).getD j .non = .int (sp.getD j 0) := by simp [List.getD, hj1]
      have e' : ((paidF rows LS k L).map V.int).getD j .non = .int (PF (paidF rows LS k L) j) := by unfold PF; simp [List.getD, hj2]
      rw [e, e']
      walk_at "s1"
      exact kk H' (Same.refl _)
    intro l7 H7 f7 s7 h7
    have e7 : (List.range (min (sp.map V.int).length ((paidF rows LS k L).map V.int).length)).map (fun j => V.int (sp.getD j 0 + PF (paidF rows LS k L) j)) = (spF rows P run (i + 1)).map V.int := by
      rw [hmin, hsp1, List.map_map]
      rfl
    rw [e7] at h7
    walk_at "s1"
    exact ⟨sab.trans (sb6.trans s7), hi, l7, _, _, _, h7, by rw [PF_leftF hLl]; exact hR, rfl⟩
  rintro σ Ha ⟨sa, _, l5, v6, v7, v8, h5, hR, rfl⟩
  have q5 : SqL K Ha l5 ((spF rows P run ts.length).map V.int) := SqL.of h5
  have hls : ((spF rows P run ts.length).map V.int).length = rows.length := by rw [List.length_map, spF_len]
  have hbwa := sa.seq hbw
  have hL0 := leftS_nn (rows := rows) (r := run.take ts.length) hp0
  walk_at "s1"
  try refine ⟨_, rfl, ⟨_, q5⟩, ?_⟩
  refine comp_filtY (ys_list (xs := (spF rows P run ts.length).map V.int) 0) (fun j => [some (((spF rows P run ts.length).map V.int).getD j .non), some (.ref lw), some (.int m), some (.int g)]) (by rintro j σ' (rfl | ⟨k, rfl⟩) <;> rfl) (fun H' s => s.seq q5) (by rw [hls]; exact Nat.le_trans (show rows.length ≤ 1000 by omega) line64) (fun _ => false) (fun _ => .non) ?_ ?_ ?_
  · intro j hj H' F s kk
    rw [hls] at hj
    have hj' : j < (spF rows P run ts.length).length := by rw [spF_len]; exact hj
    have e : ((spF rows P run ts.length).map V.int).getD j .non = .int (P - PF (leftS rows (List.replicate rows.length P) (run.take ts.length)) j) := by
      rw [← spF_at rows P run ts.length j hj]
      simp [List.getD, hj']
    rw [e]
    have hn := PF_nn hL0 j
    generalize PF (leftS rows (List.replicate rows.length P) (run.take ts.length)) j = x at *
    have hle : (P - x) * (rows.length : Int) ≤ (m : Int) * g := by
      rw [← hPv]
      exact Int.mul_le_mul_of_nonneg_right (by omega) (by omega)
    have hbws := s.seq hbwa
    walk_at "s1"
    rw [hlb, decide_eq_false (by omega)]
    exact kk H' (Same.refl _)
  · intro j hj hb
    cases hb
  intro l8 H8 f8 s8 h8
  have e8 : ((List.range ((spF rows P run ts.length).map V.int).length).filter fun _ => false).map (fun _ => V.non) = ([] : List Int).map V.int := by simp
  rw [e8] at h8
  walk_at "s1"
  rename_i l9 H9 f9 s9 h9
  rw [decide_eq_true rfl]
  exact q H9 (sa.trans (s8.trans s9))

theorem costL_permd {cs : List Int} {a b : List Nat} (h : a.Perm b) : costL cs a = costL cs b := perm_sum h
theorem castL_appd9 (a b : List Nat) : castL a ++ castL b = castL (a ++ b) := by unfold castL; rw [List.map_append]
theorem castL_nodup9 {l : List Nat} (h : l.Nodup) : (castL l).Nodup := by
  unfold castL
  refine List.Pairwise.map _ ?_ h
  intro a b hab z
  exact hab (by omega)
theorem sort_uniq : ∀ {xs ys : List Int}, xs.Perm ys → xs.Pairwise (· ≤ ·) → ys.Pairwise (· ≤ ·) → xs = ys
  | [], ys, p, _, _ => by rw [List.nil_perm.mp p]
  | x :: xs, [], p, _, _ => absurd p.symm (by intro z; have := z.length_eq; simp at this)
  | x :: xs, y :: ys, p, hx, hy => by
    have h1 : x ≤ y := by
      rcases List.mem_cons.mp (p.mem_iff.mpr (List.mem_cons_self (a := y) (l := ys))) with e | e
      · omega
      · exact (List.pairwise_cons.mp hx).1 y e
    have h2 : y ≤ x := by
      rcases List.mem_cons.mp (p.mem_iff.mp (List.mem_cons_self (a := x) (l := xs))) with e | e
      · omega
      · exact (List.pairwise_cons.mp hy).1 x e
    have e : x = y := by omega
    subst e
    rw [sort_uniq ((List.perm_cons x).mp p) (List.pairwise_cons.mp hx).2 (List.pairwise_cons.mp hy).2]
theorem nd_perm {xs ys : List Int} (hx : xs.Nodup) (hy : ys.Nodup) (h : ∀ k, k ∈ xs ↔ k ∈ ys) : xs.Perm ys := (List.perm_ext_iff_of_nodup hx hy).mpr h
theorem rk_law : ∀ vs H Q E, sp_law K vs H Q E → rd_law K { nx := fun _ H' => Q .non H', rt := Q } (start ["script", "coins", "costs", "wishes", "steps", "filled", "over", "done", "asked"] vs) H := by
  rintro vs H Q E ⟨_, a, ns, rfl, hS, hl63, q⟩
  unfold rd_law
  with_reducible refine r_seq ?_
  walk_at "s1"
  refine ⟨rfl, a, ns, rfl, hS, hl63, fun t lc lw H1 m cs rows s1 ht hc hR hm hc8 hcb hv1 hv20 hro => ?_⟩
  refine ⟨t, _, rfl, SqT.of ht, rfl, _, _, rfl, _, _, rfl, _, _, rfl, rfl, ?_⟩
  have hRw : RowsAt K H1 lw rows := hR.rowsL.at
  obtain ⟨bw, hbw, hPw⟩ := id hRw
  have hlbw : (bw.map V.ref).length = rows.length := by rw [List.length_map]; exact (Paired.length hPw).symm
  have hC1 : SqL K H1 lc (cs.map V.int) := SqL.of hc
  have hlc : (cs.map V.int).length = cs.length := List.length_map _
  have hr64 : ∀ r ∈ rows, r.length ≤ 64 := fun r hr => by have := rowOk_len (hro r hr); omega
  clear s1
  with_reducible refine r_seq ?_
  walk_at "s1"
  rename_i l2 H2 f2 s2 h2
  try refine ⟨lw, rfl, ⟨_, s2.seq hbw⟩, ?_⟩
  refine comp_copyR (s2.rows hRw) (by omega) fun l3 H3 f3 s3 h3 => ?_
  walk_at "s1"
  refine ⟨rfl, m, l2, l3, cs, rows, rfl, hm, SqL.of (s3 _ _ h2), h3.rowsM.rowsL.at, by omega, hcb, hv1, hv20, fun t4 ls lf H4 P run ws srt s4 PR hRk ht4 hls hlf => ?_⟩
  refine ⟨t4, _, rfl, SqT.of ht4, rfl, _, _, rfl, _, _, rfl, _, _, rfl, rfl, ?_⟩
  have s14 : Same H1 H4 := s2.trans (s3.trans s4)
  have hC4 := s14.seq hC1
  have hR4 := s14.rows hRw
  clear s2 s3 s4
  have hfur : ∀ k, k ∈ srt ↔ k < cs.length ∧ k ∉ ws ∧ 0 < cntW rows k := fun k => by
    rw [hRk.pm.mem_iff]
    unfold furtherF
    rw [List.mem_filter, List.mem_range]
    simp
  have hDs := grF_sub cs srt ((m : Int) - costL cs ws)
  have hDm : ∀ k ∈ grF cs srt ((m : Int) - costL cs ws), k < cs.length ∧ k ∉ ws := fun k hk => let z := (hfur k).mp (hDs.subset hk); ⟨z.1, z.2.1⟩
  have hsn : srt.Nodup := hRk.pm.nodup_iff.mpr (List.Pairwise.filter _ List.nodup_range)
  have hDn : (grF cs srt ((m : Int) - costL cs ws)).Nodup := hsn.sublist hDs
  have hwc := PR.cost
  have hDc := grF_cost cs srt ((m : Int) - costL cs ws) (by omega)
  have hpm := PR.perm
  have hwlt := PR.lt
  have hwnd := PR.nd
  have ecost : costL cs (ws ++ grF cs srt ((m : Int) - costL cs ws)) = costL cs ws + costL cs (grF cs srt ((m : Int) - costL cs ws)) := costL_app cs _ _
  rw [ecost] at ht4 ⊢
  generalize grF cs srt ((m : Int) - costL cs ws) = D at *
  have hdn : (run.map (·.1) ++ D).Nodup := by
    refine List.nodup_append.mpr ⟨hpm.nodup_iff.mp hwnd, hDn, ?_⟩
    intro x hx y hy z
    subst z
    exact (hDm x hy).2 (hpm.mem_iff.mpr hx)
  have hdl : ∀ k ∈ run.map (·.1) ++ D, k < cs.length := fun k hk => by
    rcases List.mem_append.mp hk with z | z
    · exact hwlt k (hpm.mem_iff.mpr z)
    · exact (hDm k z).1
  have hdc : costL cs (run.map (·.1) ++ D) = costL cs ws + costL cs D := by rw [costL_app, ← costL_permd hpm]
  have hdlen := nodup_len cs.length _ hdn hdl
  have hov : 0 ≤ (m : Int) - (costL cs ws + costL cs D) := by omega
  generalize hO : (m : Int) - (costL cs ws + costL cs D) = over at *
  have hlf4 : SqL K H4 lf ((castL D).map V.int) := SqL.of hlf
  have hlD : ((castL D).map V.int).length = D.length := by simp [castL]
  with_reducible refine r_seq ?_
  walk_at "s1"
  refine ⟨rfl, m, lc, lw, ls, cs, rows, P, run, rfl, hm, hC4, hR4, hls, by omega, hcb, hv1, hv20, PR.pv, PR.p0, PR.rn, fun H5 s5 => ?_⟩
  walk_at "s1"
  refine iteN (by omega) ?_
  walk_at "s1"
  with_reducible refine r_seq ?_
  have hls5 := stepsAt_same s5 hls
  obtain ⟨ts, hts, hPt⟩ := id hls5
  have htl : ts.length = run.length := by have := Paired.length hPt; rw [stepsF_len] at this; omega
  have hlts : (ts.map V.ref).length = run.length := by rw [List.length_map, htl]
  have hrl : run.length ≤ 8 := by
    have : run.length ≤ (run.map (·.1) ++ D).length := by simp
    omega
  have hDl : D.length ≤ 8 := by
    have : D.length ≤ (run.map (·.1) ++ D).length := by simp
    omega
  have qts : SqL K H5 ls (ts.map V.ref) := SqL.of hts
  walk_at "s1"
  try refine ⟨ls, rfl, ⟨_, qts⟩, ?_⟩
  refine comp_mapY (ys_list (xs := ts.map V.ref) 0) (fun j => [some ((ts.map V.ref).getD j .non)]) (by rintro j σ' (rfl | ⟨k, rfl⟩) <;> rfl) (fun H' s => s.seq qts) (by rw [hlts]; exact Nat.le_trans (show run.length ≤ 1000 by omega) line64) (fun j => .int (((run.getD j (0, 0)).1 : Nat) : Int)) ?_ ?_
  · intro j hj H' F s kk
    rw [hlts] at hj
    have hjt : j < ts.length := by omega
    have e : (ts.map V.ref).getD j .non = .ref ts[j] := by simp [List.getD, hjt]
    rw [e]
    obtain ⟨x, hx, b, hb1, hb2⟩ := paired_at' hPt (show ts[j]? = some ts[j] by simp [hjt])
    rcases hkl : run[j] with ⟨k, L⟩
    have hri : run[j]? = some (k, L) := by rw [List.getElem?_eq_getElem hj, hkl]
    rw [stepsF_get rows (List.replicate rows.length P) run j k L hri] at hx
    cases hx
    have eg : run.getD j (0, 0) = (k, L) := by rw [List.getD, hri]; rfl
    rw [eg] at kk
    have tq : SqT K H' ts[j] [.int k, .int L, .ref b] := SqT.of (s _ _ hb1)
    walk_at "s1"
    refine ⟨_, _, _, .int k, rfl, rfl, tq, by rfl, ?_⟩
    exact kk H' (Same.refl _)
  intro l6 H6 f6 s6 h6
  have e6 : (List.range (ts.map V.ref).length).map (fun j => V.int (((run.getD j (0, 0)).1 : Nat) : Int)) = (castL (run.map (·.1))).map V.int := by
    rw [hlts, range_getD' (fun x : Nat × Int => V.int ((x.1 : Nat) : Int)) (0, 0) run]
    unfold castL
    rw [List.map_map, List.map_map]
    rfl
  rw [e6] at h6
  have hlf6 := s6.seq (s5.seq hlf4)
  walk_at "s1"
  rename_i l7 H7 f7 s7 h7
  refine r_catN (s7 _ _ h6) h7 (by simp only [List.length_map, castL]; exact Nat.le_trans (show _ ≤ 1000 by omega) line64) fun l8 H8 f8 s8 h8 => ?_
  rw [← List.map_append, castL_appd9] at h8
  have q8 : SqL K H8 l8 ((castL (run.map (·.1) ++ D)).map V.int) := SqL.of h8
  have s48 : Same H4 H8 := s5.trans (s6.trans (s7.trans s8))
  have hC8 := s48.seq hC4
  have hR8 := s48.rows hR4
  have hlf8 := s48.seq hlf4
  have hdone : ∀ x ∈ run, x.1 ∈ run.map (·.1) ++ D := fun x hx => List.mem_append_left _ (List.mem_map.mpr ⟨x, hx, rfl⟩)
  clear s5 s6 s7 s8 hls5
  generalize run.map (·.1) ++ D = dn at *
  have hln : ((castL dn).map V.int).length = dn.length := by simp [castL]
  have hcn := castL_nodup9 hdn
  walk_at "s1"
  with_reducible refine r_seq ?_
  walk_at "s1"
  unfold tAllW
  intro w
  walk_at "s1"
  refine ⟨l8, castL dn, rfl, q8, fun n hn => ?_, fun l9 ds f9 dnd dmem => ?_⟩
  · obtain ⟨k, hk, e⟩ := List.mem_map.mp hn
    have := hdl k hk
    have e : (k : Int) = n := e
    omega
  have s9 := Same.updN (o := SetO w l9 ds) f9
  have h9 : (upd H8 l9 (SetO w l9 ds)) l9 = some (SetO w l9 ds) := upd_same
  generalize upd H8 l9 (SetO w l9 ds) = H9 at *
  walk_at "s1"
  refine ⟨l9, ds, rfl, h9, fun l10 ms f10 mp mw => ?_⟩
  have s10 := Same.updN (o := .lst (ms.map V.int)) f10
  have h10 : (upd H9 l10 (.lst (ms.map V.int))) l10 = some (.lst (ms.map V.int)) := upd_same
  generalize upd H9 l10 (.lst (ms.map V.int)) = H10 at *
  have q10 := (s9.trans s10).seq q8
  walk_at "s1"
  refine ⟨l8, castL dn, rfl, q10, by unfold castL; simp; omega, fun l11 ms' f11 mp' mw' => ?_⟩
  have s11 := Same.updN (o := .lst (ms'.map V.int)) f11
  have h11 : (upd H10 l11 (.lst (ms'.map V.int))) l11 = some (.lst (ms'.map V.int)) := upd_same
  generalize upd H10 l11 (.lst (ms'.map V.int)) = H11 at *
  have em : ms = ms' := sort_uniq (mp.trans ((nd_perm dnd hcn dmem).trans mp'.symm)) mw mw'
  subst em
  have s811 : Same H8 H11 := s9.trans (s10.trans s11)
  have q10' : SqL K H11 l10 (ms.map V.int) := SqL.of (s11 _ _ h10)
  have q11 : SqL K H11 l11 (ms.map V.int) := SqL.of h11
  have hlf11 := s811.seq hlf8
  have hC11 := s811.seq hC8
  have hR11 := s811.rows hR8
  have qd11 := s811.seq q8
  clear s9 s10 s11 q10
  walk_at "s1"
  try refine iteNS rfl ?_
  walk_at "s1"
  try refine ⟨lf, rfl, ⟨_, hlf11⟩, ?_⟩
  refine comp_filtY (ys_list (xs := (castL D).map V.int) 0) (fun j => [some (((castL D).map V.int).getD j .non), some (.ref lc)]) (by rintro j σ' (rfl | ⟨k, rfl⟩) <;> rfl) (fun H' s => s.seq hlf11) (by rw [hlD]; exact Nat.le_trans (show D.length ≤ 1000 by omega) line64) (fun _ => false) (fun _ => .non) ?_ ?_ ?_
  · intro j hj H' F s kk
    rw [hlD] at hj
    have e : ((castL D).map V.int).getD j .non = .int ((D.getD j 0 : Nat) : Int) := by unfold castL; simp [List.getD, hj]
    rw [e]
    have hk := (hDm (D.getD j 0) (by simp [List.getD, hj])).1
    generalize D.getD j 0 = k at *
    have hC' := s.seq hC11
    walk_at "s1"
    refine iteN (by omega) ?_
    walk_at "s1"
    rw [hlc, decide_eq_false (by omega)]
    exact kk H' (Same.refl _)
  · intro j hj hb
    cases hb
  intro l12 H12 f12 s12 h12
  have e12 : ((List.range ((castL D).map V.int).length).filter fun _ => false).map (fun _ => V.non) = ([] : List Int).map V.int := by simp
  rw [e12] at h12
  walk_at "s1"
  rename_i l13 H13 f13 s13 h13
  refine iteNS rfl ?_
  have s1113 := s12.trans s13
  have hC13 := s1113.seq hC11
  have hR13 := s1113.rows hR11
  have qd13 := s1113.seq qd11
  clear s12 s13
  walk_at "s1"
  with_reducible refine r_seq ?_
  walk_at "s1"
  try refine ⟨l8, rfl, ⟨_, qd13⟩, ?_⟩
  refine comp_mapY (ys_list (xs := (castL dn).map V.int) 0) (fun j => [some (((castL dn).map V.int).getD j .non), some (.ref lc)]) (by rintro j σ' (rfl | ⟨k, rfl⟩) <;> rfl) (fun H' s => s.seq qd13) (by rw [hln]; exact Nat.le_trans (show dn.length ≤ 1000 by omega) line64) (fun j => .int (cs.getD (dn.getD j 0) 0)) ?_ ?_
  · intro j hj H' F s kk
    rw [hln] at hj
    have e : ((castL dn).map V.int).getD j .non = .int ((dn.getD j 0 : Nat) : Int) := by unfold castL; simp [List.getD, hj]
    rw [e]
    have hk := hdl (dn.getD j 0) (by simp [List.getD, hj])
    generalize dn.getD j 0 = k at *
    walk_at "s1"
    refine r_ix (s.seq hC13) (atI_nat (v := .int (cs.getD k 0)) (by simp [List.getD, hk])) ?_
    exact kk H' (Same.refl _)
  intro l14 H14 f14 s14' h14
  have e14 : (List.range ((castL dn).map V.int).length).map (fun j => V.int (cs.getD (dn.getD j 0) 0)) = (dn.map fun w => cs.getD w 0).map V.int := by
    rw [hln, range_getD' (fun w => V.int (cs.getD w 0)) 0 dn, List.map_map]
    rfl
  rw [e14] at h14
  have hC14 := s14'.seq hC13
  have hR14 := s14'.rows hR13
  have qd14 := s14'.seq qd13
  clear s14'
  walk_at "s1"
  have hsum : (dn.map fun w => cs.getD w 0).sum = costL cs dn := rfl
  rw [hsum, hdc]
  refine iteNS (by omega) ?_
  walk_at "s1"
  with_reducible refine r_seq ?_
  walk_at "s1"
  refine ⟨rfl, cs.length, by rw [hlc], hc8, fun lx H15 wss f15 s15 h15 hwss hwl256 => ?_⟩
  obtain ⟨bs, hb1, hb2⟩ := h15
  have hbl : bs.length = wss.length := by have := Paired.length hb2; rw [List.length_map] at this; exact this.symm
  have hlb : (bs.map V.ref).length = wss.length := by rw [List.length_map, hbl]
  have qx : SqL K H15 lx (bs.map V.ref) := SqL.of hb1
  have hC15 := s15.seq hC14
  have hR15 := s15.rows hR14
  have qd15 := s15.seq qd14
  clear s15
  walk_at "s1"
  try refine ⟨lx, rfl, ⟨_, qx⟩, ?_⟩
  refine for_ys (ys_list (xs := bs.map V.ref) 8) (fun i σ H' => Same H15 H' ∧ ∃ v8, σ = [some (.ref a), some (.int m), some (.ref lc), some (.ref lw), some (.ref ls), some (.ref lf), some (.int over), some (.ref l8), v8]) ⟨Same.refl _, _, rfl⟩ (fun i σ H' h => h.1.seq qx) ?_ ?_
  · rintro i σ Ha Hb hi ⟨sa, v8, rfl⟩ sb
    rw [hlb] at hi
    have hib : i < bs.length := by omega
    have e : (bs.map V.ref).getD i .non = .ref bs[i] := by simp [List.getD, hib]
    rw [e]
    obtain ⟨r, hr', hq⟩ := paired_at' hb2 (show bs[i]? = some bs[i] by simp [hib])
    have er : r = castL wss[i] := by
      rw [List.getElem?_map, List.getElem?_eq_getElem hi] at hr'
      exact (Option.some.inj hr').symm
    subst er
    obtain ⟨hun, hul⟩ := hwss wss[i] (List.getElem_mem hi)
    generalize wss[i] = us at *
    have hul8 := nodup_len cs.length us hun hul
    have sab := sa.trans sb
    have hu : SqL K Hb bs[i] ((castL us).map V.int) := SqL.of (sab _ _ hq.2)
    have hnw : NoWrong m cs rows dn us := no_wrong hcb hv1 hv20 PR.pv PR.p0 PR.rn.run hdone (fun r hr => rowOk_nodup (hro r hr)) hun hul
    show tIfS _ _ _ _ _ _
    walk_at "s1"
    refine ⟨rfl, m, lc, lw, bs[i], l8, cs, rows, us, dn, rfl, hm, sab.seq hC15, sab.rows hR15, hu, sab.seq qd15, hv20, hr64, by omega, hul, hnw, fun Hc sc => ?_⟩
    walk_at "s1"
    try refine iteNP Bool.false_ne_true ?_
    try walk_at "s1"
    exact ⟨sab.trans sc, _, rfl⟩
  rintro σ Ha ⟨sa, v8, rfl⟩
  walk_at "s1"
  exact q Ha

end

/-! ### what the top has written -/
structure Txt (K : PySem.W.Frag) (mg : Str → Option Value) : Prop where
  f_paid_at : FunIn K mg "paid_at" s_paid_at ["purses", "level"]
  f_rounded_up : FunIn K mg "rounded_up" s_rounded_up ["amount", "shares"]
  f_level_for : FunIn K mg "level_for" s_level_for ["purses", "price"]
  f_least_multiple : FunIn K mg "least_multiple" s_least_multiple ["step", "number"]
  f_together : FunIn K mg "together" s_together ["n"]
  f_grains_of : FunIn K mg "grains_of" s_grains_of ["voters", "works"]
  f_equal_purse : FunIn K mg "equal_purse" s_equal_purse ["coins", "voters", "works"]
  f_wants_all : FunIn K mg "wants_all" s_wants_all ["wanted", "works"]
  f_common_of : FunIn K mg "common_of" s_common_of ["wishes", "works"]
  f_wanters_of : FunIn K mg "wanters_of" s_wanters_of ["wishes", "work"]
  f_cost_of : FunIn K mg "cost_of" s_cost_of ["costs", "works"]
  f_purses_of : FunIn K mg "purses_of" s_purses_of ["coins", "costs", "wishes"]
  f_prices_of : FunIn K mg "prices_of" s_prices_of ["costs", "wishes"]
  f_offer_of : FunIn K mg "offer_of" s_offer_of ["purses", "wishes", "work", "price"]
  f_offers_of : FunIn K mg "offers_of" s_offers_of ["purses", "costs", "wishes", "done"]
  f_next_of : FunIn K mg "next_of" s_next_of ["offers"]
  f_payments_of : FunIn K mg "payments_of" s_payments_of ["purses", "wishes", "work", "level"]
  f_works_of : FunIn K mg "works_of" s_works_of ["steps"]
  f_paid_by : FunIn K mg "paid_by" s_paid_by ["steps", "voter"]
  f_left_of : FunIn K mg "left_of" s_left_of ["purses", "steps"]
  f_step_behind : FunIn K mg "step_behind" s_step_behind ["purses", "costs", "wishes", "steps"]
  f_choose : FunIn K mg "choose" s_choose ["purses", "costs", "wishes"]
  f_coins_over : FunIn K mg "coins_over" s_coins_over ["coins", "costs", "works"]
  f_further_works : FunIn K mg "further_works" s_further_works ["costs", "wishes", "works"]
  f_rank_of : FunIn K mg "rank_of" s_rank_of ["costs", "wishes", "work"]
  f_ranked_works : FunIn K mg "ranked_works" s_ranked_works ["costs", "wishes", "works"]
  f_fill : FunIn K mg "fill" s_fill ["coins", "costs", "wishes", "works"]
  f_plan_of : FunIn K mg "plan_of" s_plan_of ["coins", "costs", "wishes"]
  f__law_cell_at : FunIn K mg "_law_cell_at" s__law_cell_at ["script", "k"]
  f__law_whole : FunIn K mg "_law_whole" s__law_whole ["found"]
  f__law_draw : FunIn K mg "_law_draw" s__law_draw ["cell", "place"]
  f__law_draws : FunIn K mg "_law_draws" s__law_draws ["cell", "many"]
  f__law_cost : FunIn K mg "_law_cost" s__law_cost ["number", "kind", "usual"]
  f__law_wishes : FunIn K mg "_law_wishes" s__law_wishes ["cells", "many", "usual"]
  f__law_town : FunIn K mg "_law_town" s__law_town ["script"]
  f__law_sets : FunIn K mg "_law_sets" s__law_sets ["many"]
  f__law_wrongs : FunIn K mg "_law_wrongs" s__law_wrongs ["coins", "costs", "wishes", "asked", "done"]
  f__law_paid : FunIn K mg "_law_paid" s__law_paid ["coins", "costs", "wishes", "steps"]
  f_law : FunIn K mg "law" s_law ["script"]
  e_TooMuch : ExcIn K mg "TooMuch"
  z_all : mg "all" = none
  z_bool : mg "bool" = none
  z_enumerate : mg "enumerate" = none
  z_int : mg "int" = none
  z_isinstance : mg "isinstance" = none
  z_len : mg "len" = none
  z_list : mg "list" = none
  z_min : mg "min" = none
  z_range : mg "range" = none
  z_set : mg "set" = none
  z_sorted : mg "sorted" = none
  z_sum : mg "sum" = none
  z_zip : mg "zip" = none
/-! ### the terms -/
section
variable {P : Program} {w : World} {K : PySem.W.Frag} {mg : Str → Option Value} {base : Heap}
theorem pf_paid_at (T : Txt K mg) {f : Addr} {cdv : Value} {A : Around} {outer : List Env} {s : Shared} {H : Hp} {E : XK} (hr : Room 0 (A.deeper (PyProof.Rows.envOfC "paid_at" (defScope s_paid_at) s.heap.objs.size f cdv))) :
    PSs (cxOf CX0 P w K mg base ["purses", "level"] "paid_at" (defScope s_paid_at) f cdv A outer s H E).nox (defBody s_paid_at) (rd_paid_at K) :=
  (pss_one (ps_ret (pe_comp (N := ["purse", "level"]) (mp := [none, some 1]) rfl ⟨rfl, by decide +kernel, by rfl, rfl, by rfl⟩ (pi_list (pv 0)) (fun _ _ _ _ _ _ => (pg_name (i := 0) (by show List.Nodup (["purse", "level"] : List Str); decide +kernel) rfl (Or.inl rfl))) (fun _ _ _ _ _ _ => pifs_nil) (fun _ _ _ _ _ _ => (pe_callB (call_min2 rfl) (by rfl) T.z_min PyProof.Rows.boot_min (pa_cons (pv 0) (pa_cons (pv 1) pa_nil)))))))
theorem cal_paid_at (T : Txt K mg) : Cal P w K mg base 1 "paid_at" ["purses", "level"] (sp_paid_at K) := T.f_paid_at.cal sc_paid_at (spOf_len rfl) (fun f cdv A outer s H E hr => pf_paid_at T hr) rk_paid_at
theorem pf_rounded_up (T : Txt K mg) {f : Addr} {cdv : Value} {A : Around} {outer : List Env} {s : Shared} {H : Hp} {E : XK} (hr : Room 0 (A.deeper (PyProof.Rows.envOfC "rounded_up" (defScope s_rounded_up) s.heap.objs.size f cdv))) :
    PSs (cxOf CX0 P w K mg base ["amount", "shares"] "rounded_up" (defScope s_rounded_up) f cdv A outer s H E).nox (defBody s_rounded_up) (rd_rounded_up K) :=
  (pss_one (ps_ret (pe_op op_divI (pe_op op_subI (pe_op op_addI (pv 0) (pv 1)) pe_int) (pv 1))))
theorem cal_rounded_up (T : Txt K mg) : Cal P w K mg base 1 "rounded_up" ["amount", "shares"] (sp_rounded_up K) := T.f_rounded_up.cal sc_rounded_up (spOf_len rfl) (fun f cdv A outer s H E hr => pf_rounded_up T hr) rk_rounded_up
theorem pf_level_for (T : Txt K mg) {f : Addr} {cdv : Value} {A : Around} {outer : List Env} {s : Shared} {H : Hp} {E : XK} (hr : Room 1 (A.deeper (PyProof.Rows.envOfC "level_for" (defScope s_level_for) s.heap.objs.size f cdv))) :
    PSs (cxOf CX0 P w K mg base ["purses", "price", "missing", "payers", "purse"] "level_for" (defScope s_level_for) f cdv A outer s H E).nox (defBody s_level_for) (rd_level_for K) :=
  (pss_cons (ps_if (pt_cmpR op_ltI (pe_callB (call_sum rfl) (by rfl) T.z_sum PyProof.Rows.boot_sum (pa_cons (pv 0) pa_nil)) (pv 1) (nomark _)) (pss_one (ps_ret pe_non)) pss_nil)
      (pss_cons (ps_set (i := 2) sc_level_for.nd rfl (Or.inl rfl) (pv 1))
      (pss_cons (ps_set (i := 3) sc_level_for.nd rfl (Or.inl rfl) (pe_callB call_len_seq (by rfl) T.z_len PySem.boot_len (pa_cons (pv 0) pa_nil)))
      (pss_cons (ps_for PassesOwn.never rfl (pi_list (pe_callB call_sorted (by rfl) T.z_sorted PyProof.Rows.boot_sorted (pa_cons (pv 0) pa_nil))) (pg_name (i := 4) sc_level_for.nd rfl (Or.inl rfl)) (pss_cons (ps_if (pt_cmpR op_geI (pe_op op_mulI (pv 4) (pv 3)) (pv 2) (nomark _)) (pss_one (ps_ret (pe_cal (cal_rounded_up T) (hr.mono (by decide)) (pa_cons (pv 2) (pa_cons (pv 3) pa_nil))))) pss_nil)
      (pss_cons (ps_aug (i := 2) sc_level_for.nd rfl (Or.inl rfl) (pv 4) (ip_of iop_subI))
      (pss_one (ps_aug (i := 3) sc_level_for.nd rfl (Or.inl rfl) pe_int (ip_of iop_subI))))))
      (pss_one (ps_ret pe_int))))))
theorem cal_level_for (T : Txt K mg) : Cal P w K mg base 2 "level_for" ["purses", "price"] (sp_level_for K) := T.f_level_for.cal sc_level_for (spOf_len rfl) (fun f cdv A outer s H E hr => pf_level_for T hr) rk_level_for
theorem pf_least_multiple (T : Txt K mg) {f : Addr} {cdv : Value} {A : Around} {outer : List Env} {s : Shared} {H : Hp} {E : XK} (hr : Room 0 (A.deeper (PyProof.Rows.envOfC "least_multiple" (defScope s_least_multiple) s.heap.objs.size f cdv))) :
    PSs (cxOf CX0 P w K mg base ["step", "number", "multiple"] "least_multiple" (defScope s_least_multiple) f cdv A outer s H E).nox (defBody s_least_multiple) (rd_least_multiple K) :=
  (pss_cons (ps_set (i := 2) sc_least_multiple.nd rfl (Or.inl rfl) (pv 0))
      (pss_cons (ps_while PassesOwn.never (pt_cmpR op_ne (pe_op op_modI (pv 2) (pv 1)) pe_int (nomark _)) (pss_one (ps_aug (i := 2) sc_least_multiple.nd rfl (Or.inl rfl) (pv 0) (ip_of iop_addI))))
      (pss_one (ps_ret (pv 2)))))
theorem cal_least_multiple (T : Txt K mg) : Cal P w K mg base 1 "least_multiple" ["step", "number"] (sp_least_multiple K) := T.f_least_multiple.cal sc_least_multiple (spOf_len rfl) (fun f cdv A outer s H E hr => pf_least_multiple T hr) rk_least_multiple
theorem pf_together (T : Txt K mg) {f : Addr} {cdv : Value} {A : Around} {outer : List Env} {s : Shared} {H : Hp} {E : XK} (hr : Room 1 (A.deeper (PyProof.Rows.envOfC "together" (defScope s_together) s.heap.objs.size f cdv))) :
    PSs (cxOf CX0 P w K mg base ["n", "least", "number"] "together" (defScope s_together) f cdv A outer s H E).nox (defBody s_together) (rd_together K) :=
  (pss_cons (ps_set (i := 1) sc_together.nd rfl (Or.inl rfl) pe_int)
      (pss_cons (ps_for PassesOwn.never rfl (pi_range2 (by rfl) T.z_range (pa_cons pe_int (pa_cons (pe_op op_addI (pv 0) pe_int) pa_nil))) (pg_name (i := 2) sc_together.nd rfl (Or.inl rfl)) (pss_one (ps_set (i := 1) sc_together.nd rfl (Or.inl rfl) (pe_cal (cal_least_multiple T) (hr.mono (by decide)) (pa_cons (pv 1) (pa_cons (pv 2) pa_nil))))))
      (pss_one (ps_ret (pv 1)))))
theorem cal_together (T : Txt K mg) : Cal P w K mg base 2 "together" ["n"] (sp_together K) := T.f_together.cal sc_together (spOf_len rfl) (fun f cdv A outer s H E hr => pf_together T hr) rk_together
theorem pf_grains_of (T : Txt K mg) {f : Addr} {cdv : Value} {A : Around} {outer : List Env} {s : Shared} {H : Hp} {E : XK} (hr : Room 2 (A.deeper (PyProof.Rows.envOfC "grains_of" (defScope s_grains_of) s.heap.objs.size f cdv))) :
    PSs (cxOf CX0 P w K mg base ["voters", "works", "factor", "grains", "work"] "grains_of" (defScope s_grains_of) f cdv A outer s H E).nox (defBody s_grains_of) (rd_grains_of K) :=
  (pss_cons (ps_set (i := 2) sc_grains_of.nd rfl (Or.inl rfl) (pe_cal (cal_together T) (hr.mono (by decide)) (pa_cons (pv 0) pa_nil)))
      (pss_cons (ps_set (i := 3) sc_grains_of.nd rfl (Or.inl rfl) (pv 2))
      (pss_cons (ps_for PassesOwn.never rfl (pi_range1 (by rfl) T.z_range (pa_cons (pv 1) pa_nil)) (pg_name (i := 4) sc_grains_of.nd rfl (Or.inl rfl)) (pss_one (ps_aug (i := 3) sc_grains_of.nd rfl (Or.inl rfl) (pv 2) (ip_of iop_mulI))))
      (pss_one (ps_ret (pv 3))))))
theorem cal_grains_of (T : Txt K mg) : Cal P w K mg base 3 "grains_of" ["voters", "works"] (sp_grains_of K) := T.f_grains_of.cal sc_grains_of (spOf_len rfl) (fun f cdv A outer s H E hr => pf_grains_of T hr) rk_grains_of
theorem pf_equal_purse (T : Txt K mg) {f : Addr} {cdv : Value} {A : Around} {outer : List Env} {s : Shared} {H : Hp} {E : XK} (hr : Room 3 (A.deeper (PyProof.Rows.envOfC "equal_purse" (defScope s_equal_purse) s.heap.objs.size f cdv))) :
    PSs (cxOf CX0 P w K mg base ["coins", "voters", "works"] "equal_purse" (defScope s_equal_purse) f cdv A outer s H E).nox (defBody s_equal_purse) (rd_equal_purse K) :=
  (pss_one (ps_ret (pe_op op_divI (pe_op op_mulI (pv 0) (pe_cal (cal_grains_of T) (hr.mono (by decide)) (pa_cons (pv 1) (pa_cons (pv 2) pa_nil)))) (pv 1))))
theorem cal_equal_purse (T : Txt K mg) : Cal P w K mg base 4 "equal_purse" ["coins", "voters", "works"] (sp_equal_purse K) := T.f_equal_purse.cal sc_equal_purse (spOf_len rfl) (fun f cdv A outer s H E hr => pf_equal_purse T hr) rk_equal_purse
theorem pf_wants_all (T : Txt K mg) {f : Addr} {cdv : Value} {A : Around} {outer : List Env} {s : Shared} {H : Hp} {E : XK} (hr : Room 0 (A.deeper (PyProof.Rows.envOfC "wants_all" (defScope s_wants_all) s.heap.objs.size f cdv))) :
    PSs (cxOf CX0 P w K mg base ["wanted", "works"] "wants_all" (defScope s_wants_all) f cdv A outer s H E).nox (defBody s_wants_all) (rd_wants_all K) :=
  (pss_one (ps_ret (pe_callB (call_all rfl) (by rfl) T.z_all PyProof.Rows.boot_all (pa_cons (pe_comp (N := ["work", "wanted"]) (mp := [none, some 0]) rfl ⟨rfl, by decide +kernel, by rfl, rfl, by rfl⟩ (pi_list (pv 1)) (fun _ _ _ _ _ _ => (pg_name (i := 0) (by show List.Nodup (["work", "wanted"] : List Str); decide +kernel) rfl (Or.inl rfl))) (fun _ _ _ _ _ _ => pifs_nil) (fun _ _ _ _ _ _ => (pe_cmpR op_in_seq (pv 0) (pv 1) rfl))) pa_nil))))
theorem cal_wants_all (T : Txt K mg) : Cal P w K mg base 1 "wants_all" ["wanted", "works"] (sp_wants_all K) := T.f_wants_all.cal sc_wants_all (spOf_len rfl) (fun f cdv A outer s H E hr => pf_wants_all T hr) rk_wants_all
theorem pf_common_of (T : Txt K mg) {f : Addr} {cdv : Value} {A : Around} {outer : List Env} {s : Shared} {H : Hp} {E : XK} (hr : Room 1 (A.deeper (PyProof.Rows.envOfC "common_of" (defScope s_common_of) s.heap.objs.size f cdv))) :
    PSs (cxOf CX0 P w K mg base ["wishes", "works"] "common_of" (defScope s_common_of) f cdv A outer s H E).nox (defBody s_common_of) (rd_common_of K) :=
  (pss_one (ps_ret (pe_comp (N := ["voter", "wanted", "works"]) (mp := [none, none, some 1]) rfl ⟨rfl, by decide +kernel, by rfl, rfl, by rfl⟩ (pi_enum (by rfl) T.z_enumerate (pv 0)) (fun _ _ _ _ _ _ => (pg_tup rfl (pgs_cons (pg_name (i := 0) (by show List.Nodup (["voter", "wanted", "works"] : List Str); decide +kernel) rfl (Or.inl rfl)) (pgs_cons (pg_name (i := 1) (by show List.Nodup (["voter", "wanted", "works"] : List Str); decide +kernel) rfl (Or.inl rfl)) pgs_nil)))) (fun _ _ _ _ _ _ => (pifs_one (pt_val (pe_cal (cal_wants_all T) (hr.mono (by decide)) (pa_cons (pv 1) (pa_cons (pv 2) pa_nil)))))) (fun _ _ _ _ _ _ => (pv 0)))))
theorem cal_common_of (T : Txt K mg) : Cal P w K mg base 2 "common_of" ["wishes", "works"] (sp_common_of K) := T.f_common_of.cal sc_common_of (spOf_len rfl) (fun f cdv A outer s H E hr => pf_common_of T hr) rk_common_of
theorem pf_wanters_of (T : Txt K mg) {f : Addr} {cdv : Value} {A : Around} {outer : List Env} {s : Shared} {H : Hp} {E : XK} (hr : Room 2 (A.deeper (PyProof.Rows.envOfC "wanters_of" (defScope s_wanters_of) s.heap.objs.size f cdv))) :
    PSs (cxOf CX0 P w K mg base ["wishes", "work"] "wanters_of" (defScope s_wanters_of) f cdv A outer s H E).nox (defBody s_wanters_of) (rd_wanters_of K) :=
  (pss_one (ps_ret (pe_cal (cal_common_of T) (hr.mono (by decide)) (pa_cons (pv 0) (pa_cons (pe_lst (pa_cons (pv 1) pa_nil)) pa_nil)))))
theorem cal_wanters_of (T : Txt K mg) : Cal P w K mg base 3 "wanters_of" ["wishes", "work"] (sp_wanters_of K) := T.f_wanters_of.cal sc_wanters_of (spOf_len rfl) (fun f cdv A outer s H E hr => pf_wanters_of T hr) rk_wanters_of
theorem pf_cost_of (T : Txt K mg) {f : Addr} {cdv : Value} {A : Around} {outer : List Env} {s : Shared} {H : Hp} {E : XK} (hr : Room 0 (A.deeper (PyProof.Rows.envOfC "cost_of" (defScope s_cost_of) s.heap.objs.size f cdv))) :
    PSs (cxOf CX0 P w K mg base ["costs", "works"] "cost_of" (defScope s_cost_of) f cdv A outer s H E).nox (defBody s_cost_of) (rd_cost_of K) :=
  (pss_one (ps_ret (pe_callB (call_sum rfl) (by rfl) T.z_sum PyProof.Rows.boot_sum (pa_cons (pe_comp (N := ["work", "costs"]) (mp := [none, some 0]) rfl ⟨rfl, by decide +kernel, by rfl, rfl, by rfl⟩ (pi_list (pv 1)) (fun _ _ _ _ _ _ => (pg_name (i := 0) (by show List.Nodup (["work", "costs"] : List Str); decide +kernel) rfl (Or.inl rfl))) (fun _ _ _ _ _ _ => pifs_nil) (fun _ _ _ _ _ _ => (pe_ix ix_list (pv 1) (pv 0) (fun _ _ => rfl)))) pa_nil))))
theorem cal_cost_of (T : Txt K mg) : Cal P w K mg base 1 "cost_of" ["costs", "works"] (sp_cost_of K) := T.f_cost_of.cal sc_cost_of (spOf_len rfl) (fun f cdv A outer s H E hr => pf_cost_of T hr) rk_cost_of
theorem pf_purses_of (T : Txt K mg) {f : Addr} {cdv : Value} {A : Around} {outer : List Env} {s : Shared} {H : Hp} {E : XK} (hr : Room 4 (A.deeper (PyProof.Rows.envOfC "purses_of" (defScope s_purses_of) s.heap.objs.size f cdv))) :
    PSs (cxOf CX0 P w K mg base ["coins", "costs", "wishes", "voters", "works"] "purses_of" (defScope s_purses_of) f cdv A outer s H E).nox (defBody s_purses_of) (rd_purses_of K) :=
  (pss_cons (ps_set (i := 3) sc_purses_of.nd rfl (Or.inr rfl) (pe_callB call_len_seq (by rfl) T.z_len PySem.boot_len (pa_cons (pv 2) pa_nil)))
      (pss_cons (ps_set (i := 4) sc_purses_of.nd rfl (Or.inr rfl) (pe_callB call_len_seq (by rfl) T.z_len PySem.boot_len (pa_cons (pv 1) pa_nil)))
      (pss_one (ps_ret (pe_comp (N := ["voter", "coins", "voters", "works"]) (mp := [none, some 0, some 3, some 4]) rfl ⟨rfl, by decide +kernel, by rfl, rfl, by rfl⟩ (pi_range1 (by rfl) T.z_range (pa_cons (pv 3) pa_nil)) (fun _ _ _ _ _ _ => (pg_name (i := 0) (by show List.Nodup (["voter", "coins", "voters", "works"] : List Str); decide +kernel) rfl (Or.inl rfl))) (fun _ _ _ _ _ _ => pifs_nil) (fun _ _ _ _ _ _ => (pe_cal (cal_equal_purse T) (hr.mono (by decide)) (pa_cons (pv 1) (pa_cons (pv 2) (pa_cons (pv 3) pa_nil))))))))))
theorem cal_purses_of (T : Txt K mg) : Cal P w K mg base 5 "purses_of" ["coins", "costs", "wishes"] (sp_purses_of K) := T.f_purses_of.cal sc_purses_of (spOf_len rfl) (fun f cdv A outer s H E hr => pf_purses_of T hr) rk_purses_of
theorem pf_prices_of (T : Txt K mg) {f : Addr} {cdv : Value} {A : Around} {outer : List Env} {s : Shared} {H : Hp} {E : XK} (hr : Room 3 (A.deeper (PyProof.Rows.envOfC "prices_of" (defScope s_prices_of) s.heap.objs.size f cdv))) :
    PSs (cxOf CX0 P w K mg base ["costs", "wishes", "grains"] "prices_of" (defScope s_prices_of) f cdv A outer s H E).nox (defBody s_prices_of) (rd_prices_of K) :=
  (pss_cons (ps_set (i := 2) sc_prices_of.nd rfl (Or.inr rfl) (pe_cal (cal_grains_of T) (hr.mono (by decide)) (pa_cons (pe_callB call_len_seq (by rfl) T.z_len PySem.boot_len (pa_cons (pv 1) pa_nil)) (pa_cons (pe_callB call_len_seq (by rfl) T.z_len PySem.boot_len (pa_cons (pv 0) pa_nil)) pa_nil))))
      (pss_one (ps_ret (pe_comp (N := ["cost", "grains"]) (mp := [none, some 2]) rfl ⟨rfl, by decide +kernel, by rfl, rfl, by rfl⟩ (pi_list (pv 0)) (fun _ _ _ _ _ _ => (pg_name (i := 0) (by show List.Nodup (["cost", "grains"] : List Str); decide +kernel) rfl (Or.inl rfl))) (fun _ _ _ _ _ _ => pifs_nil) (fun _ _ _ _ _ _ => (pe_op op_mulI (pv 0) (pv 1)))))))
theorem cal_prices_of (T : Txt K mg) : Cal P w K mg base 4 "prices_of" ["costs", "wishes"] (sp_prices_of K) := T.f_prices_of.cal sc_prices_of (spOf_len rfl) (fun f cdv A outer s H E hr => pf_prices_of T hr) rk_prices_of
theorem pf_offer_of (T : Txt K mg) {f : Addr} {cdv : Value} {A : Around} {outer : List Env} {s : Shared} {H : Hp} {E : XK} (hr : Room 3 (A.deeper (PyProof.Rows.envOfC "offer_of" (defScope s_offer_of) s.heap.objs.size f cdv))) :
    PSs (cxOf CX0 P w K mg base ["purses", "wishes", "work", "price"] "offer_of" (defScope s_offer_of) f cdv A outer s H E).nox (defBody s_offer_of) (rd_offer_of K) :=
  (pss_one (ps_ret (pe_cal (cal_level_for T) (hr.mono (by decide)) (pa_cons (pe_comp (N := ["voter", "purses"]) (mp := [none, some 0]) rfl ⟨rfl, by decide +kernel, by rfl, rfl, by rfl⟩ (pi_list (pe_cal (cal_wanters_of T) (hr.mono (by decide)) (pa_cons (pv 1) (pa_cons (pv 2) pa_nil)))) (fun _ _ _ _ _ _ => (pg_name (i := 0) (by show List.Nodup (["voter", "purses"] : List Str); decide +kernel) rfl (Or.inl rfl))) (fun _ _ _ _ _ _ => pifs_nil) (fun _ _ _ _ _ _ => (pe_ix ix_list (pv 1) (pv 0) (fun _ _ => rfl)))) (pa_cons (pv 3) pa_nil)))))
theorem cal_offer_of (T : Txt K mg) : Cal P w K mg base 4 "offer_of" ["purses", "wishes", "work", "price"] (sp_offer_of K) := T.f_offer_of.cal sc_offer_of (spOf_len rfl) (fun f cdv A outer s H E hr => pf_offer_of T hr) rk_offer_of
theorem pf_offers_of (T : Txt K mg) {f : Addr} {cdv : Value} {A : Around} {outer : List Env} {s : Shared} {H : Hp} {E : XK} (hr : Room 4 (A.deeper (PyProof.Rows.envOfC "offers_of" (defScope s_offers_of) s.heap.objs.size f cdv))) :
    PSs (cxOf CX0 P w K mg base ["purses", "costs", "wishes", "done", "offers", "work", "price"] "offers_of" (defScope s_offers_of) f cdv A outer s H E).nox (defBody s_offers_of) (rd_offers_of K) :=
  (pss_cons (ps_set (i := 4) sc_offers_of.nd rfl (Or.inl rfl) (pe_lst pa_nil))
      (pss_cons (ps_for PassesOwn.never rfl (pi_enum (by rfl) T.z_enumerate (pe_cal (cal_prices_of T) (hr.mono (by decide)) (pa_cons (pv 1) (pa_cons (pv 2) pa_nil)))) (pg_tup rfl (pgs_cons (pg_name (i := 5) sc_offers_of.nd rfl (Or.inl rfl)) (pgs_cons (pg_name (i := 6) sc_offers_of.nd rfl (Or.inl rfl)) pgs_nil))) (pss_one (ps_expr (pe_bm PySem.F.plainAttrs_list PySem.F.slot_list_append PySem.F.type_list_append mt_append (pv 4) (pa_cons (pe_ifExp (pt_cmpR op_in_seq (pv 5) (pv 3) rfl) pe_non (pe_cal (cal_offer_of T) (hr.mono (by decide)) (pa_cons (pv 0) (pa_cons (pv 2) (pa_cons (pv 5) (pa_cons (pv 6) pa_nil)))))) pa_nil)))))
      (pss_one (ps_ret (pv 4)))))
theorem cal_offers_of (T : Txt K mg) : Cal P w K mg base 5 "offers_of" ["purses", "costs", "wishes", "done"] (sp_offers_of K) := T.f_offers_of.cal sc_offers_of (spOf_len rfl) (fun f cdv A outer s H E hr => pf_offers_of T hr) rk_offers_of
theorem pf_next_of (T : Txt K mg) {f : Addr} {cdv : Value} {A : Around} {outer : List Env} {s : Shared} {H : Hp} {E : XK} (hr : Room 0 (A.deeper (PyProof.Rows.envOfC "next_of" (defScope s_next_of) s.heap.objs.size f cdv))) :
    PSs (cxOf CX0 P w K mg base ["offers", "best", "work", "offer"] "next_of" (defScope s_next_of) f cdv A outer s H E).nox (defBody s_next_of) (rd_next_of K) :=
  (pss_cons (ps_set (i := 1) sc_next_of.nd rfl (Or.inl rfl) pe_non)
      (pss_cons (ps_for PassesOwn.never rfl (pi_enum (by rfl) T.z_enumerate (pv 0)) (pg_tup rfl (pgs_cons (pg_name (i := 2) sc_next_of.nd rfl (Or.inl rfl)) (pgs_cons (pg_name (i := 3) sc_next_of.nd rfl (Or.inl rfl)) pgs_nil))) (pss_one (ps_if (PW.pt (pw_and (pt_cmpR op_notN (pv 3) pe_non (nomark _)) (pw_and1 (PW.pt (pw_or (pt_cmpR op_isN (pv 1) pe_non (nomark _)) (pw_or1 (pt_cmpR op_ltI (pv 3) (pe_ix ix_list (pv 0) (pv 1) (fun _ _ => rfl)) (nomark _)))))))) (pss_one (ps_set (i := 1) sc_next_of.nd rfl (Or.inl rfl) (pv 2))) pss_nil)))
      (pss_one (ps_ret (pv 1)))))
theorem cal_next_of (T : Txt K mg) : Cal P w K mg base 1 "next_of" ["offers"] (sp_next_of K) := T.f_next_of.cal sc_next_of (spOf_len rfl) (fun f cdv A outer s H E hr => pf_next_of T hr) rk_next_of
theorem pf_payments_of (T : Txt K mg) {f : Addr} {cdv : Value} {A : Around} {outer : List Env} {s : Shared} {H : Hp} {E : XK} (hr : Room 3 (A.deeper (PyProof.Rows.envOfC "payments_of" (defScope s_payments_of) s.heap.objs.size f cdv))) :
    PSs (cxOf CX0 P w K mg base ["purses", "wishes", "work", "level", "wanters"] "payments_of" (defScope s_payments_of) f cdv A outer s H E).nox (defBody s_payments_of) (rd_payments_of K) :=
  (pss_cons (ps_set (i := 4) sc_payments_of.nd rfl (Or.inr rfl) (pe_cal (cal_wanters_of T) (hr.mono (by decide)) (pa_cons (pv 1) (pa_cons (pv 2) pa_nil))))
      (pss_one (ps_ret (pe_comp (N := ["voter", "paid", "wanters"]) (mp := [none, none, some 4]) rfl ⟨rfl, by decide +kernel, by rfl, rfl, by rfl⟩ (pi_enum (by rfl) T.z_enumerate (pe_cal (cal_paid_at T) (hr.mono (by decide)) (pa_cons (pv 0) (pa_cons (pv 3) pa_nil)))) (fun _ _ _ _ _ _ => (pg_tup rfl (pgs_cons (pg_name (i := 0) (by show List.Nodup (["voter", "paid", "wanters"] : List Str); decide +kernel) rfl (Or.inl rfl)) (pgs_cons (pg_name (i := 1) (by show List.Nodup (["voter", "paid", "wanters"] : List Str); decide +kernel) rfl (Or.inl rfl)) pgs_nil)))) (fun _ _ _ _ _ _ => pifs_nil) (fun _ _ _ _ _ _ => (pe_ifExp (pt_cmpR op_in_seq (pv 0) (pv 2) rfl) (pv 1) pe_int))))))
theorem cal_payments_of (T : Txt K mg) : Cal P w K mg base 4 "payments_of" ["purses", "wishes", "work", "level"] (sp_payments_of K) := T.f_payments_of.cal sc_payments_of (spOf_len rfl) (fun f cdv A outer s H E hr => pf_payments_of T hr) rk_payments_of
theorem pf_works_of (T : Txt K mg) {f : Addr} {cdv : Value} {A : Around} {outer : List Env} {s : Shared} {H : Hp} {E : XK} (hr : Room 0 (A.deeper (PyProof.Rows.envOfC "works_of" (defScope s_works_of) s.heap.objs.size f cdv))) :
    PSs (cxOf CX0 P w K mg base ["steps"] "works_of" (defScope s_works_of) f cdv A outer s H E).nox (defBody s_works_of) (rd_works_of K) :=
  (pss_one (ps_ret (pe_callB call_sorted (by rfl) T.z_sorted PyProof.Rows.boot_sorted (pa_cons (pe_comp (N := ["work", "level", "paid"]) (mp := [none, none, none]) rfl ⟨rfl, by decide +kernel, by rfl, rfl, by rfl⟩ (pi_list (pv 0)) (fun _ _ _ _ _ _ => (pg_tup rfl (pgs_cons (pg_name (i := 0) (by show List.Nodup (["work", "level", "paid"] : List Str); decide +kernel) rfl (Or.inl rfl)) (pgs_cons (pg_name (i := 1) (by show List.Nodup (["work", "level", "paid"] : List Str); decide +kernel) rfl (Or.inl rfl)) (pgs_cons (pg_name (i := 2) (by show List.Nodup (["work", "level", "paid"] : List Str); decide +kernel) rfl (Or.inl rfl)) pgs_nil))))) (fun _ _ _ _ _ _ => pifs_nil) (fun _ _ _ _ _ _ => (pv 0))) pa_nil))))
theorem cal_works_of (T : Txt K mg) : Cal P w K mg base 1 "works_of" ["steps"] (sp_works_of K) := T.f_works_of.cal sc_works_of (spOf_len rfl) (fun f cdv A outer s H E hr => pf_works_of T hr) rk_works_of
theorem pf_paid_by (T : Txt K mg) {f : Addr} {cdv : Value} {A : Around} {outer : List Env} {s : Shared} {H : Hp} {E : XK} (hr : Room 0 (A.deeper (PyProof.Rows.envOfC "paid_by" (defScope s_paid_by) s.heap.objs.size f cdv))) :
    PSs (cxOf CX0 P w K mg base ["steps", "voter"] "paid_by" (defScope s_paid_by) f cdv A outer s H E).nox (defBody s_paid_by) (rd_paid_by K) :=
  (pss_one (ps_ret (pe_callB (call_sum rfl) (by rfl) T.z_sum PyProof.Rows.boot_sum (pa_cons (pe_comp (N := ["work", "level", "paid", "voter"]) (mp := [none, none, none, some 1]) rfl ⟨rfl, by decide +kernel, by rfl, rfl, by rfl⟩ (pi_list (pv 0)) (fun _ _ _ _ _ _ => (pg_tup rfl (pgs_cons (pg_name (i := 0) (by show List.Nodup (["work", "level", "paid", "voter"] : List Str); decide +kernel) rfl (Or.inl rfl)) (pgs_cons (pg_name (i := 1) (by show List.Nodup (["work", "level", "paid", "voter"] : List Str); decide +kernel) rfl (Or.inl rfl)) (pgs_cons (pg_name (i := 2) (by show List.Nodup (["work", "level", "paid", "voter"] : List Str); decide +kernel) rfl (Or.inl rfl)) pgs_nil))))) (fun _ _ _ _ _ _ => pifs_nil) (fun _ _ _ _ _ _ => (pe_ix ix_list (pv 2) (pv 3) (fun _ _ => rfl)))) pa_nil))))
theorem cal_paid_by (T : Txt K mg) : Cal P w K mg base 1 "paid_by" ["steps", "voter"] (sp_paid_by K) := T.f_paid_by.cal sc_paid_by (spOf_len rfl) (fun f cdv A outer s H E hr => pf_paid_by T hr) rk_paid_by
theorem pf_left_of (T : Txt K mg) {f : Addr} {cdv : Value} {A : Around} {outer : List Env} {s : Shared} {H : Hp} {E : XK} (hr : Room 1 (A.deeper (PyProof.Rows.envOfC "left_of" (defScope s_left_of) s.heap.objs.size f cdv))) :
    PSs (cxOf CX0 P w K mg base ["purses", "steps"] "left_of" (defScope s_left_of) f cdv A outer s H E).nox (defBody s_left_of) (rd_left_of K) :=
  (pss_one (ps_ret (pe_comp (N := ["voter", "purse", "steps"]) (mp := [none, none, some 1]) rfl ⟨rfl, by decide +kernel, by rfl, rfl, by rfl⟩ (pi_enum (by rfl) T.z_enumerate (pv 0)) (fun _ _ _ _ _ _ => (pg_tup rfl (pgs_cons (pg_name (i := 0) (by show List.Nodup (["voter", "purse", "steps"] : List Str); decide +kernel) rfl (Or.inl rfl)) (pgs_cons (pg_name (i := 1) (by show List.Nodup (["voter", "purse", "steps"] : List Str); decide +kernel) rfl (Or.inl rfl)) pgs_nil)))) (fun _ _ _ _ _ _ => pifs_nil) (fun _ _ _ _ _ _ => (pe_op op_subI (pv 1) (pe_cal (cal_paid_by T) (hr.mono (by decide)) (pa_cons (pv 2) (pa_cons (pv 0) pa_nil))))))))
theorem cal_left_of (T : Txt K mg) : Cal P w K mg base 2 "left_of" ["purses", "steps"] (sp_left_of K) := T.f_left_of.cal sc_left_of (spOf_len rfl) (fun f cdv A outer s H E hr => pf_left_of T hr) rk_left_of
theorem pf_step_behind (T : Txt K mg) {f : Addr} {cdv : Value} {A : Around} {outer : List Env} {s : Shared} {H : Hp} {E : XK} (hr : Room 5 (A.deeper (PyProof.Rows.envOfC "step_behind" (defScope s_step_behind) s.heap.objs.size f cdv))) :
    PSs (cxOf CX0 P w K mg base ["purses", "costs", "wishes", "steps", "left", "offers", "work", "level"] "step_behind" (defScope s_step_behind) f cdv A outer s H E).nox (defBody s_step_behind) (rd_step_behind K) :=
  (pss_cons (ps_set (i := 4) sc_step_behind.nd rfl (Or.inl rfl) (pe_cal (cal_left_of T) (hr.mono (by decide)) (pa_cons (pv 0) (pa_cons (pv 3) pa_nil))))
      (pss_cons (ps_set (i := 5) sc_step_behind.nd rfl (Or.inl rfl) (pe_cal (cal_offers_of T) (hr.mono (by decide)) (pa_cons (pv 4) (pa_cons (pv 1) (pa_cons (pv 2) (pa_cons (pe_cal (cal_works_of T) (hr.mono (by decide)) (pa_cons (pv 3) pa_nil)) pa_nil))))))
      (pss_cons (ps_set (i := 6) sc_step_behind.nd rfl (Or.inl rfl) (pe_cal (cal_next_of T) (hr.mono (by decide)) (pa_cons (pv 5) pa_nil)))
      (pss_cons (ps_if (pt_cmpR op_isN (pv 6) pe_non (nomark _)) (pss_one (ps_ret pe_non)) pss_nil)
      (pss_cons (ps_set (i := 7) sc_step_behind.nd rfl (Or.inl rfl) (pe_ix ix_list (pv 5) (pv 6) (fun _ _ => rfl)))
      (pss_one (ps_ret (pe_tup (pa_cons (pv 6) (pa_cons (pv 7) (pa_cons (pe_cal (cal_payments_of T) (hr.mono (by decide)) (pa_cons (pv 4) (pa_cons (pv 2) (pa_cons (pv 6) (pa_cons (pv 7) pa_nil))))) pa_nil)))))))))))
theorem cal_step_behind (T : Txt K mg) : Cal P w K mg base 6 "step_behind" ["purses", "costs", "wishes", "steps"] (sp_step_behind K) := T.f_step_behind.cal sc_step_behind (spOf_len rfl) (fun f cdv A outer s H E hr => pf_step_behind T hr) rk_step_behind
theorem pf_choose (T : Txt K mg) {f : Addr} {cdv : Value} {A : Around} {outer : List Env} {s : Shared} {H : Hp} {E : XK} (hr : Room 6 (A.deeper (PyProof.Rows.envOfC "choose" (defScope s_choose) s.heap.objs.size f cdv))) :
    PSs (cxOf CX0 P w K mg base ["purses", "costs", "wishes", "steps", "step"] "choose" (defScope s_choose) f cdv A outer s H E).nox (defBody s_choose) (rd_choose K) :=
  (pss_cons (ps_set (i := 3) sc_choose.nd rfl (Or.inl rfl) (pe_lst pa_nil))
      (pss_cons (ps_set (i := 4) sc_choose.nd rfl (Or.inl rfl) (pe_cal (cal_step_behind T) (hr.mono (by decide)) (pa_cons (pv 0) (pa_cons (pv 1) (pa_cons (pv 2) (pa_cons (pv 3) pa_nil))))))
      (pss_cons (ps_while PassesOwn.never (pt_cmpR op_notN (pv 4) pe_non (nomark _)) (pss_cons (ps_expr (pe_bm PySem.F.plainAttrs_list PySem.F.slot_list_append PySem.F.type_list_append mt_append (pv 3) (pa_cons (pv 4) pa_nil)))
      (pss_one (ps_set (i := 4) sc_choose.nd rfl (Or.inl rfl) (pe_cal (cal_step_behind T) (hr.mono (by decide)) (pa_cons (pv 0) (pa_cons (pv 1) (pa_cons (pv 2) (pa_cons (pv 3) pa_nil)))))))))
      (pss_one (ps_ret (pv 3))))))
theorem cal_choose (T : Txt K mg) : Cal P w K mg base 7 "choose" ["purses", "costs", "wishes"] (sp_choose K) := T.f_choose.cal sc_choose (spOf_len rfl) (fun f cdv A outer s H E hr => pf_choose T hr) rk_choose
theorem pf_coins_over (T : Txt K mg) {f : Addr} {cdv : Value} {A : Around} {outer : List Env} {s : Shared} {H : Hp} {E : XK} (hr : Room 1 (A.deeper (PyProof.Rows.envOfC "coins_over" (defScope s_coins_over) s.heap.objs.size f cdv))) :
    PSs (cxOf CX0 P w K mg base ["coins", "costs", "works"] "coins_over" (defScope s_coins_over) f cdv A outer s H E).nox (defBody s_coins_over) (rd_coins_over K) :=
  (pss_one (ps_ret (pe_op op_subI (pv 0) (pe_cal (cal_cost_of T) (hr.mono (by decide)) (pa_cons (pv 1) (pa_cons (pv 2) pa_nil))))))
theorem cal_coins_over (T : Txt K mg) : Cal P w K mg base 2 "coins_over" ["coins", "costs", "works"] (sp_coins_over K) := T.f_coins_over.cal sc_coins_over (spOf_len rfl) (fun f cdv A outer s H E hr => pf_coins_over T hr) rk_coins_over
theorem pf_further_works (T : Txt K mg) {f : Addr} {cdv : Value} {A : Around} {outer : List Env} {s : Shared} {H : Hp} {E : XK} (hr : Room 3 (A.deeper (PyProof.Rows.envOfC "further_works" (defScope s_further_works) s.heap.objs.size f cdv))) :
    PSs (cxOf CX0 P w K mg base ["costs", "wishes", "works"] "further_works" (defScope s_further_works) f cdv A outer s H E).nox (defBody s_further_works) (rd_further_works K) :=
  (pss_one (ps_ret (pe_comp (N := ["work", "works", "wishes"]) (mp := [none, some 2, some 1]) rfl ⟨rfl, by decide +kernel, by rfl, rfl, by rfl⟩ (pi_range1 (by rfl) T.z_range (pa_cons (pe_callB call_len_seq (by rfl) T.z_len PySem.boot_len (pa_cons (pv 0) pa_nil)) pa_nil)) (fun _ _ _ _ _ _ => (pg_name (i := 0) (by show List.Nodup (["work", "works", "wishes"] : List Str); decide +kernel) rfl (Or.inl rfl))) (fun _ _ _ _ _ _ => (pifs_one (PW.pt (pw_and (pt_cmpR op_notIn_seq (pv 0) (pv 1) rfl) (pw_and1 (pt_lst (pe_cal (cal_wanters_of T) (hr.mono (by decide)) (pa_cons (pv 2) (pa_cons (pv 0) pa_nil))))))))) (fun _ _ _ _ _ _ => (pv 0)))))
theorem cal_further_works (T : Txt K mg) : Cal P w K mg base 4 "further_works" ["costs", "wishes", "works"] (sp_further_works K) := T.f_further_works.cal sc_further_works (spOf_len rfl) (fun f cdv A outer s H E hr => pf_further_works T hr) rk_further_works
theorem pf_rank_of (T : Txt K mg) {f : Addr} {cdv : Value} {A : Around} {outer : List Env} {s : Shared} {H : Hp} {E : XK} (hr : Room 3 (A.deeper (PyProof.Rows.envOfC "rank_of" (defScope s_rank_of) s.heap.objs.size f cdv))) :
    PSs (cxOf CX0 P w K mg base ["costs", "wishes", "work"] "rank_of" (defScope s_rank_of) f cdv A outer s H E).nox (defBody s_rank_of) (rd_rank_of K) :=
  (pss_one (ps_ret (pe_tup (pa_cons (pe_un un_neg (pe_callB call_len_seq (by rfl) T.z_len PySem.boot_len (pa_cons (pe_cal (cal_wanters_of T) (hr.mono (by decide)) (pa_cons (pv 1) (pa_cons (pv 2) pa_nil))) pa_nil))) (pa_cons (pe_ix ix_list (pv 0) (pv 2) (fun _ _ => rfl)) (pa_cons (pv 2) pa_nil))))))
theorem cal_rank_of (T : Txt K mg) : Cal P w K mg base 4 "rank_of" ["costs", "wishes", "work"] (sp_rank_of K) := T.f_rank_of.cal sc_rank_of (spOf_len rfl) (fun f cdv A outer s H E hr => pf_rank_of T hr) rk_rank_of
theorem pf_ranked_works (T : Txt K mg) {f : Addr} {cdv : Value} {A : Around} {outer : List Env} {s : Shared} {H : Hp} {E : XK} (hr : Room 4 (A.deeper (PyProof.Rows.envOfC "ranked_works" (defScope s_ranked_works) s.heap.objs.size f cdv))) :
    PSs (cxOf CX0 P w K mg base ["costs", "wishes", "works", "ranks"] "ranked_works" (defScope s_ranked_works) f cdv A outer s H E).nox (defBody s_ranked_works) (rd_ranked_works K) :=
  (pss_cons (ps_setC (i := 3) (N := ["work", "costs", "wishes"]) (mp := [none, some 0, some 1]) sc_ranked_works.nd rfl (Or.inl rfl) rfl ⟨rfl, by decide +kernel, by rfl, rfl, by rfl⟩ (pi_list (pe_cal (cal_further_works T) (hr.mono (by decide)) (pa_cons (pv 0) (pa_cons (pv 1) (pa_cons (pv 2) pa_nil))))) (fun _ _ _ _ _ _ => (pg_name (i := 0) (by show List.Nodup (["work", "costs", "wishes"] : List Str); decide +kernel) rfl (Or.inl rfl))) (fun _ _ _ _ _ _ => pifs_nil) (fun _ _ _ _ _ _ => (pe_cal (cal_rank_of T) (hr.mono (by decide)) (pa_cons (pv 1) (pa_cons (pv 2) (pa_cons (pv 0) pa_nil))))) (by with_unfolding_all rfl))
      (pss_one (ps_ret (pe_comp (N := ["turned", "cost", "work"]) (mp := [none, none, none]) rfl ⟨rfl, by decide +kernel, by rfl, rfl, by rfl⟩ (pi_list (pe_callB call_sortedT (by rfl) T.z_sorted PyProof.Rows.boot_sorted (pa_cons (pv 3) pa_nil))) (fun _ _ _ _ _ _ => (pg_tup rfl (pgs_cons (pg_name (i := 0) (by show List.Nodup (["turned", "cost", "work"] : List Str); decide +kernel) rfl (Or.inl rfl)) (pgs_cons (pg_name (i := 1) (by show List.Nodup (["turned", "cost", "work"] : List Str); decide +kernel) rfl (Or.inl rfl)) (pgs_cons (pg_name (i := 2) (by show List.Nodup (["turned", "cost", "work"] : List Str); decide +kernel) rfl (Or.inl rfl)) pgs_nil))))) (fun _ _ _ _ _ _ => pifs_nil) (fun _ _ _ _ _ _ => (pv 2))))))
theorem cal_ranked_works (T : Txt K mg) : Cal P w K mg base 5 "ranked_works" ["costs", "wishes", "works"] (sp_ranked_works K) := T.f_ranked_works.cal sc_ranked_works (spOf_len rfl) (fun f cdv A outer s H E hr => pf_ranked_works T hr) rk_ranked_works
theorem pf_fill (T : Txt K mg) {f : Addr} {cdv : Value} {A : Around} {outer : List Env} {s : Shared} {H : Hp} {E : XK} (hr : Room 5 (A.deeper (PyProof.Rows.envOfC "fill" (defScope s_fill) s.heap.objs.size f cdv))) :
    PSs (cxOf (CXx P w base) P w K mg base ["coins", "costs", "wishes", "works", "over", "filled", "work"] "fill" (defScope s_fill) f cdv A outer s H E) (defBody s_fill) (rd_fill K E) :=
  (pss_cons (PS.nox (ps_set (i := 4) sc_fill.nd rfl (Or.inl rfl) (pe_cal (cal_coins_over T) (hr.mono (by decide)) (pa_cons (pv 0) (pa_cons (pv 1) (pa_cons (pv 3) pa_nil))))))
      (pss_cons (ps_if (pt_cmpR op_ltI (pv 4) pe_int (nomark _)) (pss_one (ps_raiseK T.e_TooMuch (pa_cons pe_str pa_nil))) pss_nil)
      (pss_cons (PS.nox (ps_set (i := 5) sc_fill.nd rfl (Or.inl rfl) (pe_lst pa_nil)))
      (pss_cons (PS.nox (ps_for PassesOwn.never rfl (pi_list (pe_cal (cal_ranked_works T) (hr.mono (by decide)) (pa_cons (pv 1) (pa_cons (pv 2) (pa_cons (pv 3) pa_nil))))) (pg_name (i := 6) sc_fill.nd rfl (Or.inl rfl)) (pss_one (PS.nox (ps_if (pt_cmpR op_leI (pe_ix ix_list (pv 1) (pv 6) (fun _ _ => rfl)) (pv 4) (nomark _)) (pss_cons (PS.nox (ps_expr (pe_bm PySem.F.plainAttrs_list PySem.F.slot_list_append PySem.F.type_list_append mt_append (pv 5) (pa_cons (pv 6) pa_nil))))
      (pss_one (PS.nox (ps_aug (i := 4) sc_fill.nd rfl (Or.inl rfl) (pe_ix ix_list (pv 1) (pv 6) (fun _ _ => rfl)) (ip_of iop_subI))))) pss_nil)))))
      (pss_one (PS.nox (ps_ret (pv 5))))))))
theorem cal_fill (T : Txt K mg) : CalX P w K mg base 6 "fill" ["coins", "costs", "wishes", "works"] (sp_fill K) := T.f_fill.calX sc_fill (fun _ _ _ _ h => h.1) (fun f cdv A outer s H E hr => pf_fill T hr) rk_fill
theorem pf_plan_of (T : Txt K mg) {f : Addr} {cdv : Value} {A : Around} {outer : List Env} {s : Shared} {H : Hp} {E : XK} (hr : Room 7 (A.deeper (PyProof.Rows.envOfC "plan_of" (defScope s_plan_of) s.heap.objs.size f cdv))) :
    PSs (cxOf CX0 P w K mg base ["coins", "costs", "wishes", "steps", "chosen", "filled"] "plan_of" (defScope s_plan_of) f cdv A outer s H E).nox (defBody s_plan_of) (rd_plan_of K) :=
  (pss_cons (ps_set (i := 3) sc_plan_of.nd rfl (Or.inl rfl) (pe_cal (cal_choose T) (hr.mono (by decide)) (pa_cons (pe_cal (cal_purses_of T) (hr.mono (by decide)) (pa_cons (pv 0) (pa_cons (pv 1) (pa_cons (pv 2) pa_nil)))) (pa_cons (pv 1) (pa_cons (pv 2) pa_nil)))))
      (pss_cons (ps_set (i := 4) sc_plan_of.nd rfl (Or.inl rfl) (pe_cal (cal_works_of T) (hr.mono (by decide)) (pa_cons (pv 3) pa_nil)))
      (pss_cons (ps_set (i := 5) sc_plan_of.nd rfl (Or.inl rfl) (pe_calE (cal_fill T) (hr.mono (by decide)) (pa_cons (pv 0) (pa_cons (pv 1) (pa_cons (pv 2) (pa_cons (pv 4) pa_nil))))))
      (pss_one (ps_ret (pe_tup (pa_cons (pv 3) (pa_cons (pv 5) (pa_cons (pe_cal (cal_coins_over T) (hr.mono (by decide)) (pa_cons (pv 0) (pa_cons (pv 1) (pa_cons (pe_op op_cat (pv 4) (pv 5)) pa_nil)))) pa_nil)))))))))
theorem cal_plan_of (T : Txt K mg) : Cal P w K mg base 8 "plan_of" ["coins", "costs", "wishes"] (sp_plan_of K) := T.f_plan_of.cal sc_plan_of (spOf_len rfl) (fun f cdv A outer s H E hr => pf_plan_of T hr) rk_plan_of
theorem pf__law_cell_at (T : Txt K mg) {f : Addr} {cdv : Value} {A : Around} {outer : List Env} {s : Shared} {H : Hp} {E : XK} (hr : Room 0 (A.deeper (PyProof.Rows.envOfC "_law_cell_at" (defScope s__law_cell_at) s.heap.objs.size f cdv))) :
    PSs (cxOf CX0 P w K mg base ["script", "k"] "_law_cell_at" (defScope s__law_cell_at) f cdv A outer s H E).nox (defBody s__law_cell_at) (rd__law_cell_at K) :=
  (pss_cons (ps_if (pt_cmpR op_ltI (pv 1) (pe_callB call_len_seq (by rfl) T.z_len PySem.boot_len (pa_cons (pv 0) pa_nil)) (nomark _)) (pss_one (ps_ret (pe_ix ix_list (pv 0) (pv 1) (fun _ _ => rfl)))) pss_nil)
      (pss_one (ps_ret pe_int)))
theorem cal__law_cell_at (T : Txt K mg) : Cal P w K mg base 1 "_law_cell_at" ["script", "k"] (sp__law_cell_at K) := T.f__law_cell_at.cal sc__law_cell_at (spOf_len rfl) (fun f cdv A outer s H E hr => pf__law_cell_at T hr) rk__law_cell_at
theorem pf__law_whole (T : Txt K mg) {f : Addr} {cdv : Value} {A : Around} {outer : List Env} {s : Shared} {H : Hp} {E : XK} (hr : Room 0 (A.deeper (PyProof.Rows.envOfC "_law_whole" (defScope s__law_whole) s.heap.objs.size f cdv))) :
    PSs (cxOf CX0 P w K mg base ["found"] "_law_whole" (defScope s__law_whole) f cdv A outer s H E).nox (defBody s__law_whole) (rd__law_whole K) :=
  (pss_one (ps_ret (pe_and (pe_callB call_isinst (by rfl) T.z_isinstance PyProof.Rows.boot_isinstance (pa_cons (pv 0) (pa_cons (pe_bltn (by rfl) T.z_int PyProof.Rows.boot_int rfl) pa_nil))) (pe_one (pe_not (pe_callB call_isinst (by rfl) T.z_isinstance PyProof.Rows.boot_isinstance (pa_cons (pv 0) (pa_cons (pe_bltn (by rfl) T.z_bool PyProof.Rows.boot_bool rfl) pa_nil))))))))
theorem cal__law_whole (T : Txt K mg) : Cal P w K mg base 1 "_law_whole" ["found"] (sp__law_whole K) := T.f__law_whole.cal sc__law_whole (spOf_len rfl) (fun f cdv A outer s H E hr => pf__law_whole T hr) rk__law_whole
theorem pf__law_draw (T : Txt K mg) {f : Addr} {cdv : Value} {A : Around} {outer : List Env} {s : Shared} {H : Hp} {E : XK} (hr : Room 0 (A.deeper (PyProof.Rows.envOfC "_law_draw" (defScope s__law_draw) s.heap.objs.size f cdv))) :
    PSs (cxOf CX0 P w K mg base ["cell", "place", "spot"] "_law_draw" (defScope s__law_draw) f cdv A outer s H E).nox (defBody s__law_draw) (rd__law_draw K) :=
  (pss_cons (ps_set (i := 2) sc__law_draw.nd rfl (Or.inl rfl) (pe_op op_addI (pe_op op_addI (pe_op op_modI (pv 0) pe_int) pe_int) (pe_op op_mulI pe_int (pv 1))))
      (pss_one (ps_ret (pe_op op_modI (pe_op op_mulI (pe_op op_mulI (pe_op op_mulI (pv 2) (pv 2)) (pv 2)) (pe_op op_addI (pe_op op_mulI pe_int (pv 1)) pe_int)) pe_int))))
theorem cal__law_draw (T : Txt K mg) : Cal P w K mg base 1 "_law_draw" ["cell", "place"] (sp__law_draw K) := T.f__law_draw.cal sc__law_draw (spOf_len rfl) (fun f cdv A outer s H E hr => pf__law_draw T hr) rk__law_draw
theorem pf__law_draws (T : Txt K mg) {f : Addr} {cdv : Value} {A : Around} {outer : List Env} {s : Shared} {H : Hp} {E : XK} (hr : Room 1 (A.deeper (PyProof.Rows.envOfC "_law_draws" (defScope s__law_draws) s.heap.objs.size f cdv))) :
    PSs (cxOf CX0 P w K mg base ["cell", "many"] "_law_draws" (defScope s__law_draws) f cdv A outer s H E).nox (defBody s__law_draws) (rd__law_draws K) :=
  (pss_one (ps_ret (pe_comp (N := ["place", "cell"]) (mp := [none, some 0]) rfl ⟨rfl, by decide +kernel, by rfl, rfl, by rfl⟩ (pi_range1 (by rfl) T.z_range (pa_cons (pv 1) pa_nil)) (fun _ _ _ _ _ _ => (pg_name (i := 0) (by show List.Nodup (["place", "cell"] : List Str); decide +kernel) rfl (Or.inl rfl))) (fun _ _ _ _ _ _ => pifs_nil) (fun _ _ _ _ _ _ => (pe_cal (cal__law_draw T) (hr.mono (by decide)) (pa_cons (pv 1) (pa_cons (pv 0) pa_nil)))))))
theorem cal__law_draws (T : Txt K mg) : Cal P w K mg base 2 "_law_draws" ["cell", "many"] (sp__law_draws K) := T.f__law_draws.cal sc__law_draws (spOf_len rfl) (fun f cdv A outer s H E hr => pf__law_draws T hr) rk__law_draws
theorem pf__law_cost (T : Txt K mg) {f : Addr} {cdv : Value} {A : Around} {outer : List Env} {s : Shared} {H : Hp} {E : XK} (hr : Room 0 (A.deeper (PyProof.Rows.envOfC "_law_cost" (defScope s__law_cost) s.heap.objs.size f cdv))) :
    PSs (cxOf CX0 P w K mg base ["number", "kind", "usual"] "_law_cost" (defScope s__law_cost) f cdv A outer s H E).nox (defBody s__law_cost) (rd__law_cost K) :=
  (pss_one (ps_ret (pe_ix ix_list (pe_lst (pa_cons (pe_op op_addI pe_int (pe_op op_modI (pv 0) pe_int)) (pa_cons (pe_op op_addI pe_int (pe_op op_modI (pe_op op_mulI (pv 0) pe_int) (pe_op op_powI pe_int pe_int))) (pa_cons (pv 2) pa_nil)))) (pe_op op_modI (pv 1) pe_int) (fun _ _ => rfl))))
theorem cal__law_cost (T : Txt K mg) : Cal P w K mg base 1 "_law_cost" ["number", "kind", "usual"] (sp__law_cost K) := T.f__law_cost.cal sc__law_cost (spOf_len rfl) (fun f cdv A outer s H E hr => pf__law_cost T hr) rk__law_cost
theorem pf__law_wishes (T : Txt K mg) {f : Addr} {cdv : Value} {A : Around} {outer : List Env} {s : Shared} {H : Hp} {E : XK} (hr : Room 2 (A.deeper (PyProof.Rows.envOfC "_law_wishes" (defScope s__law_wishes) s.heap.objs.size f cdv))) :
    PSs (cxOf CX0 P w K mg base ["cells", "many", "usual", "found", "cell", "ys", "wanted"] "_law_wishes" (defScope s__law_wishes) f cdv A outer s H E).nox (defBody s__law_wishes) (rd__law_wishes K) :=
  (pss_cons (ps_set (i := 3) sc__law_wishes.nd rfl (Or.inl rfl) (pe_lst pa_nil))
      (pss_cons (ps_for PassesOwn.never rfl (pi_list (pv 0)) (pg_name (i := 4) sc__law_wishes.nd rfl (Or.inl rfl)) (pss_cons (ps_set (i := 5) sc__law_wishes.nd rfl (Or.inr rfl) (pe_cal (cal__law_draws T) (hr.mono (by decide)) (pa_cons (pv 4) (pa_cons pe_int pa_nil))))
      (pss_cons (ps_setC (i := 6) (N := ["k", "ys"]) (mp := [none, some 5]) sc__law_wishes.nd rfl (Or.inl rfl) rfl ⟨rfl, by decide +kernel, by rfl, rfl, by rfl⟩ (pi_range1 (by rfl) T.z_range (pa_cons (pv 1) pa_nil)) (fun _ _ _ _ _ _ => (pg_name (i := 0) (by show List.Nodup (["k", "ys"] : List Str); decide +kernel) rfl (Or.inl rfl))) (fun _ _ _ _ _ _ => (pifs_one (pt_cmpR op_gtI (pe_op op_modI (pe_ix ix_list (pv 1) (pv 0) (fun _ _ => rfl)) pe_int) pe_int (nomark _)))) (fun _ _ _ _ _ _ => (pv 0)) (by with_unfolding_all rfl))
      (pss_one (ps_expr (pe_bm PySem.F.plainAttrs_list PySem.F.slot_list_append PySem.F.type_list_append mt_append (pv 3) (pa_cons (pe_ix ix_list (pe_lst (pa_cons (pe_listRange rfl (by rfl) T.z_list (by rfl) T.z_range (pa_cons (pv 1) pa_nil)) (pa_cons (pe_callTy call_list_of (by rfl) T.z_list PyProof.Rows.boot_list (pa_cons (pv 2) pa_nil)) (pa_cons (pv 6) (pa_cons (pe_slice sl_list (pv 6) po_none (po_some pe_int)) pa_nil))))) (pe_op op_modI (pe_ix ix_list (pv 5) pe_int (fun _ _ => rfl)) pe_int) (fun _ _ => rfl)) pa_nil)))))))
      (pss_one (ps_ret (pv 3)))))
theorem cal__law_wishes (T : Txt K mg) : Cal P w K mg base 3 "_law_wishes" ["cells", "many", "usual"] (sp__law_wishes K) := T.f__law_wishes.cal sc__law_wishes (spOf_len rfl) (fun f cdv A outer s H E hr => pf__law_wishes T hr) rk__law_wishes
theorem pf__law_town (T : Txt K mg) {f : Addr} {cdv : Value} {A : Around} {outer : List Env} {s : Shared} {H : Hp} {E : XK} (hr : Room 3 (A.deeper (PyProof.Rows.envOfC "_law_town" (defScope s__law_town) s.heap.objs.size f cdv))) :
    PSs (cxOf CX0 P w K mg base ["script", "xs", "many", "costs", "usual", "wishes", "zs", "rich", "coins"] "_law_town" (defScope s__law_town) f cdv A outer s H E).nox (defBody s__law_town) (rd__law_town K) :=
  (pss_cons (ps_set (i := 1) sc__law_town.nd rfl (Or.inr rfl) (pe_cal (cal__law_draws T) (hr.mono (by decide)) (pa_cons (pe_cal (cal__law_cell_at T) (hr.mono (by decide)) (pa_cons (pv 0) (pa_cons pe_int pa_nil))) (pa_cons pe_int pa_nil))))
      (pss_cons (ps_set (i := 2) sc__law_town.nd rfl (Or.inl rfl) (pe_ix ix_list (pe_lst (pa_cons (pe_op op_modI (pe_ix ix_list (pv 1) pe_int (fun _ _ => rfl)) pe_int) (pa_cons (pe_op op_addI pe_int (pe_op op_modI (pe_op op_divI (pe_ix ix_list (pv 1) pe_int (fun _ _ => rfl)) pe_int) pe_int)) pa_nil))) (pe_callTy call_intI (by rfl) T.z_int PyProof.Rows.boot_int (pa_cons (pe_cmpR op_eq (pe_op op_modI (pe_ix ix_list (pv 1) pe_int (fun _ _ => rfl)) pe_int) pe_int (nomark _)) pa_nil)) (fun _ _ => rfl)))
      (pss_cons (ps_setC (i := 3) (N := ["k", "xs"]) (mp := [none, some 1]) sc__law_town.nd rfl (Or.inl rfl) rfl ⟨rfl, by decide +kernel, by rfl, rfl, by rfl⟩ (pi_range1 (by rfl) T.z_range (pa_cons (pv 2) pa_nil)) (fun _ _ _ _ _ _ => (pg_name (i := 0) (by show List.Nodup (["k", "xs"] : List Str); decide +kernel) rfl (Or.inl rfl))) (fun _ _ _ _ _ _ => pifs_nil) (fun _ _ _ _ _ _ => (pe_cal (cal__law_cost T) (hr.mono (by decide)) (pa_cons (pe_ix ix_list (pv 1) (pe_op op_addI pe_int (pv 0)) (fun _ _ => rfl)) (pa_cons (pe_op op_divI (pe_ix ix_list (pv 1) pe_int (fun _ _ => rfl)) (pe_op op_addI (pv 0) pe_int)) (pa_cons (pe_op op_addI pe_int (pe_op op_modI (pe_ix ix_list (pv 1) pe_int (fun _ _ => rfl)) pe_int)) pa_nil))))) (by with_unfolding_all rfl))
      (pss_cons (ps_setC (i := 4) (N := ["k", "xs"]) (mp := [none, some 1]) sc__law_town.nd rfl (Or.inl rfl) rfl ⟨rfl, by decide +kernel, by rfl, rfl, by rfl⟩ (pi_range1 (by rfl) T.z_range (pa_cons (pv 2) pa_nil)) (fun _ _ _ _ _ _ => (pg_name (i := 0) (by show List.Nodup (["k", "xs"] : List Str); decide +kernel) rfl (Or.inl rfl))) (fun _ _ _ _ _ _ => (pifs_one (pt_cmpR op_gtI (pe_op op_modI (pe_op op_divI (pe_ix ix_list (pv 1) pe_int (fun _ _ => rfl)) (pe_op op_addI (pv 0) pe_int)) pe_int) pe_int (nomark _)))) (fun _ _ _ _ _ _ => (pv 0)) (by with_unfolding_all rfl))
      (pss_cons (ps_set (i := 5) sc__law_town.nd rfl (Or.inl rfl) (pe_cal (cal__law_wishes T) (hr.mono (by decide)) (pa_cons (pe_op op_cat (pe_slice sl_list (pv 0) (po_some pe_int) (po_some pe_int)) (pe_lst (pa_cons (pe_cal (cal__law_cell_at T) (hr.mono (by decide)) (pa_cons (pv 0) (pa_cons pe_int pa_nil))) pa_nil))) (pa_cons (pv 2) (pa_cons (pv 4) pa_nil)))))
      (pss_cons (ps_set (i := 6) sc__law_town.nd rfl (Or.inl rfl) (pe_cal (cal__law_draws T) (hr.mono (by decide)) (pa_cons (pe_cal (cal__law_cell_at T) (hr.mono (by decide)) (pa_cons (pv 0) (pa_cons pe_int pa_nil))) (pa_cons pe_int pa_nil))))
      (pss_cons (ps_set (i := 7) sc__law_town.nd rfl (Or.inl rfl) (pe_lst (pa_cons pe_int (pa_cons (pe_op op_addI pe_int (pe_op op_modI (pe_ix ix_list (pv 6) pe_int (fun _ _ => rfl)) pe_int)) (pa_cons (pe_op op_divI (pe_callB (call_sum rfl) (by rfl) T.z_sum PyProof.Rows.boot_sum (pa_cons (pv 3) pa_nil)) pe_int) (pa_cons (pe_callB (call_sum rfl) (by rfl) T.z_sum PyProof.Rows.boot_sum (pa_cons (pv 3) pa_nil)) (pa_cons (pe_op op_modI (pe_op op_mulI (pe_ix ix_list (pv 6) pe_int (fun _ _ => rfl)) (pe_ix ix_list (pv 6) pe_int (fun _ _ => rfl))) (pe_op op_addI (pe_callB (call_sum rfl) (by rfl) T.z_sum PyProof.Rows.boot_sum (pa_cons (pv 3) pa_nil)) pe_int)) (pa_cons (pe_op op_addI (pe_callB (call_sum rfl) (by rfl) T.z_sum PyProof.Rows.boot_sum (pa_cons (pv 3) pa_nil)) (pe_ix ix_list (pv 6) pe_int (fun _ _ => rfl))) pa_nil))))))))
      (pss_cons (ps_set (i := 8) sc__law_town.nd rfl (Or.inl rfl) (pe_ix ix_list (pv 7) (pe_op op_modI (pe_ix ix_list (pv 6) pe_int (fun _ _ => rfl)) pe_int) (fun _ _ => rfl)))
      (pss_one (ps_ret (pe_tup (pa_cons (pe_callB (call_min2 rfl) (by rfl) T.z_min PyProof.Rows.boot_min (pa_cons (pv 8) (pa_cons (pe_op op_powI pe_int pe_int) pa_nil))) (pa_cons (pv 3) (pa_cons (pv 5) pa_nil))))))))))))))
theorem cal__law_town (T : Txt K mg) : Cal P w K mg base 4 "_law_town" ["script"] (sp__law_town K) := T.f__law_town.cal sc__law_town (spOf_len rfl) (fun f cdv A outer s H E hr => pf__law_town T hr) rk__law_town
theorem pf__law_sets (T : Txt K mg) {f : Addr} {cdv : Value} {A : Around} {outer : List Env} {s : Shared} {H : Hp} {E : XK} (hr : Room 0 (A.deeper (PyProof.Rows.envOfC "_law_sets" (defScope s__law_sets) s.heap.objs.size f cdv))) :
    PSs (cxOf CX0 P w K mg base ["many", "found", "k"] "_law_sets" (defScope s__law_sets) f cdv A outer s H E).nox (defBody s__law_sets) (rd__law_sets K) :=
  (pss_cons (ps_set (i := 1) sc__law_sets.nd rfl (Or.inl rfl) (pe_lst (pa_cons (pe_lst pa_nil) pa_nil)))
      (pss_cons (ps_for PassesOwn.never rfl (pi_range1 (by rfl) T.z_range (pa_cons (pv 0) pa_nil)) (pg_name (i := 2) sc__law_sets.nd rfl (Or.inr rfl)) (pss_one (ps_set (i := 1) sc__law_sets.nd rfl (Or.inl rfl) (pe_op op_cat (pv 1) (pe_comp (N := ["one", "k"]) (mp := [none, some 2]) rfl ⟨rfl, by decide +kernel, by rfl, rfl, by rfl⟩ (pi_list (pv 1)) (fun _ _ _ _ _ _ => (pg_name (i := 0) (by show List.Nodup (["one", "k"] : List Str); decide +kernel) rfl (Or.inl rfl))) (fun _ _ _ _ _ _ => pifs_nil) (fun _ _ _ _ _ _ => (pe_op op_cat (pv 0) (pe_lst (pa_cons (pv 1) pa_nil)))))))))
      (pss_one (ps_ret (pe_slice sl_list (pv 1) (po_some pe_int) po_none)))))
theorem cal__law_sets (T : Txt K mg) : Cal P w K mg base 1 "_law_sets" ["many"] (sp__law_sets K) := T.f__law_sets.cal sc__law_sets (spOf_len rfl) (fun f cdv A outer s H E hr => pf__law_sets T hr) rk__law_sets
theorem pf__law_wrongs (T : Txt K mg) {f : Addr} {cdv : Value} {A : Around} {outer : List Env} {s : Shared} {H : Hp} {E : XK} (hr : Room 0 (A.deeper (PyProof.Rows.envOfC "_law_wrongs" (defScope s__law_wrongs) s.heap.objs.size f cdv))) :
    PSs (cxOf CX0 P w K mg base ["coins", "costs", "wishes", "asked", "done", "group", "wanted"] "_law_wrongs" (defScope s__law_wrongs) f cdv A outer s H E).nox (defBody s__law_wrongs) (rd__law_wrongs K) :=
  (pss_cons (ps_set (i := 5) sc__law_wrongs.nd rfl (Or.inl rfl) pe_int)
      (pss_cons (ps_for PassesOwn.never rfl (pi_list (pv 2)) (pg_name (i := 6) sc__law_wrongs.nd rfl (Or.inr rfl)) (pss_one (ps_if (pt_cmpR (op_eq_ints hr.units) (pe_comp (N := ["k", "wanted"]) (mp := [none, some 6]) rfl ⟨rfl, by decide +kernel, by rfl, rfl, by rfl⟩ (pi_list (pv 3)) (fun _ _ _ _ _ _ => (pg_name (i := 0) (by show List.Nodup (["k", "wanted"] : List Str); decide +kernel) rfl (Or.inl rfl))) (fun _ _ _ _ _ _ => (pifs_one (pt_cmpR op_notIn_seq (pv 0) (pv 1) rfl))) (fun _ _ _ _ _ _ => (pv 0))) (pe_lst pa_nil) (nomark _)) (pss_one (ps_if (pt_cmpR op_ltI (pe_callB call_len_seq (by rfl) T.z_len PySem.boot_len (pa_cons (pe_comp (N := ["k", "done"]) (mp := [none, some 4]) rfl ⟨rfl, by decide +kernel, by rfl, rfl, by rfl⟩ (pi_list (pv 6)) (fun _ _ _ _ _ _ => (pg_name (i := 0) (by show List.Nodup (["k", "done"] : List Str); decide +kernel) rfl (Or.inl rfl))) (fun _ _ _ _ _ _ => (pifs_one (pt_cmpR op_in_seq (pv 0) (pv 1) rfl))) (fun _ _ _ _ _ _ => (pv 0))) pa_nil)) (pe_callB call_len_seq (by rfl) T.z_len PySem.boot_len (pa_cons (pv 3) pa_nil)) (nomark _)) (pss_one (ps_set (i := 5) sc__law_wrongs.nd rfl (Or.inl rfl) (pe_op op_addI (pv 5) pe_int))) pss_nil)) pss_nil)))
      (pss_one (ps_ret (pe_and (pe_cmpR op_gtI (pv 5) pe_int (nomark _)) (pe_one (pe_cmpR op_geI (pe_op op_mulI (pv 0) (pv 5)) (pe_op op_mulI (pe_callB (call_sum rfl) (by rfl) T.z_sum PyProof.Rows.boot_sum (pa_cons (pe_comp (N := ["k", "costs"]) (mp := [none, some 1]) rfl ⟨rfl, by decide +kernel, by rfl, rfl, by rfl⟩ (pi_list (pv 3)) (fun _ _ _ _ _ _ => (pg_name (i := 0) (by show List.Nodup (["k", "costs"] : List Str); decide +kernel) rfl (Or.inl rfl))) (fun _ _ _ _ _ _ => pifs_nil) (fun _ _ _ _ _ _ => (pe_ix ix_list (pv 1) (pv 0) (fun _ _ => rfl)))) pa_nil)) (pe_callB call_len_seq (by rfl) T.z_len PySem.boot_len (pa_cons (pv 2) pa_nil))) (nomark _))))))))
theorem cal__law_wrongs (T : Txt K mg) : Cal P w K mg base 1 "_law_wrongs" ["coins", "costs", "wishes", "asked", "done"] (sp__law_wrongs K) := T.f__law_wrongs.cal sc__law_wrongs (spOf_len rfl) (fun f cdv A outer s H E hr => pf__law_wrongs T hr) rk__law_wrongs
theorem pf__law_paid (T : Txt K mg) {f : Addr} {cdv : Value} {A : Around} {outer : List Env} {s : Shared} {H : Hp} {E : XK} (hr : Room 3 (A.deeper (PyProof.Rows.envOfC "_law_paid" (defScope s__law_paid) s.heap.objs.size f cdv))) :
    PSs (cxOf CX0 P w K mg base ["coins", "costs", "wishes", "steps", "grain", "spent", "work", "level", "paid"] "_law_paid" (defScope s__law_paid) f cdv A outer s H E).nox (defBody s__law_paid) (rd__law_paid K) :=
  (pss_cons (ps_set (i := 4) sc__law_paid.nd rfl (Or.inr rfl) (pe_cal (cal_grains_of T) (hr.mono (by decide)) (pa_cons (pe_callB call_len_seq (by rfl) T.z_len PySem.boot_len (pa_cons (pv 2) pa_nil)) (pa_cons (pe_callB call_len_seq (by rfl) T.z_len PySem.boot_len (pa_cons (pv 1) pa_nil)) pa_nil))))
      (pss_cons (ps_setC (i := 5) (N := ["wanted"]) (mp := [none]) sc__law_paid.nd rfl (Or.inl rfl) rfl ⟨rfl, by decide +kernel, by rfl, rfl, by rfl⟩ (pi_list (pv 2)) (fun _ _ _ _ _ _ => (pg_name (i := 0) (by show List.Nodup (["wanted"] : List Str); decide +kernel) rfl (Or.inl rfl))) (fun _ _ _ _ _ _ => pifs_nil) (fun _ _ _ _ _ _ => pe_int) (by with_unfolding_all rfl))
      (pss_cons (ps_for PassesOwn.never rfl (pi_list (pv 3)) (pg_tup rfl (pgs_cons (pg_name (i := 6) sc__law_paid.nd rfl (Or.inr rfl)) (pgs_cons (pg_name (i := 7) sc__law_paid.nd rfl (Or.inl rfl)) (pgs_cons (pg_name (i := 8) sc__law_paid.nd rfl (Or.inl rfl)) pgs_nil)))) (pss_cons (ps_if (PW.pt (pw_or (pt_not (pt_val (pe_cal (cal__law_whole T) (hr.mono (by decide)) (pa_cons (pv 6) pa_nil)))) (pw_or (pt_cmpR op_ltI (pv 6) pe_int (nomark _)) (pw_or (pt_cmpR op_geI (pv 6) (pe_callB call_len_seq (by rfl) T.z_len PySem.boot_len (pa_cons (pv 1) pa_nil)) (nomark _)) (pw_or1 (pt_cmpR op_ne (pe_callB call_len_seq (by rfl) T.z_len PySem.boot_len (pa_cons (pv 8) pa_nil)) (pe_callB call_len_seq (by rfl) T.z_len PySem.boot_len (pa_cons (pv 2) pa_nil)) (nomark _))))))) (pss_one (ps_ret pe_bl)) pss_nil)
      (pss_cons (ps_if (PW.pt (pw_or (pt_cmpR (op_ne_ints hr.units) (pe_comp (N := ["one"]) (mp := [none]) rfl ⟨rfl, by decide +kernel, by rfl, rfl, by rfl⟩ (pi_list (pv 8)) (fun _ _ _ _ _ _ => (pg_name (i := 0) (by show List.Nodup (["one"] : List Str); decide +kernel) rfl (Or.inl rfl))) (fun _ _ _ _ _ _ => (pifs_one (PW.pt (pw_or (pt_not (pt_val (pe_cal (cal__law_whole T) (hr.mono (by decide)) (pa_cons (pv 0) pa_nil)))) (pw_or1 (pt_cmpR op_ltI (pv 0) pe_int (nomark _))))))) (fun _ _ _ _ _ _ => (pv 0))) (pe_lst pa_nil) (nomark _)) (pw_or1 (pt_cmpR op_ne (pe_callB (call_sum rfl) (by rfl) T.z_sum PyProof.Rows.boot_sum (pa_cons (pv 8) pa_nil)) (pe_op op_mulI (pe_ix ix_list (pv 1) (pv 6) (fun _ _ => rfl)) (pv 4)) (nomark _))))) (pss_one (ps_ret pe_bl)) pss_nil)
      (pss_cons (ps_if (pt_cmpR (op_ne_ints hr.units) (pe_comp (N := ["k", "one", "work", "wishes"]) (mp := [none, none, some 6, some 2]) rfl ⟨rfl, by decide +kernel, by rfl, rfl, by rfl⟩ (pi_enum (by rfl) T.z_enumerate (pv 8)) (fun _ _ _ _ _ _ => (pg_tup rfl (pgs_cons (pg_name (i := 0) (by show List.Nodup (["k", "one", "work", "wishes"] : List Str); decide +kernel) rfl (Or.inl rfl)) (pgs_cons (pg_name (i := 1) (by show List.Nodup (["k", "one", "work", "wishes"] : List Str); decide +kernel) rfl (Or.inl rfl)) pgs_nil)))) (fun _ _ _ _ _ _ => (pifs_one (PW.pt (pw_and (pt_cmpR op_gtI (pv 1) pe_int (nomark _)) (pw_and1 (pt_cmpR op_notIn_seq (pv 2) (pe_ix ix_list (pv 3) (pv 0) (fun _ _ => rfl)) rfl)))))) (fun _ _ _ _ _ _ => pe_int)) (pe_lst pa_nil) (nomark _)) (pss_one (ps_ret pe_bl)) pss_nil)
      (pss_one (ps_setC (i := 5) (N := ["one", "other"]) (mp := [none, none]) sc__law_paid.nd rfl (Or.inl rfl) rfl ⟨rfl, by decide +kernel, by rfl, rfl, by rfl⟩ (pi_zip (by rfl) T.z_zip (pa_cons (pv 5) (pa_cons (pv 8) pa_nil))) (fun _ _ _ _ _ _ => (pg_tup rfl (pgs_cons (pg_name (i := 0) (by show List.Nodup (["one", "other"] : List Str); decide +kernel) rfl (Or.inl rfl)) (pgs_cons (pg_name (i := 1) (by show List.Nodup (["one", "other"] : List Str); decide +kernel) rfl (Or.inl rfl)) pgs_nil)))) (fun _ _ _ _ _ _ => pifs_nil) (fun _ _ _ _ _ _ => (pe_op op_addI (pv 0) (pv 1))) (by with_unfolding_all rfl)))))))
      (pss_one (ps_ret (pe_cmpR (op_eq_ints hr.units) (pe_comp (N := ["one", "wishes", "coins", "grain"]) (mp := [none, some 2, some 0, some 4]) rfl ⟨rfl, by decide +kernel, by rfl, rfl, by rfl⟩ (pi_list (pv 5)) (fun _ _ _ _ _ _ => (pg_name (i := 0) (by show List.Nodup (["one", "wishes", "coins", "grain"] : List Str); decide +kernel) rfl (Or.inl rfl))) (fun _ _ _ _ _ _ => (pifs_one (pt_cmpR op_gtI (pe_op op_mulI (pv 0) (pe_callB call_len_seq (by rfl) T.z_len PySem.boot_len (pa_cons (pv 1) pa_nil))) (pe_op op_mulI (pv 2) (pv 3)) (nomark _)))) (fun _ _ _ _ _ _ => (pv 0))) (pe_lst pa_nil) (nomark _)))))))
theorem cal__law_paid (T : Txt K mg) : Cal P w K mg base 4 "_law_paid" ["coins", "costs", "wishes", "steps"] (sp__law_paid K) := T.f__law_paid.cal sc__law_paid (spOf_len rfl) (fun f cdv A outer s H E hr => pf__law_paid T hr) rk__law_paid
theorem pf_law (T : Txt K mg) {f : Addr} {cdv : Value} {A : Around} {outer : List Env} {s : Shared} {H : Hp} {E : XK} (hr : Room 8 (A.deeper (PyProof.Rows.envOfC "law" (defScope s_law) s.heap.objs.size f cdv))) :
    PSs (cxOf CX0 P w K mg base ["script", "coins", "costs", "wishes", "steps", "filled", "over", "done", "asked"] "law" (defScope s_law) f cdv A outer s H E).nox (defBody s_law) (rd_law K) :=
  (pss_cons (ps_asg (pe_cal (cal__law_town T) (hr.mono (by decide)) (pa_cons (pv 0) pa_nil)) (pg_tup rfl (pgs_cons (pg_name (i := 1) sc_law.nd rfl (Or.inl rfl)) (pgs_cons (pg_name (i := 2) sc_law.nd rfl (Or.inr rfl)) (pgs_cons (pg_name (i := 3) sc_law.nd rfl (Or.inl rfl)) pgs_nil)))))
      (pss_cons (ps_asg (pe_cal (cal_plan_of T) (hr.mono (by decide)) (pa_cons (pv 1) (pa_cons (pe_callTy call_list_of (by rfl) T.z_list PyProof.Rows.boot_list (pa_cons (pv 2) pa_nil)) (pa_cons (pe_comp (N := ["wanted"]) (mp := [none]) rfl ⟨rfl, by decide +kernel, by rfl, rfl, by rfl⟩ (pi_list (pv 3)) (fun _ _ _ _ _ _ => (pg_name (i := 0) (by show List.Nodup (["wanted"] : List Str); decide +kernel) rfl (Or.inl rfl))) (fun _ _ _ _ _ _ => pifs_nil) (fun _ _ _ _ _ _ => (pe_callTy call_list_of (by rfl) T.z_list PyProof.Rows.boot_list (pa_cons (pv 0) pa_nil)))) pa_nil)))) (pg_tup rfl (pgs_cons (pg_name (i := 4) sc_law.nd rfl (Or.inl rfl)) (pgs_cons (pg_name (i := 5) sc_law.nd rfl (Or.inl rfl)) (pgs_cons (pg_name (i := 6) sc_law.nd rfl (Or.inl rfl)) pgs_nil)))))
      (pss_cons (ps_if (PW.pt (pw_or (pt_not (pt_val (pe_cal (cal__law_paid T) (hr.mono (by decide)) (pa_cons (pv 1) (pa_cons (pv 2) (pa_cons (pv 3) (pa_cons (pv 4) pa_nil))))))) (pw_or (pt_not (pt_val (pe_cal (cal__law_whole T) (hr.mono (by decide)) (pa_cons (pv 6) pa_nil)))) (pw_or1 (pt_cmpR op_ltI (pv 6) pe_int (nomark _)))))) (pss_one (ps_ret pe_bl)) pss_nil)
      (pss_cons (ps_set (i := 7) sc_law.nd rfl (Or.inl rfl) (pe_op op_cat (pe_comp (N := ["step"]) (mp := [none]) rfl ⟨rfl, by decide +kernel, by rfl, rfl, by rfl⟩ (pi_list (pv 4)) (fun _ _ _ _ _ _ => (pg_name (i := 0) (by show List.Nodup (["step"] : List Str); decide +kernel) rfl (Or.inl rfl))) (fun _ _ _ _ _ _ => pifs_nil) (fun _ _ _ _ _ _ => (pe_ix ix_tup (pv 0) pe_int (fun _ _ => rfl)))) (pe_callTy call_list_of (by rfl) T.z_list PyProof.Rows.boot_list (pa_cons (pv 5) pa_nil))))
      (pss_cons (ps_if (PW.pt (pw_or (pt_cmpR (op_ne_ints hr.units) (pe_allW (f := fun w => tCB (rSortW w) (tCons (tCB (rSetW K w) (tCons (tVar 7) tNil)) tNil)) (pe_callB (call_sortW rfl) (by rfl) T.z_sorted PyProof.Rows.boot_sorted (pa_cons (pe_callTy (call_setW rfl) (by rfl) T.z_set PyProof.Rows.boot_set (pa_cons (pv 7) pa_nil)) pa_nil))) (pe_callB call_sorted (by rfl) T.z_sorted PyProof.Rows.boot_sorted (pa_cons (pv 7) pa_nil)) (nomark _)) (pw_or1 (pt_cmpR (op_ne_ints hr.units) (pe_comp (N := ["k", "costs"]) (mp := [none, some 2]) rfl ⟨rfl, by decide +kernel, by rfl, rfl, by rfl⟩ (pi_list (pv 5)) (fun _ _ _ _ _ _ => (pg_name (i := 0) (by show List.Nodup (["k", "costs"] : List Str); decide +kernel) rfl (Or.inl rfl))) (fun _ _ _ _ _ _ => (pifs_one (PW.pt (pw_or (pt_cmpR op_ltI (pv 0) pe_int (nomark _)) (pw_or1 (pt_cmpR op_geI (pv 0) (pe_callB call_len_seq (by rfl) T.z_len PySem.boot_len (pa_cons (pv 1) pa_nil)) (nomark _))))))) (fun _ _ _ _ _ _ => (pv 0))) (pe_lst pa_nil) (nomark _))))) (pss_one (ps_ret pe_bl)) pss_nil)
      (pss_cons (ps_if (pt_cmpR op_ne (pv 1) (pe_op op_addI (pe_callB (call_sum rfl) (by rfl) T.z_sum PyProof.Rows.boot_sum (pa_cons (pe_comp (N := ["k", "costs"]) (mp := [none, some 2]) rfl ⟨rfl, by decide +kernel, by rfl, rfl, by rfl⟩ (pi_list (pv 7)) (fun _ _ _ _ _ _ => (pg_name (i := 0) (by show List.Nodup (["k", "costs"] : List Str); decide +kernel) rfl (Or.inl rfl))) (fun _ _ _ _ _ _ => pifs_nil) (fun _ _ _ _ _ _ => (pe_ix ix_list (pv 1) (pv 0) (fun _ _ => rfl)))) pa_nil)) (pv 6)) (nomark _)) (pss_one (ps_ret pe_bl)) pss_nil)
      (pss_cons (ps_for PassesOwn.never rfl (pi_list (pe_cal (cal__law_sets T) (hr.mono (by decide)) (pa_cons (pe_callB call_len_seq (by rfl) T.z_len PySem.boot_len (pa_cons (pv 2) pa_nil)) pa_nil))) (pg_name (i := 8) sc_law.nd rfl (Or.inl rfl)) (pss_one (ps_if (pt_val (pe_cal (cal__law_wrongs T) (hr.mono (by decide)) (pa_cons (pv 1) (pa_cons (pv 2) (pa_cons (pv 3) (pa_cons (pv 8) (pa_cons (pv 7) pa_nil))))))) (pss_one (ps_ret pe_bl)) pss_nil)))
      (pss_one (ps_ret pe_bl)))))))))
end

end My
open PySem PySem.W PyProof.Rows

set_option maxRecDepth 100000 in
set_option maxHeartbeats 0 in
theorem PySem.Challenge.cw_purse_k39_whole_plans_wrong_nobody_holds : PySem.Challenge.rw_purse_k39_whole_plans_wrong_nobody.Holds := by
  w_on; o_law; k_head; (case hw => w_witness2)
  k_fill
  refine L2.walk_law (l := PySem.Challenge.rw_purse_k39_whole_plans_wrong_nobody) (k := 9) rfl rfl ⟨rfl, by decide, by decide⟩ (fun w h Y => PySem.W.kIn_of Y) ?F
  case F =>
    intro w mg fa h KX G hmg
    have h_paid_at : L2.FunIn (L2.KOf KX) mg "paid_at" My.s_paid_at ["purses", "level"] := by
      dsimp only [L2.KOf]
      refine' L2.fun_in KX G ?a ?l ?c ?k ?b
      (case a => k_is); (case l => k_is); (case c => k_is); (case k => k_is); (case b => exact fun _ _ _ _ _ _ us hl => match us, hl with | [_, _], _ => rfl)
    have h_rounded_up : L2.FunIn (L2.KOf KX) mg "rounded_up" My.s_rounded_up ["amount", "shares"] := by
      dsimp only [L2.KOf]
      refine' L2.fun_in KX G ?a ?l ?c ?k ?b
      (case a => k_is); (case l => k_is); (case c => k_is); (case k => k_is); (case b => exact fun _ _ _ _ _ _ us hl => match us, hl with | [_, _], _ => rfl)
    have h_level_for : L2.FunIn (L2.KOf KX) mg "level_for" My.s_level_for ["purses", "price"] := by
      dsimp only [L2.KOf]
      refine' L2.fun_in KX G ?a ?l ?c ?k ?b
      (case a => k_is); (case l => k_is); (case c => k_is); (case k => k_is); (case b => exact fun _ _ _ _ _ _ us hl => match us, hl with | [_, _], _ => rfl)
    have h_least_multiple : L2.FunIn (L2.KOf KX) mg "least_multiple" My.s_least_multiple ["step", "number"] := by
      dsimp only [L2.KOf]
      refine' L2.fun_in KX G ?a ?l ?c ?k ?b
      (case a => k_is); (case l => k_is); (case c => k_is); (case k => k_is); (case b => exact fun _ _ _ _ _ _ us hl => match us, hl with | [_, _], _ => rfl)
    have h_together : L2.FunIn (L2.KOf KX) mg "together" My.s_together ["n"] := by
      dsimp only [L2.KOf]
      refine' L2.fun_in KX G ?a ?l ?c ?k ?b
      (case a => k_is); (case l => k_is); (case c => k_is); (case k => k_is); (case b => exact fun _ _ _ _ _ _ us hl => match us, hl with | [_], _ => rfl)
    have h_grains_of : L2.FunIn (L2.KOf KX) mg "grains_of" My.s_grains_of ["voters", "works"] := by
      dsimp only [L2.KOf]
      refine' L2.fun_in KX G ?a ?l ?c ?k ?b
      (case a => k_is); (case l => k_is); (case c => k_is); (case k => k_is); (case b => exact fun _ _ _ _ _ _ us hl => match us, hl with | [_, _], _ => rfl)
    have h_equal_purse : L2.FunIn (L2.KOf KX) mg "equal_purse" My.s_equal_purse ["coins", "voters", "works"] := by
      dsimp only [L2.KOf]
      refine' L2.fun_in KX G ?a ?l ?c ?k ?b
      (case a => k_is); (case l => k_is); (case c => k_is); (case k => k_is); (case b => exact fun _ _ _ _ _ _ us hl => match us, hl with | [_, _, _], _ => rfl)
    have h_wants_all : L2.FunIn (L2.KOf KX) mg "wants_all" My.s_wants_all ["wanted", "works"] := by
      dsimp only [L2.KOf]
      refine' L2.fun_in KX G ?a ?l ?c ?k ?b
      (case a => k_is); (case l => k_is); (case c => k_is); (case k => k_is); (case b => exact fun _ _ _ _ _ _ us hl => match us, hl with | [_, _], _ => rfl)
    have h_common_of : L2.FunIn (L2.KOf KX) mg "common_of" My.s_common_of ["wishes", "works"] := by
      dsimp only [L2.KOf]
      refine' L2.fun_in KX G ?a ?l ?c ?k ?b
      (case a => k_is); (case l => k_is); (case c => k_is); (case k => k_is); (case b => exact fun _ _ _ _ _ _ us hl => match us, hl with | [_, _], _ => rfl)
    have h_wanters_of : L2.FunIn (L2.KOf KX) mg "wanters_of" My.s_wanters_of ["wishes", "work"] := by
      dsimp only [L2.KOf]
      refine' L2.fun_in KX G ?a ?l ?c ?k ?b
      (case a => k_is); (case l => k_is); (case c => k_is); (case k => k_is); (case b => exact fun _ _ _ _ _ _ us hl => match us, hl with | [_, _], _ => rfl)
    have h_cost_of : L2.FunIn (L2.KOf KX) mg "cost_of" My.s_cost_of ["costs", "works"] := by
      dsimp only [L2.KOf]
      refine' L2.fun_in KX G ?a ?l ?c ?k ?b
      (case a => k_is); (case l => k_is); (case c => k_is); (case k => k_is); (case b => exact fun _ _ _ _ _ _ us hl => match us, hl with | [_, _], _ => rfl)
    have h_purses_of : L2.FunIn (L2.KOf KX) mg "purses_of" My.s_purses_of ["coins", "costs", "wishes"] := by
      dsimp only [L2.KOf]
      refine' L2.fun_in KX G ?a ?l ?c ?k ?b
      (case a => k_is); (case l => k_is); (case c => k_is); (case k => k_is); (case b => exact fun _ _ _ _ _ _ us hl => match us, hl with | [_, _, _], _ => rfl)
    have h_prices_of : L2.FunIn (L2.KOf KX) mg "prices_of" My.s_prices_of ["costs", "wishes"] := by
      dsimp only [L2.KOf]
      refine' L2.fun_in KX G ?a ?l ?c ?k ?b
      (case a => k_is); (case l => k_is); (case c => k_is); (case k => k_is); (case b => exact fun _ _ _ _ _ _ us hl => match us, hl with | [_, _], _ => rfl)
    have h_offer_of : L2.FunIn (L2.KOf KX) mg "offer_of" My.s_offer_of ["purses", "wishes", "work", "price"] := by
      dsimp only [L2.KOf]
      refine' L2.fun_in KX G ?a ?l ?c ?k ?b
      (case a => k_is); (case l => k_is); (case c => k_is); (case k => k_is); (case b => exact fun _ _ _ _ _ _ us hl => match us, hl with | [_, _, _, _], _ => rfl)
    have h_offers_of : L2.FunIn (L2.KOf KX) mg "offers_of" My.s_offers_of ["purses", "costs", "wishes", "done"] := by
      dsimp only [L2.KOf]
      refine' L2.fun_in KX G ?a ?l ?c ?k ?b
      (case a => k_is); (case l => k_is); (case c => k_is); (case k => k_is); (case b => exact fun _ _ _ _ _ _ us hl => match us, hl with | [_, _, _, _], _ => rfl)
    have h_next_of : L2.FunIn (L2.KOf KX) mg "next_of" My.s_next_of ["offers"] := by
      dsimp only [L2.KOf]
      refine' L2.fun_in KX G ?a ?l ?c ?k ?b
      (case a => k_is); (case l => k_is); (case c => k_is); (case k => k_is); (case b => exact fun _ _ _ _ _ _ us hl => match us, hl with | [_], _ => rfl)
    have h_payments_of : L2.FunIn (L2.KOf KX) mg "payments_of" My.s_payments_of ["purses", "wishes", "work", "level"] := by
      dsimp only [L2.KOf]
      refine' L2.fun_in KX G ?a ?l ?c ?k ?b
      (case a => k_is); (case l => k_is); (case c => k_is); (case k => k_is); (case b => exact fun _ _ _ _ _ _ us hl => match us, hl with | [_, _, _, _], _ => rfl)
    have h_works_of : L2.FunIn (L2.KOf KX) mg "works_of" My.s_works_of ["steps"] := by
      dsimp only [L2.KOf]
      refine' L2.fun_in KX G ?a ?l ?c ?k ?b
      (case a => k_is); (case l => k_is); (case c => k_is); (case k => k_is); (case b => exact fun _ _ _ _ _ _ us hl => match us, hl with | [_], _ => rfl)
    have h_paid_by : L2.FunIn (L2.KOf KX) mg "paid_by" My.s_paid_by ["steps", "voter"] := by
      dsimp only [L2.KOf]
      refine' L2.fun_in KX G ?a ?l ?c ?k ?b
      (case a => k_is); (case l => k_is); (case c => k_is); (case k => k_is); (case b => exact fun _ _ _ _ _ _ us hl => match us, hl with | [_, _], _ => rfl)
    have h_left_of : L2.FunIn (L2.KOf KX) mg "left_of" My.s_left_of ["purses", "steps"] := by
      dsimp only [L2.KOf]
      refine' L2.fun_in KX G ?a ?l ?c ?k ?b
      (case a => k_is); (case l => k_is); (case c => k_is); (case k => k_is); (case b => exact fun _ _ _ _ _ _ us hl => match us, hl with | [_, _], _ => rfl)
    have h_step_behind : L2.FunIn (L2.KOf KX) mg "step_behind" My.s_step_behind ["purses", "costs", "wishes", "steps"] := by
      dsimp only [L2.KOf]
      refine' L2.fun_in KX G ?a ?l ?c ?k ?b
      (case a => k_is); (case l => k_is); (case c => k_is); (case k => k_is); (case b => exact fun _ _ _ _ _ _ us hl => match us, hl with | [_, _, _, _], _ => rfl)
    have h_choose : L2.FunIn (L2.KOf KX) mg "choose" My.s_choose ["purses", "costs", "wishes"] := by
      dsimp only [L2.KOf]
      refine' L2.fun_in KX G ?a ?l ?c ?k ?b
      (case a => k_is); (case l => k_is); (case c => k_is); (case k => k_is); (case b => exact fun _ _ _ _ _ _ us hl => match us, hl with | [_, _, _], _ => rfl)
    have h_coins_over : L2.FunIn (L2.KOf KX) mg "coins_over" My.s_coins_over ["coins", "costs", "works"] := by
      dsimp only [L2.KOf]
      refine' L2.fun_in KX G ?a ?l ?c ?k ?b
      (case a => k_is); (case l => k_is); (case c => k_is); (case k => k_is); (case b => exact fun _ _ _ _ _ _ us hl => match us, hl with | [_, _, _], _ => rfl)
    have h_further_works : L2.FunIn (L2.KOf KX) mg "further_works" My.s_further_works ["costs", "wishes", "works"] := by
      dsimp only [L2.KOf]
      refine' L2.fun_in KX G ?a ?l ?c ?k ?b
      (case a => k_is); (case l => k_is); (case c => k_is); (case k => k_is); (case b => exact fun _ _ _ _ _ _ us hl => match us, hl with | [_, _, _], _ => rfl)
    have h_rank_of : L2.FunIn (L2.KOf KX) mg "rank_of" My.s_rank_of ["costs", "wishes", "work"] := by
      dsimp only [L2.KOf]
      refine' L2.fun_in KX G ?a ?l ?c ?k ?b
      (case a => k_is); (case l => k_is); (case c => k_is); (case k => k_is); (case b => exact fun _ _ _ _ _ _ us hl => match us, hl with | [_, _, _], _ => rfl)
    have h_ranked_works : L2.FunIn (L2.KOf KX) mg "ranked_works" My.s_ranked_works ["costs", "wishes", "works"] := by
      dsimp only [L2.KOf]
      refine' L2.fun_in KX G ?a ?l ?c ?k ?b
      (case a => k_is); (case l => k_is); (case c => k_is); (case k => k_is); (case b => exact fun _ _ _ _ _ _ us hl => match us, hl with | [_, _, _], _ => rfl)
    have h_fill : L2.FunIn (L2.KOf KX) mg "fill" My.s_fill ["coins", "costs", "wishes", "works"] := by
      dsimp only [L2.KOf]
      refine' L2.fun_in KX G ?a ?l ?c ?k ?b
      (case a => k_is); (case l => k_is); (case c => k_is); (case k => k_is); (case b => exact fun _ _ _ _ _ _ us hl => match us, hl with | [_, _, _, _], _ => rfl)
    have h_plan_of : L2.FunIn (L2.KOf KX) mg "plan_of" My.s_plan_of ["coins", "costs", "wishes"] := by
      dsimp only [L2.KOf]
      refine' L2.fun_in KX G ?a ?l ?c ?k ?b
      (case a => k_is); (case l => k_is); (case c => k_is); (case k => k_is); (case b => exact fun _ _ _ _ _ _ us hl => match us, hl with | [_, _, _], _ => rfl)
    have h__law_cell_at : L2.FunIn (L2.KOf KX) mg "_law_cell_at" My.s__law_cell_at ["script", "k"] := by
      dsimp only [L2.KOf]
      refine' L2.fun_in KX G ?a ?l ?c ?k ?b
      (case a => k_is); (case l => k_is); (case c => k_is); (case k => k_is); (case b => exact fun _ _ _ _ _ _ us hl => match us, hl with | [_, _], _ => rfl)
    have h__law_whole : L2.FunIn (L2.KOf KX) mg "_law_whole" My.s__law_whole ["found"] := by
      dsimp only [L2.KOf]
      refine' L2.fun_in KX G ?a ?l ?c ?k ?b
      (case a => k_is); (case l => k_is); (case c => k_is); (case k => k_is); (case b => exact fun _ _ _ _ _ _ us hl => match us, hl with | [_], _ => rfl)
    have h__law_draw : L2.FunIn (L2.KOf KX) mg "_law_draw" My.s__law_draw ["cell", "place"] := by
      dsimp only [L2.KOf]
      refine' L2.fun_in KX G ?a ?l ?c ?k ?b
      (case a => k_is); (case l => k_is); (case c => k_is); (case k => k_is); (case b => exact fun _ _ _ _ _ _ us hl => match us, hl with | [_, _], _ => rfl)
    have h__law_draws : L2.FunIn (L2.KOf KX) mg "_law_draws" My.s__law_draws ["cell", "many"] := by
      dsimp only [L2.KOf]
      refine' L2.fun_in KX G ?a ?l ?c ?k ?b
      (case a => k_is); (case l => k_is); (case c => k_is); (case k => k_is); (case b => exact fun _ _ _ _ _ _ us hl => match us, hl with | [_, _], _ => rfl)
    have h__law_cost : L2.FunIn (L2.KOf KX) mg "_law_cost" My.s__law_cost ["number", "kind", "usual"] := by
      dsimp only [L2.KOf]
      refine' L2.fun_in KX G ?a ?l ?c ?k ?b
      (case a => k_is); (case l => k_is); (case c => k_is); (case k => k_is); (case b => exact fun _ _ _ _ _ _ us hl => match us, hl with | [_, _, _], _ => rfl)
    have h__law_wishes : L2.FunIn (L2.KOf KX) mg "_law_wishes" My.s__law_wishes ["cells", "many", "usual"] := by
      dsimp only [L2.KOf]
      refine' L2.fun_in KX G ?a ?l ?c ?k ?b
      (case a => k_is); (case l => k_is); (case c => k_is); (case k => k_is); (case b => exact fun _ _ _ _ _ _ us hl => match us, hl with | [_, _, _], _ => rfl)
    have h__law_town : L2.FunIn (L2.KOf KX) mg "_law_town" My.s__law_town ["script"] := by
      dsimp only [L2.KOf]
      refine' L2.fun_in KX G ?a ?l ?c ?k ?b
      (case a => k_is); (case l => k_is); (case c => k_is); (case k => k_is); (case b => exact fun _ _ _ _ _ _ us hl => match us, hl with | [_], _ => rfl)
    have h__law_sets : L2.FunIn (L2.KOf KX) mg "_law_sets" My.s__law_sets ["many"] := by
      dsimp only [L2.KOf]
      refine' L2.fun_in KX G ?a ?l ?c ?k ?b
      (case a => k_is); (case l => k_is); (case c => k_is); (case k => k_is); (case b => exact fun _ _ _ _ _ _ us hl => match us, hl with | [_], _ => rfl)
    have h__law_wrongs : L2.FunIn (L2.KOf KX) mg "_law_wrongs" My.s__law_wrongs ["coins", "costs", "wishes", "asked", "done"] := by
      dsimp only [L2.KOf]
      refine' L2.fun_in KX G ?a ?l ?c ?k ?b
      (case a => k_is); (case l => k_is); (case c => k_is); (case k => k_is); (case b => exact fun _ _ _ _ _ _ us hl => match us, hl with | [_, _, _, _, _], _ => rfl)
    have h__law_paid : L2.FunIn (L2.KOf KX) mg "_law_paid" My.s__law_paid ["coins", "costs", "wishes", "steps"] := by
      dsimp only [L2.KOf]
      refine' L2.fun_in KX G ?a ?l ?c ?k ?b
      (case a => k_is); (case l => k_is); (case c => k_is); (case k => k_is); (case b => exact fun _ _ _ _ _ _ us hl => match us, hl with | [_, _, _, _], _ => rfl)
    have h_law : L2.FunIn (L2.KOf KX) mg "law" My.s_law ["script"] := by
      dsimp only [L2.KOf]
      refine' L2.fun_in KX G ?a ?l ?c ?k ?b
      (case a => k_is); (case l => k_is); (case c => k_is); (case k => k_is); (case b => exact fun _ _ _ _ _ _ us hl => match us, hl with | [_], _ => rfl)
    have e_TooMuch : L2.ExcIn (L2.KOf KX) mg "TooMuch" := by
      dsimp only [L2.KOf]
      refine' L2.exc_in1 KX G ?a ?l ?n ?l1 ?n1 ?g1 ?g2 ?g3 ?g4 ?g5 ?g6 ?hk ?hi ?hk1 ?hi1
      (case a => k_is); (case l => k_is); (case n => k_is); (case l1 => k_is); (case n1 => k_is); (case g1 => k_is); (case g2 => k_is); (case g3 => k_is); (case g4 => k_is); (case g5 => k_is); (case g6 => k_is); (case hk => first | rfl | (with_unfolding_all rfl) | (simp [L2.keysOk, PySem.nsFind, PySem.findBy]; done)); (case hi => first | rfl | (with_unfolding_all rfl) | (simp [L2.keysOk, PySem.nsFind, PySem.findBy]; done)); (case hk1 => first | rfl | (with_unfolding_all rfl) | (simp [L2.keysOk, PySem.nsFind, PySem.findBy]; done)); (case hi1 => first | rfl | (with_unfolding_all rfl) | (simp [L2.keysOk, PySem.nsFind, PySem.findBy]; done))
    have z_all : mg "all" = none := by
      refine' L2.mg_name KX G ?z; (case z => k_is)
    have z_bool : mg "bool" = none := by
      refine' L2.mg_name KX G ?z; (case z => k_is)
    have z_enumerate : mg "enumerate" = none := by
      refine' L2.mg_name KX G ?z; (case z => k_is)
    have z_int : mg "int" = none := by
      refine' L2.mg_name KX G ?z; (case z => k_is)
    have z_isinstance : mg "isinstance" = none := by
      refine' L2.mg_name KX G ?z; (case z => k_is)
    have z_len : mg "len" = none := by
      refine' L2.mg_name KX G ?z; (case z => k_is)
    have z_list : mg "list" = none := by
      refine' L2.mg_name KX G ?z; (case z => k_is)
    have z_min : mg "min" = none := by
      refine' L2.mg_name KX G ?z; (case z => k_is)
    have z_range : mg "range" = none := by
      refine' L2.mg_name KX G ?z; (case z => k_is)
    have z_set : mg "set" = none := by
      refine' L2.mg_name KX G ?z; (case z => k_is)
    have z_sorted : mg "sorted" = none := by
      refine' L2.mg_name KX G ?z; (case z => k_is)
    have z_sum : mg "sum" = none := by
      refine' L2.mg_name KX G ?z; (case z => k_is)
    have z_zip : mg "zip" = none := by
      refine' L2.mg_name KX G ?z; (case z => k_is)
    exact L2.FunIn.law h_law hmg My.sc_law (L2.spOf_len rfl) (fun base f cdv A outer s H E hr => My.pf_law ⟨h_paid_at, h_rounded_up, h_level_for, h_least_multiple, h_together, h_grains_of, h_equal_purse, h_wants_all, h_common_of, h_wanters_of, h_cost_of, h_purses_of, h_prices_of, h_offer_of, h_offers_of, h_next_of, h_payments_of, h_works_of, h_paid_by, h_left_of, h_step_behind, h_choose, h_coins_over, h_further_works, h_rank_of, h_ranked_works, h_fill, h_plan_of, h__law_cell_at, h__law_whole, h__law_draw, h__law_draws, h__law_cost, h__law_wishes, h__law_town, h__law_sets, h__law_wrongs, h__law_paid, h_law, e_TooMuch, z_all, z_bool, z_enumerate, z_int, z_isinstance, z_len, z_list, z_min, z_range, z_set, z_sorted, z_sum, z_zip⟩ hr) My.rk_law

