import PyProof.Rows.All
import Wide.All
import OpenK.AllK
import Wide.FinOn
import Lean
import PyProof.EqAt
import PyProof.EqKinds
import PyProof.TupleCall
import KE.KIsAll
import KE.KTryMore
import PyProof.ExcAttrAll.ValueError
import KE.KIntText
import KE.KItemsList
import KE.KDictOf
import PyProof.AttrMissHeap
import KE.KPairComp
import PyProof.DictWalks
import PyProof.P3In
import PyProof.SameEqv
import PySem.Challenge.RW_purse_k42_wishes_and_proposals
set_option Elab.async false
set_option linter.all false
set_option maxRecDepth 100000
/-! THE HAND LAYER, for ints, bools, texts, own classes, LISTS and tuples (index, slices, in, append, pop ..), calls, loops. Paste it whole ahead of your own text; what your proof does not reach may be deleted. -/
namespace L2
open PySem PySem.Spec PyProof.Rows

/-- a key: an int or a str -/
noncomputable abbrev Key := Sum Int Str
noncomputable def keyIs : Key → Value → Bool
  | .inl k, v => Value.isInt k v
  | .inr x, v => Value.isStrOf x v
noncomputable def keyH (w : World) : Key → Int
  | .inl k => hashInt k
  | .inr x => hashStr w x
theorem keyIs_shape : ∀ {k : Key} {v : Value}, keyIs k v = true → (∃ i t, k = Sum.inl i ∧ v = Value.int i t) ∨ (∃ x t, k = Sum.inr x ∧ v = Value.str x t)
  | .inl i, v, h => by
    obtain ⟨t, e⟩ := Value.isInt_shape (k := i) (v := v) h
    exact .inl ⟨i, t, rfl, e⟩
  | .inr x, v, h => by
    obtain ⟨t, e⟩ := Value.isStrOf_shape (x := x) (v := v) h
    exact .inr ⟨x, t, rfl, e⟩
theorem keyIs_int (i : Int) (t : Tok) : keyIs (.inl i) (.int i t) = true := by simp [keyIs, Value.isInt]
theorem keyIs_str (x : Str) (t : Tok) : keyIs (.inr x) (.str x t) = true := by simp [keyIs, Value.isStrOf]
theorem key_ll (a b : Int) : decide ((Sum.inl a : Key) = Sum.inl b) = (a == b) := by
  by_cases e : a = b
  · subst e; simp
  · have h : ¬ (Sum.inl a : Key) = Sum.inl b := fun q => e (Sum.inl.inj q)
    rw [decide_eq_false h]
    exact (beq_eq_false_iff_ne.mpr e).symm
theorem key_rr (a b : Str) : decide ((Sum.inr a : Key) = Sum.inr b) = decide (a = b) := by
  by_cases e : a = b
  · subst e; simp
  · have h : ¬ (Sum.inr a : Key) = Sum.inr b := fun q => e (Sum.inr.inj q)
    rw [decide_eq_false h, decide_eq_false e]
theorem key_lr (a : Int) (b : Str) : decide ((Sum.inl a : Key) = Sum.inr b) = false := decide_eq_false (fun q => nomatch q)
theorem key_rl (a : Str) (b : Int) : decide ((Sum.inr a : Key) = Sum.inl b) = false := decide_eq_false (fun q => nomatch q)

noncomputable def mixKind (prog : Program) (w : World) : PySem.KeyKind prog w Key where
  is := keyIs
  hash := keyH w
  inj := fun v a b ha hb => by
    rcases keyIs_shape ha with ⟨i, t, rfl, rfl⟩ | ⟨x, t, rfl, rfl⟩
    · rcases keyIs_shape hb with ⟨j, u, rfl, e⟩ | ⟨y, u, rfl, e⟩
      · injection e with e1 _; rw [e1]
      · exact nomatch e
    · rcases keyIs_shape hb with ⟨j, u, rfl, e⟩ | ⟨y, u, rfl, e⟩
      · exact nomatch e
      · injection e with e1 _; rw [e1]
  byValue := fun k v h => by
    rcases keyIs_shape h with ⟨i, t, rfl, rfl⟩ | ⟨x, t, rfl, rfl⟩ <;> rfl
  pyHash := fun hv h => by
    rcases keyIs_shape hv with ⟨i, t, rfl, rfl⟩ | ⟨x, t, rfl, rfl⟩
    · exact wpAny_pyHash_int h
    · exact wpAny_pyHash_str h
  eqBool := fun hu hv h => by
    rcases keyIs_shape hu with ⟨i, t, rfl, rfl⟩ | ⟨x, t, rfl, rfl⟩
    · rcases keyIs_shape hv with ⟨j, u, rfl, rfl⟩ | ⟨y, u, rfl, rfl⟩
      · rw [key_ll] at h; exact wpAny_eqBool_int h
      · rw [key_lr] at h; exact SeqAt.EqAt.int_str i t y u _ _ _ _ h
    · rcases keyIs_shape hv with ⟨j, u, rfl, rfl⟩ | ⟨y, u, rfl, rfl⟩
      · rw [key_rl] at h; exact SeqAt.EqAt.str_int x t j u _ _ _ _ h
      · rw [key_rr] at h; exact wpAny_eqBool_str h
  «strs» := fun k x t v h => by
    rcases keyIs_shape h with ⟨i, u, rfl, e⟩ | ⟨y, u, rfl, e⟩
    · exact nomatch e
    · injection e with e1 _
      subst e1
      cases v <;> rfl

theorem mixKind_int (prog : Program) (w : World) (i : Int) (t : Tok) : (mixKind prog w).is (.inl i) (.int i t) = true := keyIs_int i t
theorem mixKind_str (prog : Program) (w : World) (x : Str) (t : Tok) : (mixKind prog w).is (.inr x) (.str x t) = true := keyIs_str x t
end L2

namespace L2
open PySem PySem.Spec PyProof.Rows

/-- a value, without the heap -/
inductive V where
  | non | bl (b : Bool) | int (i : Int) | str (x : Str) | byt (b : Array UInt8) | flt (b : UInt64) | ref (a : Addr) | ty (n : String)
  deriving DecidableEq

noncomputable def RelV : V → Value → Prop
  | .non, u => u = Value.none
  | .bl b, u => u = Value.bool b
  | .int i, u => ∃ t, u = Value.int i t
  | .str x, u => ∃ t, u = Value.str x t
  | .byt b, u => ∃ t, u = Value.bytes b t
  | .flt b, u => ∃ t, u = Value.float b t
  | .ref a, u => u = Value.ref a
  | .ty n, u => u = Value.type n

noncomputable abbrev Vals : List V → List Value → Prop := Paired RelV
theorem Vals.length {xs : List V} {us : List Value} (r : Vals xs us) : xs.length = us.length := Paired.length r
theorem Vals.get : ∀ {xs : List V} {us : List Value} {i : Nat} {x : V}, Vals xs us → xs[i]? = some x → ∃ u, us[i]? = some u ∧ RelV x u
  | _, _, _, _, .nil, e => by simp at e
  | _, _, 0, _, .cons r _, e => by simp at e; subst e; exact ⟨_, rfl, r⟩
  | _, _, i + 1, x, .cons _ t, e => by
    obtain ⟨u, h1, h2⟩ := Vals.get (i := i) (x := x) t (by simpa using e)
    exact ⟨u, by simpa using h1, h2⟩
theorem Vals.set {x : V} {u : Value} (r : RelV x u) : ∀ {xs : List V} {us : List Value} (i : Nat), Vals xs us → Vals (xs.set i x) (us.set i u)
  | _, _, _, .nil => .nil
  | _, _, 0, .cons _ t => .cons r t
  | _, _, i + 1, .cons q t => .cons q (Vals.set r i t)
theorem Vals.append : ∀ {xs ys : List V} {us ws : List Value}, Vals xs us → Vals ys ws → Vals (xs ++ ys) (us ++ ws)
  | _, _, _, _, .nil, s => s
  | _, _, _, _, .cons r t, s => .cons r (Vals.append t s)
theorem Vals.take : ∀ {xs : List V} {us : List Value} (n : Nat), Vals xs us → Vals (xs.take n) (us.take n)
  | _, _, 0, _ => .nil
  | _, _, _ + 1, .nil => .nil
  | _, _, n + 1, .cons r t => .cons r (Vals.take n t)
theorem Vals.drop : ∀ {xs : List V} {us : List Value} (n : Nat), Vals xs us → Vals (xs.drop n) (us.drop n)
  | _, _, 0, r => r
  | _, _, _ + 1, .nil => .nil
  | _, _, n + 1, .cons _ t => Vals.drop n t

noncomputable def RelO : Option V → Option Value → Prop
  | some v, some u => RelV v u
  | none, none => True
  | _, _ => False
noncomputable def KV {κ : Type} : List (κ × V) → List (κ × Value) → Prop := Paired fun (p : κ × V) (q : κ × Value) => p.1 = q.1 ∧ RelV p.2 q.2

/-- a key of a dict (00_mix): an int or a text -/
noncomputable def kV : Key → V
  | .inl i => .int i
  | .inr x => .str x

/-- what stands at a tracked address -/
inductive HO where
  /-- a list -/
  | lst (xs : List V)
  /-- a tuple (never changes) -/
  | tup (xs : List V)
  /-- a dict whose keys are ints and texts; one whose keys are tuples of ints and texts (the empty one is both) -/
  | dK (kvs : List (Key × V)) | dT (kvs : List (List Key × V))
  /-- a set of ints: its members, its size -/
  | set (S : Int → Bool) (n : Nat)
  /-- an instance of the class at C, its dict at dx, its attributes -/
  | ins (C dx : Addr) (fs : List (Str × V))
  /-- the dict of the instance at x -/
  | own (x : Addr)
  /-- the dict of an exception -/
  | xd (fs : List (Str × V))
  /-- a bound method, f of x -/
  | met (f x : Addr)
  /-- a range object lo, lo + 1, .. below hi -/
  | rng (lo hi : Int)
  /-- a thing that is known to the object (the script; a dict while a loop walks it): read, never written while it is so -/
  | frz (o : Obj) (u : HO)
  /-- a code object's table -/
  | tbl (ps : Array Value)
  /-- any other thing, by what is true of its one object (a def of one's own: SetO a S n := HO.ext fun h => ..) -/
  | ext (φ : Heap → Prop)

noncomputable abbrev Hp := Addr → Option HO
noncomputable def upd (H : Hp) (a : Addr) (o : HO) : Hp := fun b => if b = a then some o else H b
theorem upd_same {H : Hp} {a : Addr} {o : HO} : upd H a o a = some o := by unfold upd; rw [if_pos rfl]
theorem upd_ne {H : Hp} {a b : Addr} {o : HO} (h : b ≠ a) : upd H a o b = H b := by unfold upd; rw [if_neg h]
/-- two objects of different content stand apart -/
theorem ne_of {H : Hp} {a b : Addr} {o u : HO} (h : H a = some o) (h' : H b = some u) (d : o ≠ u) : a ≠ b := by
  intro e; subst e; rw [h] at h'; exact d (Option.some.inj h')
theorem ne_of_none {H : Hp} {a b : Addr} {o : HO} (h : H a = some o) (h' : H b = none) : a ≠ b := by
  intro e; subst e; rw [h] at h'; cases h'

section
variable (P : Program) (w : World)
noncomputable def ObjOk (H : Hp) (h : Heap) (a : Addr) : HO → Prop
  | .lst xs => xs.length ≤ sizeLine ∧ ∃ (its : List Value) (n : Nat), Vals xs its ∧ h.get? a = some { cls := .type "list", data := .seq its.toArray n }
  | .tup xs => xs.length ≤ sizeLine ∧ ∃ its : List Value, Vals xs its ∧ IsTup h a its.toArray
  | .dK kvs => kvs.length ≤ sizeLine ∧ (a == sysModules) = false ∧ ∃ vs, KV kvs vs ∧ h.DictOf (mixKind P w) a vs
  | .dT kvs => kvs.length ≤ sizeLine ∧ (a == sysModules) = false ∧ ∃ xs : List (List Key × Addr × Value),
      Paired (fun (p : List Key × V) (q : List Key × Addr × Value) => p.1 = q.1 ∧ H q.2.1 = some (.tup (p.1.map kV)) ∧ RelV p.2 q.2.2) kvs xs ∧
      ∃ o es ep, h.get? a = some o ∧ o.ExactDict ∧ o.data = .dict es ep ∧ es.toList = xs.map (entryOfKey (tupleKind (mixKind P w))) ∧ (xs.map (·.1)).Nodup
  | .set S n => h.SetOf (intKind P w) a S n
  | .ins C dx fs => H dx = some (.own a) ∧ fs.length ≤ 1000 ∧ dx ≠ a ∧ h.get? a = some (PySem.W.instObj C dx) ∧
      ∃ mA, h.Ns1 dx mA ∧ (∀ f, RelO (fs.lookup f) (mA f)) ∧ PySem.Within mA (fs.map (·.1))
  | .own _ => ∃ o, h.get? a = some o
  | .xd fs => ∃ mA, h.Ns1 a mA ∧ ∀ f, RelO (fs.lookup f) (mA f)
  | .rng lo hi => ∃ t u v, h.get? a = some { cls := .type "range", data := .fields #[.int lo t, .int hi u, .int 1 v] }
  | .frz o u => h.get? a = some o ∧ ObjOk H h a u
  | .tbl ps => h.get? a = some { cls := .none, data := .fields ps }
  | .met f x => h.get? a = some (PySem.W.methodObj (.ref f) (.ref x))
  | .ext φ => φ h ∧ (∃ o, h.get? a = some o) ∧ ∀ h1 h2 : Heap, φ h1 → (∀ o, h1.get? a = some o → h2.get? a = some o) → φ h2
/-- the abstract heap is held -/
noncomputable def HOk (H : Hp) (h : Heap) : Prop := ∀ a o, H a = some o → ObjOk P w H h a o
end

section
variable {P : Program} {w : World} {H H' : Hp} {h h' : Heap} {a : Addr} {o : HO}
theorem ObjOk.lt (x : ObjOk P w H h a o) : a < h.objs.size := by
  cases o with
  | lst xs => obtain ⟨_, _, _, _, e⟩ := x; exact Heap.lt_size e
  | tup xs => obtain ⟨_, _, _, p⟩ := x; exact p.lt
  | dK kvs => obtain ⟨_, _, _, _, o, _, _, e, _⟩ := x; exact Heap.lt_size e
  | dT kvs => obtain ⟨_, _, _, _, o, _, _, e, _⟩ := x; exact Heap.lt_size e
  | set S n => obtain ⟨o, _, _, _, e, _⟩ := x; exact Heap.lt_size e
  | ins C dx fs => obtain ⟨_, _, _, e, _⟩ := x; exact Heap.lt_size e
  | own y => obtain ⟨_, e⟩ := x; exact Heap.lt_size e
  | xd fs => obtain ⟨_, ⟨_, _, _, e, _⟩, _⟩ := x; exact Heap.lt_size e
  | rng lo hi => obtain ⟨_, _, _, e⟩ := x; exact Heap.lt_size e
  | frz ob u => obtain ⟨e, _⟩ := x; exact Heap.lt_size e
  | tbl ps => exact Heap.lt_size (show h.get? a = some _ from x)
  | met f y => exact Heap.lt_size (show h.get? a = some _ from x)
  | ext φ => obtain ⟨_, ⟨_, e⟩, _⟩ := x; exact Heap.lt_size e
theorem Paired.mapP {α β : Type} {F G : α → β → Prop} : ∀ {l₁ : List α} {l₂ : List β}, Paired F l₁ l₂ → (∀ a b, F a b → G a b) → Paired G l₁ l₂
  | _, _, .nil, _ => .nil
  | _, _, .cons r t, f => .cons (f _ _ r) (Paired.mapP t f)
/-- what an object's description leans on: its own object, its own dict, the tuples -/
theorem ObjOk.stay (x : ObjOk P w H h a o) (k : ∀ b u, (b = a ∨ H b = some (.own a)) → h.get? b = some u → h'.get? b = some u)
    (ho : ∀ b, H b = some (.own a) → H' b = some (.own a)) (ht : ∀ b xs, H b = some (.tup xs) → H' b = some (.tup xs)) : ObjOk P w H' h' a o := by
  induction o with
  | lst xs => obtain ⟨z, its, n, r, e⟩ := x; exact ⟨z, its, n, r, k _ _ (.inl rfl) e⟩
  | tup xs => obtain ⟨z, its, r, ob, e, c⟩ := x; exact ⟨z, its, r, ob, k _ _ (.inl rfl) e, c⟩
  | dK kvs => obtain ⟨z, y, vs, r, ob, es, ep, e, c⟩ := x; exact ⟨z, y, vs, r, ob, es, ep, k _ _ (.inl rfl) e, c⟩
  | dT kvs =>
    obtain ⟨z, y, xs, r, ob, es, ep, e, c⟩ := x
    exact ⟨z, y, xs, Paired.mapP r fun p q z => ⟨z.1, ht _ _ z.2.1, z.2.2⟩, ob, es, ep, k _ _ (.inl rfl) e, c⟩
  | set S n => obtain ⟨ob, es, ep, t, e, c⟩ := x; exact ⟨ob, es, ep, t, k _ _ (.inl rfl) e, c⟩
  | ins C dx fs =>
    obtain ⟨d, z, ne, e, mA, ⟨od, es, ep, e2, c⟩, r⟩ := x
    exact ⟨ho _ d, z, ne, k _ _ (.inl rfl) e, mA, ⟨od, es, ep, k _ _ (.inr d) e2, c⟩, r⟩
  | own y => obtain ⟨ob, e⟩ := x; exact ⟨ob, k _ _ (.inl rfl) e⟩
  | xd fs => obtain ⟨mA, ⟨od, es, ep, e, c⟩, r⟩ := x; exact ⟨mA, ⟨od, es, ep, k _ _ (.inl rfl) e, c⟩, r⟩
  | rng lo hi => obtain ⟨t, u, v, e⟩ := x; exact ⟨t, u, v, k _ _ (.inl rfl) e⟩
  | frz ob u ih => obtain ⟨e, q⟩ := x; exact ⟨k _ _ (.inl rfl) e, ih q⟩
  | tbl ps =>
    have e : h.get? a = some { cls := .none, data := .fields ps } := x
    show h'.get? a = some { cls := .none, data := .fields ps }
    exact k a _ (.inl rfl) e
  | met f y =>
    have e : h.get? a = some (PySem.W.methodObj (.ref f) (.ref y)) := x
    show h'.get? a = some (PySem.W.methodObj (.ref f) (.ref y))
    exact k a _ (.inl rfl) e
  | ext φ => obtain ⟨p, ⟨o, e⟩, st⟩ := x; exact ⟨st _ _ p fun o q => k _ _ (.inl rfl) q, ⟨o, k _ _ (.inl rfl) e⟩, st⟩
theorem HOk.lt (x : HOk P w H h) (e : H a = some o) : a < h.objs.size := (x a o e).lt
theorem HOk.fresh (x : HOk P w H h) (e : h.objs.size ≤ a) : H a = none := by
  cases q : H a with
  | none => rfl
  | some u => exact absurd (Nat.lt_of_lt_of_le (x.lt q) e) (Nat.lt_irrefl _)
/-- every object of the heap is kept -/
theorem HOk.kept (x : HOk P w H h) (k : ∀ b u, h.get? b = some u → h'.get? b = some u) : HOk P w H h' := fun a o e =>
  (x a o e).stay (fun b u _ q => k b u q) (fun _ q => q) fun _ _ q => q
/-- a new object is laid and tracked -/
theorem HOk.laid (x : HOk P w H h) (k : ∀ b u, h.get? b = some u → h'.get? b = some u) (hp : h.objs.size ≤ a) (new : ObjOk P w (upd H a o) h' a o) : HOk P w (upd H a o) h' := fun b u e => by
  have hn := x.fresh hp
  by_cases hb : b = a
  · subst hb; rw [upd_same] at e; cases e; exact new
  · rw [upd_ne hb] at e
    exact (x b u e).stay (fun c v _ q => k c v q) (fun c q => by rw [upd_ne (ne_of_none q hn)]; exact q) fun c xs q => by rw [upd_ne (ne_of_none q hn)]; exact q
end

/-- what may be read as u: it is u, or a known u -/
noncomputable def Rd (H : Hp) (a : Addr) (u : HO) : Prop := H a = some u ∨ ∃ o, H a = some (.frz o u)
theorem Rd.ok {P : Program} {w : World} {H : Hp} {h : Heap} {a : Addr} {u : HO} (r : Rd H a u) (x : HOk P w H h) : ObjOk P w H h a u := by
  rcases r with r | ⟨o, r⟩
  · exact x a u r
  · obtain ⟨_, q⟩ := x a _ r
    exact q
/-- what may be written -/
noncomputable def Mut : Option HO → Prop
  | some (.lst _) => True
  | some (.dK _) => True
  | some (.dT _) => True
  | some (.set _ _) => True
  | some (.ins _ _ _) => True
  | some (.ext _) => True
  | _ => False
section
variable {P : Program} {w : World} {H : Hp} {h h' : Heap} {x e : Addr} {o' : HO}
/-- the object at e is changed: x itself, or the dict of the instance x -/
theorem HOk.write (ok : HOk P w H h) (mu : Mut (H x)) (he : e = x ∨ H e = some (.own x)) (k : ∀ b u, b ≠ e → h.get? b = some u → h'.get? b = some u) (heo : ∃ u, h'.get? e = some u)
    (new : ObjOk P w (upd H x o') h' x o') : HOk P w (upd H x o') h' := fun b u q => by
  have nown : ∀ c y, H c = some (.own y) → c ≠ x := fun c y r z => by subst z; rw [r] at mu; exact mu
  have ntup : ∀ c xs, H c = some (.tup xs) → c ≠ x := fun c xs r z => by subst z; rw [r] at mu; exact mu
  by_cases hb : b = x
  · subst hb; rw [upd_same] at q; cases q; exact new
  · rw [upd_ne hb] at q
    by_cases hbe : b = e
    · have q' : H b = some (.own x) := by
        rcases he with z | z
        · exact absurd (hbe.trans z) hb
        · rw [hbe]; exact z
      rw [q] at q'; cases q'
      obtain ⟨v, hv⟩ := heo
      exact ⟨v, by rw [hbe]; exact hv⟩
    · refine (ok b u q).stay (fun c v hc r => k c v ?_ r) (fun c r => by rw [upd_ne (nown c b r)]; exact r) fun c xs r => by rw [upd_ne (ntup c xs r)]; exact r
      rcases hc with rfl | hc
      · exact hbe
      · rintro rfl
        rcases he with z | z
        · exact nown c b hc z
        · rw [hc] at z; cases z; exact hb rfl
end

/-! ### kept unless tracked; of the frames at fs (the callers') the slots may change (an exception that passes writes there); of the records at ex (iterators) nothing is said -/
structure Un (fs ex : List Addr) (H H' : Hp) (h h' : Heap) : Prop where
  keep : ∀ b o, h.get? b = some o → H b = none → b ∉ fs → b ∉ ex → h'.get? b = some o
  slot : ∀ b o, h.get? b = some o → H b = none → b ∈ fs → b ∉ ex → ∃ sl, h'.get? b = some { o with slots := sl }
  free : ∀ b o, h.get? b = some o → H b = none → b ∉ ex → H' b = none
  there : ∀ b o, h.get? b = some o → b ∉ ex → ∃ o', h'.get? b = some o'
  tups : ∀ b xs, H b = some (.tup xs) → H' b = some (.tup xs)
  frzs : ∀ b o u, H b = some (.frz o u) → H' b = some (.frz o u)
  tbls : ∀ b ps, H b = some (.tbl ps) → ∃ more, H' b = some (.tbl (ps ++ more))
section
variable {fs fs' ex ex' : List Addr} {H H1 H2 : Hp} {h h1 h2 h' : Heap} {a x e : Addr} {o : HO}
theorem Un.any (u : Un fs ex H H1 h h1) {b : Addr} {ob : Obj} (q : h.get? b = some ob) (n : H b = none) (hx : b ∉ ex) : ∃ sl, h1.get? b = some { ob with slots := sl } := by
  by_cases hb : b ∈ fs
  · exact u.slot b ob q n hb hx
  · exact ⟨ob.slots, u.keep b ob q n hb hx⟩
theorem Un.kept (k : ∀ b u, h.get? b = some u → h'.get? b = some u) : Un fs ex H H h h' :=
  ⟨fun b ob q _ _ _ => k b ob q, fun b ob q _ _ _ => ⟨ob.slots, k b ob q⟩, fun _ _ _ n _ => n, fun b ob q _ => ⟨ob, k b ob q⟩, fun _ _ q => q, fun _ _ _ q => q, fun _ ps q => ⟨#[], by rw [q]; simp⟩⟩
theorem Un.refl : Un fs ex H H h h := Un.kept fun _ _ q => q
theorem Un.laid (k : ∀ b u, h.get? b = some u → h'.get? b = some u) (hp : h.objs.size ≤ a) (hn : H a = none) : Un fs ex H (upd H a o) h h' where
  keep := fun b u q _ _ _ => k b u q
  slot := fun b u q _ _ _ => ⟨u.slots, k b u q⟩
  free := fun b u q n _ => by rw [upd_ne (Nat.ne_of_lt (Nat.lt_of_lt_of_le (Heap.lt_size q) hp))]; exact n
  there := fun b u q _ => ⟨u, k b u q⟩
  tups := fun b xs q => by rw [upd_ne (ne_of_none q hn)]; exact q
  frzs := fun b u xs q => by rw [upd_ne (ne_of_none q hn)]; exact q
  tbls := fun b ps q => ⟨#[], by rw [upd_ne (ne_of_none q hn), q]; simp⟩
theorem Un.write (mu : Mut (H x)) (he : e = x ∨ H e = some (.own x)) (k : ∀ b u, b ≠ e → h.get? b = some u → h'.get? b = some u) (heo : ∃ u, h'.get? e = some u) : Un fs ex H (upd H x o) h h' := by
  have hx : ∀ b, H b = none → b ≠ x := fun b n z => by subst z; rw [n] at mu; exact mu
  have hb : ∀ b, H b = none → b ≠ e := fun b n z => by
    subst z
    rcases he with r | r
    · exact hx b n r
    · rw [n] at r; cases r
  have hm : ∀ b u, H b = some u → ¬ Mut (some u) → b ≠ x := fun b u q nm z => by subst z; rw [q] at mu; exact nm mu
  refine ⟨fun b u q n _ _ => k b u (hb b n) q, fun b u q n _ _ => ⟨u.slots, k b u (hb b n) q⟩, fun b u q n _ => by rw [upd_ne (hx b n)]; exact n, fun b u q _ => ?_,
    fun b xs q => by rw [upd_ne (hm b _ q fun z => z)]; exact q, fun b u xs q => by rw [upd_ne (hm b _ q fun z => z)]; exact q, fun b ps q => ⟨#[], by rw [upd_ne (hm b _ q fun z => z), q]; simp⟩⟩
  by_cases hbe : b = e
  · subst hbe; exact heo
  · exact ⟨u, k b u hbe q⟩
end

/-! ### the heap without what is tracked -/
noncomputable def trk (h : Heap) (H : Hp) : List Addr := (List.range h.objs.size).filter fun a => (H a).isSome
noncomputable def hidT (h : Heap) (H : Hp) : Heap := PySem.W.hideAll h (trk h H)
theorem hidT_size (h : Heap) (H : Hp) : (hidT h H).objs.size = h.objs.size := PySem.W.hideAll_size _ _
theorem hidT_get {h : Heap} {H : Hp} {b : Addr} {o : Obj} (e : h.get? b = some o) (n : H b = none) : (hidT h H).get? b = some o :=
  PySem.W.hideAll_get _ e fun hm => by
    have q : (H b).isSome = true := (List.mem_filter.mp hm).2
    rw [n] at q; simp at q
theorem of_hidT {h : Heap} {H : Hp} {b : Addr} {o : Obj} (e : (hidT h H).get? b = some o) : h.get? b = some o ∧ H b = none := by
  have e' : h.get? b = some o := PySem.W.of_hideAll (trk h H) e
  refine ⟨e', ?_⟩
  cases q : H b with
  | none => rfl
  | some x =>
    have hm : b ∈ trk h H := List.mem_filter.mpr ⟨List.mem_range.mpr (Heap.lt_size e'), by simp [q]⟩
    have z : (hidT h H).get? b = none := PySem.W.hideAll_none (trk h H) hm
    rw [z] at e; cases e

/-! ### OpenK's ledger, filled with every new object but one -/
end L2

namespace L2
open PySem PySem.Spec PyProof.Rows

/-- the module's facts, over the base: the heap at the law's entry without what is tracked there -/
structure Mod (K : PySem.W.Frag) (mg : Str → Option Value) (base : Heap) : Prop where
  kin : K.In base
  glob : base.Ns mainGlobals mg
  blt : ∃ mb, base.Ns builtinsNs mb ∧ ∀ x : Str, x ≠ "__name__" → mb x = bootBuiltins x
  nolimit : base.NoLimit

/-- the context: a def's body (or a comprehension's block) running. base: fixed through the whole law; s₀, H₀: the entry; outer: the frames whose slots others may change (a def's callers); stack: all frames that run;
   ex: iterators that were made ahead of the entry and are walked here (a comprehension's); fn: the names whose cells were made at the entry (a def: all; a comprehension's block: its own); calm: not within an except suite; pn: pins that every state bears; xe: what is wanted of an exception that leaves the code -/
structure Cx where
  prog : Program
  w : World
  K : PySem.W.Frag
  mg : Str → Option Value
  base : Heap
  A : Around
  N : List Str
  s₀ : Shared
  H₀ : Hp
  env : Env
  outer : List Env
  stack : List Env
  ex : List Addr
  fn : Str → Bool
  calm : Bool
  pn : List (Addr × Obj)
  xe : Value → Shared → Prop
/-- the callers' frames -/
noncomputable def frs (l : List Env) : List Addr := l.filterMap (·.frame)
noncomputable abbrev Cx.fs (X : Cx) : List Addr := frs X.outer

noncomputable def Vis (sc : Scope) (x : Str) : Prop := sc.names.lookup x = some .local ∨ sc.names.lookup x = some .cell ∨ sc.names.lookup x = some .free
noncomputable def Loc (sc : Scope) (x : Str) : Prop := sc.names.lookup x = some .local ∨ sc.names.lookup x = some .cell
noncomputable def Look (env : Env) (h : Heap) (m : Str → Option Value) (x : Str) (u : Value) : Prop :=
  (env.kindOf x = some .local ∧ m x = some u) ∨ ((env.kindOf x = some .cell ∨ env.kindOf x = some .free) ∧ ∃ c, env.cells.lookup x = some c ∧ h.IsCell c (some u))

structure Cx.Ok (X : Cx) : Prop where
  mod : Mod X.K X.mg X.base
  kind : X.env.scope.kind = .function
  glob : X.env.globals = mainGlobals
  blt : X.env.builtins = builtinsNs
  above : X.s₀.heap.objs.size ≤ X.env.locals
  inj : ∀ x y c, X.env.cells.lookup x = some c → X.env.cells.lookup y = some c → x = y
  has : ∀ x, (X.env.kindOf x = some .cell ∨ X.env.kindOf x = some .free) → ∃ c, X.env.cells.lookup x = some c
  cab : ∀ x c, X.fn x = true → X.env.cells.lookup x = some c → X.s₀.heap.objs.size ≤ c
  hd : X.calm = true → X.A.handled = none
  frames : X.A.frames = some X.stack
  stk : X.stack = X.outer ∨ (X.stack = X.env :: X.outer ∧ X.env.frame = some X.env.locals)
  exf : ∀ b ∈ X.ex, b ≠ X.env.locals ∧ ∀ x c, X.env.cells.lookup x = some c → c ≠ b
  bs : ∀ b o, X.base.get? b = some o → X.s₀.heap.get? b = some o ∧ X.H₀ b = none
  bsz : X.base.objs.size ≤ X.s₀.heap.objs.size
  noex : ∀ b o, X.base.get? b = some o → b ∉ X.ex
  exfs : ∀ b ∈ X.ex, b ∉ X.fs
  funs : X.s₀.heap.FunFrames X.base X.outer
  frf : ∀ b ∈ X.fs, X.H₀ b = none

structure Inv (X : Cx) (pins : List (Addr × Obj)) (σ : List (Option V)) (H : Hp) (s : Shared) : Prop where
  ok : X.Ok
  os : s.os = X.s₀.os
  bare : AllBare s.gens
  base : Un X.fs X.ex X.H₀ H X.s₀.heap s.heap
  loc : ∃ m, s.heap.Ns X.env.locals m ∧ ∀ (i : Nat) (x : Str) (v : V), X.N[i]? = some x → σ[i]? = some (some v) → Vis X.env.scope x → ∃ u, RelV v u ∧ Look X.env s.heap m x u
  cell : ∀ x c, X.env.cells.lookup x = some c → ∃ v, s.heap.IsCell c v
  free : H X.env.locals = none
  freeC : ∀ x c, X.env.cells.lookup x = some c → H c = none
  pin : ∀ p ∈ X.pn ++ pins, s.heap.get? p.1 = some p.2 ∧ H p.1 = none ∧ p.1 ≠ X.env.locals ∧ p.1 ∉ X.fs ∧ ∀ v, p.2.data ≠ .cell v
  hok : HOk X.prog X.w H s.heap
  len : σ.length = X.N.length

section
variable {X : Cx} {pins : List (Addr × Obj)} {σ : List (Option V)} {H H' : Hp} {s : Shared} {h' : Heap}

theorem Cx.Ok.nofr (ok : X.Ok) {b : Addr} {o : Obj} (e : X.base.get? b = some o) : b ∉ X.fs := fun hb => by
  have := (ok.funs.mem hb).1
  rw [e] at this; cases this
theorem Inv.bs (I : Inv X pins σ H s) : ∀ b o, X.base.get? b = some o → s.heap.get? b = some o ∧ H b = none := fun b o e =>
  ⟨I.base.keep b o (I.ok.bs b o e).1 (I.ok.bs b o e).2 (I.ok.nofr e) (I.ok.noex b o e), I.base.free b o (I.ok.bs b o e).1 (I.ok.bs b o e).2 (I.ok.noex b o e)⟩
theorem Inv.bk (I : Inv X pins σ H s) : ∀ b o, X.base.get? b = some o → s.heap.get? b = some o := fun b o e => (I.bs b o e).1
theorem Inv.mod (I : Inv X pins σ H s) : Mod X.K X.mg X.base := I.ok.mod
theorem Inv.kIn (I : Inv X pins σ H s) : X.K.In s.heap := I.ok.mod.kin.keeps I.bk
theorem Inv.lt (I : Inv X pins σ H s) : X.env.locals < s.heap.objs.size := let ⟨_, hn, _⟩ := I.loc; hn.lt
theorem Inv.sz (I : Inv X pins σ H s) : X.s₀.heap.objs.size ≤ s.heap.objs.size := Nat.le_trans I.ok.above (Nat.le_of_lt I.lt)
theorem Inv.nofs (I : Inv X pins σ H s) {a : Addr} (h : s.heap.objs.size ≤ a) : a ∉ X.fs := fun hb => by
  obtain ⟨_, o, ho, _⟩ := I.ok.funs.mem hb
  exact absurd (Nat.lt_of_lt_of_le (Heap.lt_size ho) (Nat.le_trans I.sz h)) (Nat.lt_irrefl _)
theorem Inv.cne (I : Inv X pins σ H s) : ∀ x c, X.env.cells.lookup x = some c → c ≠ X.env.locals := fun x c e z => by
  obtain ⟨v, o, ho, hd⟩ := I.cell x c e
  obtain ⟨m, ⟨o', es, ep, ho', hd', _⟩, _⟩ := I.loc
  rw [z, ho'] at ho; cases ho; rw [hd'] at hd; cases hd
theorem Inv.funs (I : Inv X pins σ H s) : s.heap.FunFrames X.base X.outer := by
  have all : ∀ (l : List Env), (∀ b ∈ frs l, b ∈ X.fs) → X.s₀.heap.FunFrames X.base l → s.heap.FunFrames X.base l := by
    intro l
    induction l with
    | nil => intro _ _; trivial
    | cons env r ih =>
      intro hs hl
      obtain ⟨hk, ⟨L, o, hf, hn, ho, hd⟩, hr⟩ := hl
      have hL : L ∈ X.fs := hs L (by unfold frs; rw [List.filterMap_cons, hf]; exact List.mem_cons_self)
      obtain ⟨sl, e⟩ := I.base.slot L o ho (I.ok.frf L hL) hL fun z => I.ok.exfs L z hL
      exact ⟨hk, ⟨L, _, hf, hn, e, hd⟩, ih (fun b hb => hs b (by unfold frs; rw [List.filterMap_cons, hf]; exact List.mem_cons_of_mem _ hb)) hr⟩
  exact all X.outer (fun _ hb => hb) I.ok.funs

/-- the frames that run, for a call -/
theorem Inv.stack (I : Inv X pins σ H s) : s.heap.FunFrames X.base X.stack := by
  rcases I.ok.stk with e | ⟨e, hf⟩
  · rw [e]; exact I.funs
  · rw [e]
    obtain ⟨m, hn, _⟩ := I.loc
    refine .cons (by rw [I.ok.kind]; decide) hf hn ?_ I.funs
    exact Heap.get?_none_of_le (Nat.le_trans I.ok.bsz I.ok.above)
theorem Inv.stkSub (I : Inv X pins σ H s) : ∀ b ∈ frs X.stack, b ∈ X.env.locals :: X.fs := fun b hb => by
  rcases I.ok.stk with e | ⟨e, hf⟩
  · rw [e] at hb; exact List.mem_cons_of_mem _ hb
  · rw [e] at hb
    unfold frs at hb
    rw [List.filterMap_cons, hf] at hb
    exact hb
theorem Inv.stkFree (I : Inv X pins σ H s) : ∀ b ∈ frs X.stack, H b = none := fun b hb => by
  rcases List.mem_cons.mp (I.stkSub b hb) with e | hb
  · rw [e]; exact I.free
  · obtain ⟨_, o, ho, _⟩ := I.ok.funs.mem hb
    exact I.base.free b o ho (I.ok.frf b hb) fun z => I.ok.exfs b z hb

/-- THE STEP: the untracked objects but the frame and the records at ch are kept (the callers' frames up to slots), the frame's map is kept, the new abstract heap is held -/
theorem Inv.step {g' : Array GenState} {t' : Nat} {d' : Drawn} {ch : List Addr} (I : Inv X pins σ H s)
    (hch : ∀ b ∈ ch, (b ∈ X.ex ∨ X.s₀.heap.objs.size ≤ b) ∧ b ≠ X.env.locals ∧ (∀ x c, X.env.cells.lookup x = some c → c ≠ b) ∧ ∀ p ∈ X.pn ++ pins, p.1 ≠ b)
    (keep : ∀ b o, b ≠ X.env.locals → b ∉ X.fs → b ∉ ch → s.heap.get? b = some o → H b = none → h'.get? b = some o)
    (slot : ∀ b o, b ≠ X.env.locals → b ∈ X.fs → b ∉ ch → s.heap.get? b = some o → H b = none → ∃ sl, h'.get? b = some { o with slots := sl }) (free : ∀ b o, b ∉ ch → s.heap.get? b = some o → H b = none → H' b = none)
    (there : ∀ b o, b ∉ ch → s.heap.get? b = some o → ∃ o', h'.get? b = some o')
    (tups : ∀ b xs, H b = some (.tup xs) → H' b = some (.tup xs)) (frzs : ∀ b o u, H b = some (.frz o u) → H' b = some (.frz o u)) (tbls : ∀ b ps, H b = some (.tbl ps) → ∃ more, H' b = some (.tbl (ps ++ more)))
    (ns : ∀ m, s.heap.Ns X.env.locals m → h'.Ns X.env.locals m) (hok : HOk X.prog X.w H' h') (hg : AllBare g') :
    Inv X pins σ H' { s with heap := h', gens := g', drawn := d', toks := t' } := by
  have neL : ∀ b o, X.s₀.heap.get? b = some o → b ≠ X.env.locals := fun b o e => Nat.ne_of_lt (Nat.lt_of_lt_of_le (Heap.lt_size e) I.ok.above)
  have neC : ∀ b o, X.s₀.heap.get? b = some o → b ∉ X.ex → b ∉ ch := fun b o e hx hb => by
    rcases (hch b hb).1 with z | z
    · exact hx z
    · exact absurd (Nat.lt_of_lt_of_le (Heap.lt_size e) z) (Nat.lt_irrefl _)
  have cellK : ∀ x c, X.env.cells.lookup x = some c → ∀ v, s.heap.IsCell c v → h'.IsCell c v := fun x c e v ⟨o, ho, hd⟩ => by
    have nch : c ∉ ch := fun z => (hch c z).2.2.1 x c e rfl
    by_cases hc : c ∈ X.fs
    · obtain ⟨sl, q⟩ := slot c o (I.cne x c e) hc nch ho (I.freeC x c e)
      exact ⟨_, q, hd⟩
    · exact ⟨o, keep c o (I.cne x c e) hc nch ho (I.freeC x c e), hd⟩
  refine ⟨I.ok, I.os, hg, ⟨fun b o e n hb hx => ?_, fun b o e n hb hx => ?_, fun b o e n hx => ?_, fun b o e hx => ?_, fun b xs e => tups b xs (I.base.tups b xs e), fun b o xs e => frzs b o xs (I.base.frzs b o xs e), fun b ps e => ?_⟩, ?_, fun x c e => ?_, ?_, fun x c e => ?_, fun p hp => ?_, hok, I.len⟩
  · exact keep b o (neL b o e) hb (neC b o e hx) (I.base.keep b o e n hb hx) (I.base.free b o e n hx)
  · obtain ⟨sl, e1⟩ := I.base.slot b o e n hb hx
    obtain ⟨sl', e2⟩ := slot b _ (neL b o e) hb (neC b o e hx) e1 (I.base.free b o e n hx)
    exact ⟨sl', e2⟩
  · obtain ⟨o', e1⟩ := I.base.there b o e hx
    exact free b o' (neC b o e hx) e1 (I.base.free b o e n hx)
  · obtain ⟨o', e1⟩ := I.base.there b o e hx
    exact there b o' (neC b o e hx) e1
  · obtain ⟨m1, e1⟩ := I.base.tbls b ps e
    obtain ⟨m2, e2⟩ := tbls b _ e1
    exact ⟨m1 ++ m2, by rw [e2, Array.append_assoc]⟩
  · obtain ⟨m, hn, hl⟩ := I.loc
    refine ⟨m, ns m hn, fun i x v e1 e2 e3 => ?_⟩
    obtain ⟨u, r, l⟩ := hl i x v e1 e2 e3
    refine ⟨u, r, ?_⟩
    rcases l with l | ⟨k, c, e, z⟩
    · exact .inl l
    · exact .inr ⟨k, c, e, cellK x c e _ z⟩
  · obtain ⟨v, z⟩ := I.cell x c e
    exact ⟨v, cellK x c e v z⟩
  · obtain ⟨m, ⟨o, _, _, ho, _⟩, _⟩ := I.loc
    exact free _ o (fun z => (hch _ z).2.1 rfl) ho I.free
  · obtain ⟨v, o, ho, hd⟩ := I.cell x c e
    exact free c o (fun z => (hch c z).2.2.1 x c e rfl) ho (I.freeC x c e)
  · obtain ⟨e, n, ne, nf, d⟩ := I.pin p hp
    have nch : p.1 ∉ ch := fun z => (hch p.1 z).2.2.2 p hp rfl
    exact ⟨keep p.1 p.2 ne nf nch e n, free p.1 p.2 nch e n, ne, nf, d⟩
/-- .. where the frame's own object is kept too -/
theorem Inv.un {t' : Nat} (I : Inv X pins σ H s) (u : Un X.fs [] H H' s.heap h') (hok : HOk X.prog X.w H' h') : Inv X pins σ H' { s with heap := h', toks := t' } := by
  obtain ⟨m, ⟨o, es, ep, ho, r⟩, _⟩ := id I.loc
  obtain ⟨sl, hL⟩ := u.any ho I.free (by simp)
  exact I.step (g' := s.gens) (d' := s.drawn) (ch := []) (fun _ z => nomatch z) (fun b o _ hb _ e n => u.keep b o e n hb (by simp)) (fun b o _ hb _ e n => u.slot b o e n hb (by simp)) (fun b o _ e n => u.free b o e n (by simp)) (fun b o _ e => u.there b o e (by simp)) u.tups u.frzs u.tbls (fun m' hm => by
    obtain ⟨o', es', ep', ho', r'⟩ := hm
    rw [ho] at ho'; cases ho'
    exact ⟨_, es', ep', hL, r'⟩) hok I.bare
/-- behind a call (or a comprehension's block): the slots of this frame may have changed too, the records at ch may have turned -/
theorem Inv.call {g' : Array GenState} {t' : Nat} {d' : Drawn} {ch : List Addr} (I : Inv X pins σ H s) (u : Un (frs X.stack) ch H H' s.heap h') (hok : HOk X.prog X.w H' h') (hg : AllBare g')
    (hch : ∀ b ∈ ch, (b ∈ X.ex ∨ X.s₀.heap.objs.size ≤ b) ∧ b ≠ X.env.locals ∧ (∀ x c, X.env.cells.lookup x = some c → c ≠ b) ∧ ∀ p ∈ X.pn ++ pins, p.1 ≠ b) :
    Inv X pins σ H' { s with heap := h', gens := g', drawn := d', toks := t' } := by
  obtain ⟨m, ⟨o, es, ep, ho, r⟩, _⟩ := id I.loc
  obtain ⟨sl, hL⟩ := u.any ho I.free fun z => (hch _ z).2.1 rfl
  exact I.step (ch := ch) hch (fun b o hL hb hc e n => u.keep b o e n (fun z => (List.mem_cons.mp (I.stkSub b z)).elim hL hb) hc) (fun b o _ _ hc e n => u.any e n hc) (fun b o hc e n => u.free b o e n hc) (fun b o hc e => u.there b o e hc) u.tups u.frzs u.tbls (fun m' hm => by
    obtain ⟨o', es', ep', ho', r'⟩ := hm
    rw [ho] at ho'; cases ho'
    exact ⟨_, es', ep', hL, r'⟩) hok hg
/-- an untracked record of ours (an iterator) has turned -/
theorem Inv.turned {t' : Nat} {it : Addr} (I : Inv X pins σ H s) (k : ∀ b o, b ≠ it → s.heap.get? b = some o → h'.get? b = some o) (hn : H it = none) (hL : it ≠ X.env.locals)
    (h1 : it ∈ X.ex ∨ X.s₀.heap.objs.size ≤ it) (h2 : ∀ x c, X.env.cells.lookup x = some c → c ≠ it) (h3 : ∀ p ∈ X.pn ++ pins, p.1 ≠ it) : Inv X pins σ H { s with heap := h', toks := t' } := by
  have nit : ∀ b u, H b = some u → b ≠ it := fun b u e z => by rw [z, hn] at e; cases e
  refine I.step (g' := s.gens) (d' := s.drawn) (ch := [it]) (fun b hb => ?_) (fun b o _ _ hc e _ => k b o (fun z => hc (by simp [z])) e) (fun b o _ _ hc e _ => ⟨o.slots, k b o (fun z => hc (by simp [z])) e⟩) (fun _ _ _ _ n => n)
    (fun b o hc e => ⟨o, k b o (fun z => hc (by simp [z])) e⟩) (fun _ _ e => e) (fun _ _ _ e => e) (fun b ps e => ⟨#[], by rw [e]; simp⟩) (fun m hm => ?_) (fun b u e => ?_) I.bare
  · have e : b = it := by simpa using hb
    subst e
    exact ⟨h1, hL, h2, h3⟩
  · obtain ⟨o, es, ep, ho, r⟩ := hm
    exact ⟨o, es, ep, k _ o (Ne.symm hL) ho, r⟩
  · refine (I.hok b u e).stay (fun c v hc q => k c v ?_ q) (fun _ q => q) fun _ _ q => q
    rcases hc with z | z
    · rw [z]; exact nit b u e
    · exact nit c _ z
theorem Inv.tok (I : Inv X pins σ H s) (t : Nat) : Inv X pins σ H { s with toks := t } := I.un (h' := s.heap) (t' := t) Un.refl I.hok
/-- all objects kept -/
theorem Inv.kept {t' : Nat} (I : Inv X pins σ H s) (k : ∀ b u, s.heap.get? b = some u → h'.get? b = some u) : Inv X pins σ H { s with heap := h', toks := t' } := I.un (Un.kept k) (I.hok.kept k)
/-- a new object laid and tracked -/
theorem Inv.laid {a : Addr} {o : HO} {t' : Nat} (I : Inv X pins σ H s) (k : ∀ b u, s.heap.get? b = some u → h'.get? b = some u) (hp : s.heap.objs.size ≤ a) (new : ObjOk X.prog X.w (upd H a o) h' a o) :
    Inv X pins σ (upd H a o) { s with heap := h', toks := t' } := I.un (Un.laid k hp (I.hok.fresh hp)) (I.hok.laid k hp new)
/-- an object written -/
theorem Inv.write {x e : Addr} {o : HO} {t' : Nat} (I : Inv X pins σ H s) (mu : Mut (H x)) (he : e = x ∨ H e = some (.own x)) (k : ∀ b u, b ≠ e → s.heap.get? b = some u → h'.get? b = some u) (heo : ∃ u, h'.get? e = some u)
    (new : ObjOk X.prog X.w (upd H x o) h' x o) : Inv X pins σ (upd H x o) { s with heap := h', toks := t' } := I.un (Un.write mu he k heo) (I.hok.write mu he k heo new)
theorem Inv.pins_of {pins' : List (Addr × Obj)} (I : Inv X pins σ H s) (h : ∀ p ∈ pins', s.heap.get? p.1 = some p.2 ∧ H p.1 = none ∧ p.1 ≠ X.env.locals ∧ p.1 ∉ X.fs ∧ ∀ v, p.2.data ≠ .cell v) : Inv X pins' σ H s :=
  ⟨I.ok, I.os, I.bare, I.base, I.loc, I.cell, I.free, I.freeC, fun p hp => (List.mem_append.mp hp).elim (fun z => I.pin p (List.mem_append_left _ z)) (h p), I.hok, I.len⟩

theorem nodup_ix {N : List Str} (hN : N.Nodup) {i j : Nat} {x : Str} (a : N[i]? = some x) (b : N[j]? = some x) : i = j := by
  obtain ⟨h1, e1⟩ := List.getElem?_eq_some_iff.mp a
  obtain ⟨h2, e2⟩ := List.getElem?_eq_some_iff.mp b
  exact (List.getElem_inj hN).mp (e1.trans e2.symm)

/-- a name is stored; what changed -/
theorem store_ok2 {M : Model} {A : Around} {E : Value → Shared → Prop} {i : Nat} {x : Str} {v : V} {u : Value} {Q : Unit → Shared → Prop} (I : Inv X pins σ H s) (hN : X.N.Nodup) (hi : X.N[i]? = some x) (hx : Loc X.env.scope x) (r : RelV v u)
    (h : ∀ s', Inv X pins (σ.set i (some v)) H s' → (∃ a, Heap.SameBut a s.heap s'.heap ∧ (a = X.env.locals ∨ X.env.cells.lookup x = some a)) → Q () s') (hf : X.fn x = true ∨ X.env.scope.names.lookup x = some .local := by first | exact .inl rfl | exact .inr rfl | assumption) : wpAny M A (storeName X.env x u) Q E s := by
  obtain ⟨m, hn, hl⟩ := id I.loc
  have hcls : (X.env.scope.kind == .class || (X.env.scope.kind == .module && X.env.locals != X.env.globals)) = false := by rw [I.ok.kind]; rfl
  have hiσ : i < σ.length := by rw [I.len]; exact (List.getElem?_eq_some_iff.mp hi).1
  have cne := I.cne
  have tracked : ∀ {a : Addr} {h' : Heap}, (∃ o, s.heap.get? a = some o ∧ H a = none) → Heap.SameBut a s.heap h' → HOk X.prog X.w H h' := fun {a h'} ha hs b ob e => by
    obtain ⟨_, _, hfree⟩ := ha
    refine (I.hok b ob e).stay (fun c w' hc q => (hs.2 c ?_).trans q) (fun _ q => q) fun _ _ q => q
    rintro rfl
    rcases hc with rfl | hc
    · rw [hfree] at e; cases e
    · rw [hfree] at hc; cases hc
  rcases hx with hk | hk
  · refine wpAny_storeName_local hk hn (fun h' hn' hs => ?_) hcls
    obtain ⟨oL, _, _, hoL, _⟩ := id hn
    refine h _ ⟨I.ok, I.os, I.bare, ⟨fun b o e n hb hx => ?_, fun b o e n hb hx => ?_, I.base.free, fun b o e hx => ?_, I.base.tups, I.base.frzs, I.base.tbls⟩, ⟨_, hn', fun j y v' e1 e2 e3 => ?_⟩, fun y c e => ?_, I.free, I.freeC, fun p hp => ?_, tracked ⟨oL, hoL, I.free⟩ hs, by simpa using I.len⟩ ⟨_, hs, .inl rfl⟩
    · exact (hs.2 b (Nat.ne_of_lt (Nat.lt_of_lt_of_le (Heap.lt_size e) I.ok.above))).trans (I.base.keep b o e n hb hx)
    · obtain ⟨sl, e1⟩ := I.base.slot b o e n hb hx
      exact ⟨sl, (hs.2 b (Nat.ne_of_lt (Nat.lt_of_lt_of_le (Heap.lt_size e) I.ok.above))).trans e1⟩
    · obtain ⟨o', e1⟩ := I.base.there b o e hx
      exact ⟨o', (hs.2 b (Nat.ne_of_lt (Nat.lt_of_lt_of_le (Heap.lt_size e) I.ok.above))).trans e1⟩
    · by_cases hj : j = i
      · subst hj
        rw [hi] at e1; cases e1
        rw [List.getElem?_set_self hiσ] at e2
        cases e2
        exact ⟨u, r, .inl ⟨hk, by simp⟩⟩
      · rw [List.getElem?_set_ne (Ne.symm hj)] at e2
        obtain ⟨u', r', q⟩ := hl j y v' e1 e2 e3
        refine ⟨u', r', ?_⟩
        rcases q with ⟨k, e⟩ | ⟨k, c, e, z⟩
        · refine .inl ⟨k, ?_⟩
          have : y ≠ x := fun e => hj (nodup_ix hN e1 (e ▸ hi))
          simp [this, e]
        · exact .inr ⟨k, c, e, z.sameBut hs (cne y c e)⟩
    · obtain ⟨w', z⟩ := I.cell y c e
      exact ⟨w', z.sameBut hs (cne y c e)⟩
    · obtain ⟨e, n, ne, nf, d⟩ := I.pin p hp
      exact ⟨(hs.2 p.1 ne).trans e, n, ne, nf, d⟩
  · have hfn : X.fn x = true := by
      rcases hf with z | z
      · exact z
      · rw [z] at hk; cases hk
    obtain ⟨c, hc⟩ := I.ok.has x (.inl hk)
    obtain ⟨w', z⟩ := I.cell x c hc
    refine wpAny_storeName_cell I.ok.kind hk hc z (fun h' hc' hs => ?_)
    obtain ⟨oc, hoc, hocd⟩ := id z
    refine h { s with heap := h' } ⟨I.ok, I.os, I.bare, ⟨fun b o e n hb hx => ?_, fun b o e n hb hx => ?_, I.base.free, fun b o e hx => ?_, I.base.tups, I.base.frzs, I.base.tbls⟩, ⟨m, hn.sameBut hs (Ne.symm (cne x c hc)), fun j y v' e1 e2 e3 => ?_⟩, fun y c' e => ?_, I.free, I.freeC, fun p hp => ?_, tracked ⟨oc, hoc, I.freeC x c hc⟩ hs, by simpa using I.len⟩ ⟨c, hs, .inr hc⟩
    · exact (hs.2 b (Nat.ne_of_lt (Nat.lt_of_lt_of_le (Heap.lt_size e) (I.ok.cab x c hfn hc)))).trans (I.base.keep b o e n hb hx)
    · obtain ⟨sl, e1⟩ := I.base.slot b o e n hb hx
      exact ⟨sl, (hs.2 b (Nat.ne_of_lt (Nat.lt_of_lt_of_le (Heap.lt_size e) (I.ok.cab x c hfn hc)))).trans e1⟩
    · obtain ⟨o', e1⟩ := I.base.there b o e hx
      exact ⟨o', (hs.2 b (Nat.ne_of_lt (Nat.lt_of_lt_of_le (Heap.lt_size e) (I.ok.cab x c hfn hc)))).trans e1⟩
    · by_cases hj : j = i
      · subst hj
        rw [hi] at e1; cases e1
        rw [List.getElem?_set_self hiσ] at e2
        cases e2
        exact ⟨u, r, .inr ⟨.inl hk, c, hc, hc'⟩⟩
      · rw [List.getElem?_set_ne (Ne.symm hj)] at e2
        obtain ⟨u', r', q⟩ := hl j y v' e1 e2 e3
        refine ⟨u', r', ?_⟩
        rcases q with q | ⟨k, c', e, z'⟩
        · exact .inl q
        · refine .inr ⟨k, c', e, z'.sameBut hs ?_⟩
          rintro rfl
          exact hj (nodup_ix hN e1 (I.ok.inj _ _ _ e hc ▸ hi))
    · by_cases hcc : c' = c
      · subst hcc; exact ⟨_, hc'⟩
      · obtain ⟨w2, z2⟩ := I.cell y c' e
        exact ⟨w2, z2.sameBut hs hcc⟩
    · obtain ⟨e, n, ne, nf, d⟩ := I.pin p hp
      refine ⟨(hs.2 p.1 ?_).trans e, n, ne, nf, d⟩
      intro q
      rw [q, hoc] at e
      have q' : oc = p.2 := Option.some.inj e
      exact d w' (by rw [← q']; exact hocd)
theorem store_ok {M : Model} {A : Around} {E : Value → Shared → Prop} {i : Nat} {x : Str} {v : V} {u : Value} {Q : Unit → Shared → Prop} (I : Inv X pins σ H s) (hN : X.N.Nodup) (hi : X.N[i]? = some x) (hx : Loc X.env.scope x) (r : RelV v u)
    (h : ∀ s', Inv X pins (σ.set i (some v)) H s' → Q () s') (hf : X.fn x = true ∨ X.env.scope.names.lookup x = some .local := by first | exact .inl rfl | exact .inr rfl | assumption) : wpAny M A (storeName X.env x u) Q E s :=
  store_ok2 I hN hi hx r (fun s' I' _ => h s' I') hf
/-- behind a call or a block, the state as it is -/
theorem Inv.call' {s' : Shared} {ch : List Addr} (I : Inv X pins σ H s) (ho : s'.os = s.os) (u : Un (frs X.stack) ch H H' s.heap s'.heap) (hok : HOk X.prog X.w H' s'.heap) (hg : AllBare s'.gens)
    (hch : ∀ b ∈ ch, (b ∈ X.ex ∨ X.s₀.heap.objs.size ≤ b) ∧ b ≠ X.env.locals ∧ (∀ x c, X.env.cells.lookup x = some c → c ≠ b) ∧ ∀ p ∈ X.pn ++ pins, p.1 ≠ b) : Inv X pins σ H' s' := by
  obtain ⟨h', g', d', t', o'⟩ := s'
  have e : o' = s.os := ho
  subst e
  exact I.call (g' := g') (t' := t') (d' := d') u hok hg hch
end

/-! ### the judgements -/
/-- an exception: its class, its own dict's address (where it has one), the abstract heap behind it -/
noncomputable abbrev XK := Value → Option Addr → Hp → Prop
noncomputable abbrev St := List (Option V)
noncomputable abbrev VK := V → Hp → Prop
/-- an expression's reading; a test's; an argument list's -/
noncomputable abbrev TE := St → Hp → VK → Prop
noncomputable abbrev TT := St → Hp → (Bool → Hp → Prop) → Prop
noncomputable abbrev TA := St → Hp → (List V → Hp → Prop) → Prop
/-- what is wanted behind a statement -/
structure Ends where
  nx : St → Hp → Prop
  rt : VK
  bk : St → Hp → Prop := fun _ _ => False
  ct : St → Hp → Prop := fun _ _ => False
noncomputable abbrev TS := Ends → St → Hp → Prop

noncomputable def EP (X : Cx) (pins : List (Addr × Obj)) (σ : St) (Q : VK) (u : Value) (s' : Shared) : Prop := ∃ v H', Inv X pins σ H' s' ∧ RelV v u ∧ Q v H'
noncomputable def TP (X : Cx) (pins : List (Addr × Obj)) (σ : St) (Q : Bool → Hp → Prop) (b : Bool) (s' : Shared) : Prop := ∃ H', Inv X pins σ H' s' ∧ Q b H'
noncomputable def AP (X : Cx) (pins : List (Addr × Obj)) (σ : St) (Q : List V → Hp → Prop) (us : List Value) (s' : Shared) : Prop := ∃ vs H', Inv X pins σ H' s' ∧ Vals vs us ∧ Q vs H'
noncomputable def SP (X : Cx) (pins : List (Addr × Obj)) (D : Ends) (f : Flow) (s' : Shared) : Prop :=
  match f with
  | .next => ∃ σ' H', Inv X pins σ' H' s' ∧ D.nx σ' H'
  | .brk => ∃ σ' H', Inv X pins σ' H' s' ∧ D.bk σ' H'
  | .cont => ∃ σ' H', Inv X pins σ' H' s' ∧ D.ct σ' H'
  | .ret u => ∃ v σ' H', Inv X pins σ' H' s' ∧ RelV v u ∧ D.rt v H'

noncomputable def PE (X : Cx) (e : Expr) (t : TE) : Prop :=
  ∀ (pins : List (Addr × Obj)) (s : Shared) (σ : St) (H : Hp) (Q : VK), Inv X pins σ H s → t σ H Q → wpAny (model X.prog X.w) X.A (eval e X.env) (EP X pins σ Q) X.xe s
noncomputable def PT (X : Cx) (e : Expr) (t : TT) : Prop :=
  ∀ (pins : List (Addr × Obj)) (s : Shared) (σ : St) (H : Hp) (Q : Bool → Hp → Prop), Inv X pins σ H s → t σ H Q → wpAny (model X.prog X.w) X.A (isTrue e X.env (eval e X.env)) (TP X pins σ Q) X.xe s
/-- a test whatever its 'whole' is (and, or) -/
noncomputable def PW (X : Cx) (e : Expr) (t : TT) : Prop :=
  ∀ (whole : Sem Value) (pins : List (Addr × Obj)) (s : Shared) (σ : St) (H : Hp) (Q : Bool → Hp → Prop), Inv X pins σ H s → t σ H Q → wpAny (model X.prog X.w) X.A (isTrue e X.env whole) (TP X pins σ Q) X.xe s
theorem PW.pt {X : Cx} {e : Expr} {t : TT} (h : PW X e t) : PT X e t := h _
/-- an argument list (no star), from the left -/
noncomputable def PA (X : Cx) (es : List Expr) (t : TA) : Prop :=
  ∀ (pos : Pos) (pins : List (Addr × Obj)) (s : Shared) (σ : St) (H : Hp) (Q : List V → Hp → Prop), Inv X pins σ H s → t σ H Q → wpAny (model X.prog X.w) X.A (spliced (backTo pos (starEach es X.env))) (AP X pins σ Q) X.xe s
noncomputable def PS (X : Cx) (st : Stmt) (t : TS) : Prop :=
  ∀ (pins : List (Addr × Obj)) (s : Shared) (σ : St) (H : Hp) (D : Ends), Inv X pins σ H s → t D σ H → wpAny (model X.prog X.w) X.A (exec st X.env) (SP X pins D) X.xe s
noncomputable def PSs (X : Cx) (st : List Stmt) (t : TS) : Prop :=
  ∀ (pins : List (Addr × Obj)) (s : Shared) (σ : St) (H : Hp) (D : Ends), Inv X pins σ H s → t D σ H → wpAny (model X.prog X.w) X.A (execs st X.env) (SP X pins D) X.xe s
/-- weaken the end -/
theorem thn {α : Type} {t : Sem α} {Q Q' : α → Shared → Prop} {M : Model} {A : Around} {E : Value → Shared → Prop} {s : Shared} (h : wpAny M A t Q E s) (hQ : ∀ a s, Q a s → Q' a s) : wpAny M A t Q' E s := wpAny_mono h hQ fun _ _ x => x
end L2

namespace L2
open PySem PySem.Spec PyProof.Rows
section
variable {X : Cx}

/-- two expressions in a row -/
theorem bin {a b : Expr} {ta tb : TE} (ha : PE X a ta) (hb : PE X b tb) {pins : List (Addr × Obj)} {s : Shared} {σ : St} {H : Hp} {R : V → V → Hp → Prop} (I : Inv X pins σ H s) (h : ta σ H fun x H1 => tb σ H1 fun y H2 => R x y H2)
    {α : Type} {Q : α → Shared → Prop} {f : Value → Value → Sem α}
    (hf : ∀ v u s2 x y H2, Inv X pins σ H2 s2 → RelV x v → RelV y u → R x y H2 → wpAny (model X.prog X.w) X.A (f v u) Q X.xe s2) :
    wpAny (model X.prog X.w) X.A (eval a X.env) (fun v s₁ => wpAny (model X.prog X.w) X.A (eval b X.env) (fun u s₂ => wpAny (model X.prog X.w) X.A (f v u) Q X.xe s₂) X.xe s₁) X.xe s := by
  refine thn (ha pins s σ H _ I h) fun v s1 ⟨x, H1, I1, r1, q1⟩ => ?_
  refine thn (hb pins s1 σ H1 _ I1 q1) fun u s2 ⟨y, H2, I2, r2, q2⟩ => ?_
  exact hf v u s2 x y H2 I2 r1 r2 q2

/-! ### names and constants -/
noncomputable def tVar (i : Nat) : TE := fun σ H Q => ∃ v, σ[i]? = some (some v) ∧ Q v H
noncomputable def tC (v : V) : TE := fun _ H Q => Q v H
theorem pe_var {i : Nat} {x : Str} {pos : Pos} (hN : X.N[i]? = some x) (hv : Vis X.env.scope x) (hd : (x == ("__debug__" : Str)) = false := by decide) (hcd : (x == ("__classdict__" : Str)) = false := by decide) : PE X (.Name x pos) (tVar i) := by
  intro pins s σ H Q I h
  obtain ⟨v, e, h⟩ := h
  obtain ⟨m, hn, hl⟩ := I.loc
  obtain ⟨u, r, l⟩ := hl i x v hN e hv
  have fin : EP X pins σ Q u s := ⟨v, H, I, r, h⟩
  rcases l with ⟨hk, hm⟩ | ⟨hk, c, hc, hcell⟩
  · exact wpAny_Name (wpAny_loadName_local I.ok.kind hk hn hm fin) hd
  · rcases hk with hk | hk
    · exact wpAny_Name (wpAny_loadName_cell I.ok.kind hk hc hcell fin) hd
    · exact wpAny_Name (wpAny_loadName_free I.ok.kind hk hc hcell fin hcd) hd
theorem pe_int {i j pos} : PE X (.Constant (.int i) j pos) (tC (.int i)) := fun _ _ _ H _ I h => wpAny_Constant_int ⟨.int i, H, I.tok _, ⟨_, rfl⟩, h⟩
theorem pe_bl {b j pos} : PE X (.Constant (.bool b) j pos) (tC (.bl b)) := fun _ _ _ H _ I h => Constant_bool ⟨.bl b, H, I, rfl, h⟩
theorem pe_non {j pos} : PE X (.Constant .none j pos) (tC .non) := fun _ _ _ H _ I h => Constant_none ⟨.non, H, I, rfl, h⟩
theorem pe_str {x j pos} : PE X (.Constant (.str x) j pos) (tC (.str x)) := fun _ _ _ H _ I h => Calls.Constant_str ⟨.str x, H, I.tok _, ⟨_, rfl⟩, h⟩

/-- a global name of the def -/
noncomputable def Gl (X : Cx) (x : Str) : Prop := X.env.kindOf x = some .globalImplicit
theorem ld_glob {E : Value → Shared → Prop} {pins : List (Addr × Obj)} {s : Shared} {σ : St} {H : Hp} {x : Str} {u : Value} {pos : Pos} {Q : Value → Shared → Prop} (I : Inv X pins σ H s) (hg : Gl X x) (hm : X.mg x = some u) (h : Q u s)
    (hd : (x == ("__debug__" : Str)) = false := by decide) : wpAny (model X.prog X.w) X.A (eval (.Name x pos) X.env) Q E s :=
  Calls.Name_function_global I.ok.kind hg (Calls.loadGlobal_global (by rw [I.ok.glob]; exact I.mod.glob.keeps I.bk) hm h) hd
theorem ld_blt {E : Value → Shared → Prop} {pins : List (Addr × Obj)} {s : Shared} {σ : St} {H : Hp} {x : Str} {u : Value} {pos : Pos} {Q : Value → Shared → Prop} (I : Inv X pins σ H s) (hg : Gl X x) (hm : X.mg x = none) (hv : bootBuiltins x = some u) (h : Q u s)
    (hn : x ≠ "__name__" := by decide) (hd : (x == ("__debug__" : Str)) = false := by decide) : wpAny (model X.prog X.w) X.A (eval (.Name x pos) X.env) Q E s := by
  obtain ⟨mb, h1, h2⟩ := I.mod.blt
  exact Calls.Name_function_global I.ok.kind hg (Calls.loadGlobal_builtin (by rw [I.ok.glob]; exact I.mod.glob.keeps I.bk) hm (by rw [I.ok.blt]; exact h1.keeps I.bk) ((h2 x hn).trans hv) h) hd
/-- a module's constant, a class, a function, as a value -/
theorem pe_glob {x : Str} {v : V} {u : Value} {pos : Pos} (hg : Gl X x) (hm : X.mg x = some u) (r : RelV v u) (hd : (x == ("__debug__" : Str)) = false := by decide) : PE X (.Name x pos) (tC v) :=
  fun _ _ _ H _ I h => ld_glob I hg hm ⟨v, H, I, r, h⟩ hd
theorem pe_bltn {x : Str} {v : V} {u : Value} {pos : Pos} (hg : Gl X x) (hm : X.mg x = none) (hv : bootBuiltins x = some u) (r : RelV v u) (hn : x ≠ "__name__" := by decide) (hd : (x == ("__debug__" : Str)) = false := by decide) : PE X (.Name x pos) (tC v) :=
  fun _ _ _ H _ I h => ld_blt I hg hm hv ⟨v, H, I, r, h⟩ hn hd

/-! ### arithmetic -/
variable {a b : Expr} {ta tb : TE} {pos : Pos}

/-! ### comparisons -/
noncomputable def PC (X : Cx) (op : CmpOp) (a b : Expr) (t : TE) : Prop :=
  ∀ (pins : List (Addr × Obj)) (s : Shared) (σ : St) (H : Hp) (Q : VK), Inv X pins σ H s → t σ H Q →
    wpAny (model X.prog X.w) X.A (eval a X.env) (fun v s₁ => wpAny (model X.prog X.w) X.A (eval b X.env) (fun u s₂ => wpAny (model X.prog X.w) X.A (compareOp op v u) (EP X pins σ Q) X.xe s₂) X.xe s₁) X.xe s
/-- a comparison as a value, as a test -/
noncomputable def tB (t : TE) : TT := fun σ H Q => t σ H fun x H1 => ∃ c, x = .bl c ∧ Q c H1
theorem pt_cmp {op : CmpOp} {t : TE} (h : PC X op a b t) (h1 : behindInMarks op b = false := by first | exact nobehind _ (by decide) (by decide) | rfl) : PT X (.Compare a [op] [b] pos) (tB t) := by
  intro pins s σ H Q I hw
  refine wpAny_isTrue_Compare1 (thn (h pins s σ H _ I hw) fun v s1 h1 => thn h1 fun u s2 h2 => thn h2 fun c s3 ⟨x, H1, I1, r1, q1⟩ => ?_) h1
  obtain ⟨d, rfl, q⟩ := q1
  cases r1
  exact wpAny_truthy_bool ⟨H1, I1, q⟩
/-- an expression whose value is a bool, as a test -/
theorem pt_val {e : Expr} {t : TE} (h : PE X e t) (he : ∀ whole, isTrue e X.env whole = (do let v ← whole; standAt e.pos; holding [v] (truthy v)) := by intro _; rfl) : PT X e (tB t) := by
  intro pins s σ H Q I hw
  refine isTrue_plain (thn (h pins s σ H _ I hw) fun v s1 ⟨x, H1, I1, r1, q1⟩ => ?_) (he _)
  obtain ⟨d, rfl, q⟩ := q1
  cases r1
  exact wpAny_truthy_bool ⟨H1, I1, q⟩

/-! ### and, or, not -/
variable {tA tB' : TT} {rest : List Expr}
noncomputable def tAnd (t u : TT) : TT := fun σ H Q => t σ H fun c H1 => if c = true then u σ H1 Q else Q false H1
noncomputable def tOr (t u : TT) : TT := fun σ H Q => t σ H fun c H1 => if c = true then Q true H1 else u σ H1 Q
noncomputable def tNot (t : TT) : TT := fun σ H Q => t σ H fun c H1 => Q (!c) H1
theorem pw_and1 (ha : PT X a tA) : PW X (.BoolOp .And [a] pos) tA := by
  intro wh pins s σ H Q I h
  refine isTrue_and (thn (ha pins s σ H Q I h) fun c s1 e => ?_)
  cases c with
  | true => exact isTrue_and_nil e
  | false => exact e
theorem pw_or1 (ha : PT X a tA) : PW X (.BoolOp .Or [a] pos) tA := by
  intro wh pins s σ H Q I h
  refine isTrue_or (thn (ha pins s σ H Q I h) fun c s1 e => ?_)
  cases c with
  | false => exact isTrue_or_nil e
  | true => exact e
theorem pw_and (ha : PT X a tA) (hb : PW X (.BoolOp .And (b :: rest) pos) tB') : PW X (.BoolOp .And (a :: b :: rest) pos) (tAnd tA tB') := by
  intro wh pins s σ H Q I h
  refine isTrue_and (thn (ha pins s σ H _ I h) fun c s1 ⟨H1, I1, q1⟩ => ?_)
  cases c with
  | true => exact hb wh pins s1 σ H1 Q I1 q1
  | false => exact ⟨H1, I1, q1⟩
theorem pw_or (ha : PT X a tA) (hb : PW X (.BoolOp .Or (b :: rest) pos) tB') : PW X (.BoolOp .Or (a :: b :: rest) pos) (tOr tA tB') := by
  intro wh pins s σ H Q I h
  refine isTrue_or (thn (ha pins s σ H _ I h) fun c s1 ⟨H1, I1, q1⟩ => ?_)
  cases c with
  | true => exact ⟨H1, I1, q1⟩
  | false => exact hb wh pins s1 σ H1 Q I1 q1
theorem pt_not (ha : PT X a tA) : PT X (.UnaryOp .Not a pos) (tNot tA) := by
  intro pins s σ H Q I h
  exact isTrue_not (ha pins s σ H (fun c H1 => Q (!c) H1) I h)
/-- .. as values (bools) -/
noncomputable def tAndV (ta tb : TE) : TE := fun σ H Q => ta σ H fun x H1 => ∃ c, x = .bl c ∧ if c = true then tb σ H1 Q else Q (.bl false) H1
noncomputable def tNotV (ta : TE) : TE := fun σ H Q => ta σ H fun x H1 => ∃ c, x = .bl c ∧ Q (.bl (!c)) H1
theorem pe_one {op} {t : TE} (h : PE X a t) : PE X (.BoolOp op [a] pos) t := fun pins s σ H Q I hw => BoolOp_one (h pins s σ H Q I hw)
theorem pe_and (ha : PE X a ta) (hb : PE X (.BoolOp .And (b :: rest) pos) tb) : PE X (.BoolOp .And (a :: b :: rest) pos) (tAndV ta tb) := by
  intro pins s σ H Q I h
  refine BoolOp_and (thn (ha pins s σ H _ I h) fun v s1 ⟨x, H1, I1, r1, q1⟩ => ?_)
  obtain ⟨c, rfl, q1⟩ := q1
  cases r1
  refine wpAny_truthy_bool ?_
  cases c with
  | true => exact hb pins s1 σ H1 Q I1 q1
  | false => exact ⟨.bl false, H1, I1, rfl, q1⟩
theorem pe_not (ha : PE X a ta) : PE X (.UnaryOp .Not a pos) (tNotV ta) := by
  intro pins s σ H Q I h
  refine UnaryOp_ (thn (ha pins s σ H _ I h) fun v s1 ⟨x, H1, I1, r1, q1⟩ => ?_)
  obtain ⟨c, rfl, q1⟩ := q1
  cases r1
  exact not_of (wpAny_truthy_bool ⟨.bl (!c), H1, I1, rfl, q1⟩)
end
end L2

namespace L2
open PySem PySem.Spec PyProof.Rows

/-! ### a list, a tuple that is read: tracked, frozen, or an object of the module -/
noncomputable def SqL (K : PySem.W.Frag) (H : Hp) (a : Addr) (xs : List V) : Prop :=
  Rd H a (.lst xs) ∨
    ∃ (o : Obj) (its : Array Value) (n : Nat), K.lookup a = some o ∧ o.cls = .type "list" ∧ o.dict = none ∧ o.data = .seq its n ∧ its.size ≤ sizeLine ∧ Vals xs its.toList
noncomputable def SqT (K : PySem.W.Frag) (H : Hp) (a : Addr) (xs : List V) : Prop :=
  Rd H a (.tup xs) ∨
    ∃ (o : Obj) (its : Array Value) (n : Nat), K.lookup a = some o ∧ o.cls = .type "tuple" ∧ o.data = .seq its n ∧ its.size ≤ sizeLine ∧ Vals xs its.toList
noncomputable def absV : Value → Option V
  | .none => some .non
  | .bool b => some (.bl b)
  | .int i _ => some (.int i)
  | .str x _ => some (.str x)
  | .bytes b _ => some (.byt b)
  | .float b _ => some (.flt b)
  | .ref a => some (.ref a)
  | .type n => some (.ty n)
  | _ => none
theorem RelV.abs {x : V} {u : Value} (r : RelV x u) : absV u = some x := by
  cases x with
  | non => cases r; rfl
  | bl _ => cases r; rfl
  | int _ => obtain ⟨t, rfl⟩ := r; rfl
  | str _ => obtain ⟨t, rfl⟩ := r; rfl
  | byt _ => obtain ⟨t, rfl⟩ := r; rfl
  | flt _ => obtain ⟨t, rfl⟩ := r; rfl
  | ref _ => cases r; rfl
  | ty _ => cases r; rfl
theorem RelV.inj {x y : V} {u : Value} (r : RelV x u) (q : RelV y u) : x = y := Option.some.inj (r.abs.symm.trans q.abs)
theorem Vals.inj : ∀ {xs ys : List V} {us : List Value}, Vals xs us → Vals ys us → xs = ys
  | _, _, _, .nil, .nil => rfl
  | _, _, _, .cons r t, .cons r' t' => by rw [r.inj r', Vals.inj t t']
section
variable {X : Cx} {pins : List (Addr × Obj)} {σ : St} {H : Hp} {s : Shared} {a : Addr} {xs ys : List V}
theorem SqL.of {K : PySem.W.Frag} (h : H a = some (.lst xs)) : SqL K H a xs := .inl (.inl h)
theorem SqT.of {K : PySem.W.Frag} (h : H a = some (.tup xs)) : SqT K H a xs := .inl (.inl h)
theorem Inv.list (I : Inv X pins σ H s) (h : SqL X.K H a xs) : ∃ its : List Value, Vals xs its ∧ PlainL s.heap a its.toArray ∧ xs.length ≤ sizeLine := by
  rcases h with h | ⟨o, its, n, hk, hc, hd, hs, hz, r⟩
  · obtain ⟨z, its, n, r, e⟩ := h.ok I.hok
    exact ⟨its, r, ⟨_, n, e, rfl, rfl, rfl⟩, z⟩
  · refine ⟨its.toList, r, ⟨o, n, I.kIn a o hk, hc, hd, by simpa using hs⟩, ?_⟩
    have e := r.length
    simp only [Array.length_toList] at e
    omega
theorem Inv.tuple (I : Inv X pins σ H s) (h : SqT X.K H a xs) : ∃ its : List Value, Vals xs its ∧ IsTup s.heap a its.toArray ∧ xs.length ≤ sizeLine := by
  rcases h with h | ⟨o, its, n, hk, hc, hs, hz, r⟩
  · obtain ⟨z, its, r, p⟩ := h.ok I.hok
    exact ⟨its, r, p, z⟩
  · refine ⟨its.toList, r, ⟨o, I.kIn a o hk, hc, n, by simpa using hs⟩, ?_⟩
    have e := r.length
    simp only [Array.length_toList] at e
    omega
theorem Inv.list_inj (I : Inv X pins σ H s) (h : SqL X.K H a xs) (h' : SqL X.K H a ys) : xs = ys := by
  obtain ⟨its, r, ⟨o, n, e, _, _, d⟩, _⟩ := I.list h
  obtain ⟨its', r', ⟨o', n', e', _, _, d'⟩, _⟩ := I.list h'
  rw [e] at e'; cases e'
  rw [d] at d'
  injection d' with d1 _
  have : its = its' := by simpa using congrArg Array.toList d1
  subst this
  exact r.inj r'
end

/-! ### another wish about exceptions -/
noncomputable abbrev Cx.wish (X : Cx) (E : Value → Shared → Prop) : Cx := { X with xe := E }
/-- no exception leaves -/
noncomputable abbrev Cx.nox (X : Cx) : Cx := X.wish fun _ _ => False
theorem Cx.Ok.wish {X : Cx} (ok : X.Ok) (E : Value → Shared → Prop) : (X.wish E).Ok :=
  ⟨ok.mod, ok.kind, ok.glob, ok.blt, ok.above, ok.inj, ok.has, ok.cab, ok.hd, ok.frames, ok.stk, ok.exf, ok.bs, ok.bsz, ok.noex, ok.exfs, ok.funs, ok.frf⟩
theorem Cx.Ok.unwish {X : Cx} {E : Value → Shared → Prop} (ok : (X.wish E).Ok) : X.Ok :=
  ⟨ok.mod, ok.kind, ok.glob, ok.blt, ok.above, ok.inj, ok.has, ok.cab, ok.hd, ok.frames, ok.stk, ok.exf, ok.bs, ok.bsz, ok.noex, ok.exfs, ok.funs, ok.frf⟩
section
variable {X : Cx} {pins : List (Addr × Obj)} {σ : St} {H : Hp} {s : Shared} {E : Value → Shared → Prop}
theorem Inv.wish (I : Inv X pins σ H s) (E : Value → Shared → Prop) : Inv (X.wish E) pins σ H s := ⟨I.ok.wish E, I.os, I.bare, I.base, I.loc, I.cell, I.free, I.freeC, I.pin, I.hok, I.len⟩
theorem Inv.unwish (I : Inv (X.wish E) pins σ H s) : Inv X pins σ H s := ⟨I.ok.unwish, I.os, I.bare, I.base, I.loc, I.cell, I.free, I.freeC, I.pin, I.hok, I.len⟩
theorem SP.unwish {D : Ends} {f : Flow} {s' : Shared} (h : SP (X.wish E) pins D f s') : SP X pins D f s' := by
  cases f with
  | next => obtain ⟨σ', H', I, q⟩ := h; exact ⟨σ', H', I.unwish, q⟩
  | brk => obtain ⟨σ', H', I, q⟩ := h; exact ⟨σ', H', I.unwish, q⟩
  | cont => obtain ⟨σ', H', I, q⟩ := h; exact ⟨σ', H', I.unwish, q⟩
  | ret u => obtain ⟨v, σ', H', I, r, q⟩ := h; exact ⟨v, σ', H', I.unwish, r, q⟩
theorem PSs.nox {st : List Stmt} {t : TS} (h : PSs X.nox st t) : PSs X st t := fun pins s σ H D I hw =>
  wpAny_mono (h pins s σ H D (I.wish _) hw) (fun _ _ q => q.unwish) fun _ _ z => False.elim z
end

/-! ### blocks and small statements -/
section
variable {X : Cx} {st : Stmt} {rest : List Stmt} {t u : TS} {e : Expr} {te : TE} {pos : Pos}
noncomputable def tNext : TS := fun D σ H => D.nx σ H
noncomputable def tSeq (t u : TS) : TS := fun D σ H => t { D with nx := u D } σ H
theorem pss_nil : PSs X [] tNext := fun _ _ σ H _ I h => wpAny_execs_nil ⟨σ, H, I, h⟩
theorem pss_cons (h1 : PS X st t) (h2 : PSs X rest u) : PSs X (st :: rest) (tSeq t u) := by
  intro pins s σ H D I h
  refine wpAny_execs_cons (thn (h1 pins s σ H { D with nx := u D } I h) fun f s1 q => ?_)
  cases f with
  | next =>
    obtain ⟨σ', H', I', q⟩ := q
    exact h2 pins s1 σ' H' D I' q
  | ret v => exact q
  | brk => exact q
  | cont => exact q
theorem pss_one (h1 : PS X st t) : PSs X [st] t := by
  intro pins s σ H D I h
  refine wpAny_execs_cons (thn (h1 pins s σ H D I h) fun f s1 q => ?_)
  cases f with
  | next => exact wpAny_execs_nil q
  | ret v => exact q
  | brk => exact q
  | cont => exact q
/-- in a def's body nothing is shown -/
theorem Inv.quiet {pins : List (Addr × Obj)} {σ : St} {H : Hp} {s : Shared} (I : Inv X pins σ H s) : interactive X.env = false := by simp [interactive, I.ok.kind]
/-- an expression whose value is dropped -/
noncomputable def tDrop (te : TE) : TS := fun D σ H => te σ H fun _ H1 => D.nx σ H1
theorem ps_expr (he : PE X e te) (hs : swapsWith e none pos.line X.env = pure false := by rfl) : PS X (.Expr e pos) (tDrop te) := by
  intro pins s σ H D I h
  exact wpAny_Expr_any (thn (he pins s σ H _ I h) fun v s1 ⟨x, H1, I1, r1, q1⟩ => ⟨σ, H1, I1, q1⟩) I.quiet hs
noncomputable def tRet (te : TE) : TS := fun D σ H => te σ H D.rt
theorem ps_ret (he : PE X e te) : PS X (.Return (some e) pos) (tRet te) := by
  intro pins s σ H D I h
  exact wpAny_Return_some (thn (he pins s σ H _ I h) fun v s1 ⟨x, H1, I1, r1, q1⟩ => ⟨x, σ, H1, I1, r1, q1⟩)
noncomputable def tIfS (c : TT) (t u : TS) : TS := fun D σ H => c σ H fun b H1 => if b = true then t D σ H1 else u D σ H1
theorem ps_if {c : Expr} {a b : List Stmt} {tc : TT} (hc : PT X c tc) (ha : PSs X a t) (hb : PSs X b u) : PS X (.If c a b pos) (tIfS tc t u) := by
  intro pins s σ H D I h
  refine wpAny_If (thn (hc pins s σ H _ I h) fun d s1 ⟨H1, I1, q1⟩ => ?_)
  cases d with
  | true => exact ha pins s1 σ H1 D I1 q1
  | false => exact hb pins s1 σ H1 D I1 q1
end

/-! ### targets -/
noncomputable abbrev TG := V → St → Hp → (St → Hp → Prop) → Prop
noncomputable abbrev TGs := List V → St → Hp → (St → Hp → Prop) → Prop
noncomputable def PG (X : Cx) (target : Expr) (t : TG) : Prop :=
  ∀ (pins : List (Addr × Obj)) (s : Shared) (σ : St) (H : Hp) (v : V) (u : Value) (Q : St → Hp → Prop), Inv X pins σ H s → RelV v u → t v σ H Q →
    wpAny (model X.prog X.w) X.A (assign target X.env u) (fun _ s' => ∃ σ' H', Inv X pins σ' H' s' ∧ Q σ' H') X.xe s
/-- several targets, one after another -/
noncomputable def PGs (X : Cx) (ts : List Expr) (t : TGs) : Prop :=
  ∀ (pins : List (Addr × Obj)) (s : Shared) (σ : St) (H : Hp) (vs : List V) (us : List Value) (Q : St → Hp → Prop), Inv X pins σ H s → Vals vs us → t vs σ H Q →
    wpAny (model X.prog X.w) X.A (assignInOrder ((assignEach ts X.env).map (·.2)) us) (fun _ s' => ∃ σ' H', Inv X pins σ' H' s' ∧ Q σ' H') X.xe s
section
variable {X : Cx} {pos : Pos}
noncomputable def gName (i : Nat) : TG := fun v σ H Q => Q (σ.set i (some v)) H
theorem pg_name {i : Nat} {x : Str} (hN : X.N.Nodup) (hi : X.N[i]? = some x) (hx : Loc X.env.scope x) (hf : X.fn x = true ∨ X.env.scope.names.lookup x = some .local := by first | exact .inl rfl | exact .inr rfl | assumption) : PG X (.Name x pos) (gName i) := by
  intro pins s σ H v u Q I r h
  exact wpAny_assign_Name (store_ok I hN hi hx r (fun s' I' => ⟨_, H, I', h⟩) hf)
noncomputable def gNil : TGs := fun vs σ H Q => vs = [] ∧ Q σ H
noncomputable def gCons (t : TG) (u : TGs) : TGs := fun vs σ H Q => ∃ v r, vs = v :: r ∧ t v σ H fun σ' H' => u r σ' H' Q
theorem pgs_nil : PGs X [] gNil := by
  intro pins s σ H vs us Q I r h
  obtain ⟨e, h⟩ := h
  subst e
  cases r
  exact assignInOrder_nil ⟨σ, H, I, h⟩
theorem pgs_cons {e : Expr} {es : List Expr} {t : TG} {u : TGs} (h1 : PG X e t) (h2 : PGs X es u)
    (hs : (assignEach (e :: es) X.env).map (·.2) = assign e X.env :: (assignEach es X.env).map (·.2) := by rfl) : PGs X (e :: es) (gCons t u) := by
  intro pins s σ H vs us Q I r h
  obtain ⟨v, vr, e1, h⟩ := h
  subst e1
  cases r with
  | cons r rr =>
    rw [hs]
    refine assignInOrder_cons (thn (h1 pins s σ H _ _ _ I r h) fun _ s1 ⟨σ1, H1, I1, q1⟩ => ?_)
    exact h2 pins s1 σ1 H1 _ _ Q I1 rr q1
/-- (a, b, ..) = a tuple of that length -/
noncomputable def gTup (K : PySem.W.Frag) (n : Nat) (t : TGs) : TG := fun v σ H Q => ∃ a xs, v = .ref a ∧ SqT K H a xs ∧ xs.length = n ∧ t xs σ H Q
theorem pg_tup {es : List Expr} {k : Nat} {t : TGs} {n : Nat} (hc : X.calm = true) (h : PGs X es t)
    (hn : (assignEach es X.env).length = n := by rfl) (hst : (assignEach es X.env).findIdx? (·.1) = none := by rfl) : PG X (.Tuple es k pos) (gTup X.K n t) := by
  intro pins s σ H v u Q I r hw
  obtain ⟨a, xs, e1, hq, hl, hw⟩ := hw
  subst e1
  cases r
  obtain ⟨its, rv, ht, hz⟩ := I.tuple hq
  refine assign_Tuple_tuple (I.ok.hd hc) ht (by simp [hn, ← hl, rv.length]) hst fun h' hx => ?_
  have I1 : Inv X pins σ H { s with heap := h' } := I.kept (t' := s.toks) fun b o e => hx b o (Nat.ne_of_lt (Heap.lt_size e)) e
  exact h pins _ σ H xs _ Q I1 (by simpa using rv) hw
/-- target = value -/
noncomputable def tAsg (te : TE) (g : TG) : TS := fun D σ H => te σ H fun x H1 => g x σ H1 D.nx
/-- name = value -/
theorem ps_set {i : Nat} {x : Str} {e : Expr} {te : TE} {pos' : Pos} (hN : X.N.Nodup) (hi : X.N[i]? = some x) (hx : Loc X.env.scope x) (he : PE X e te) (hs : swapsWith e (some (.Name x pos')) pos.line X.env = pure false := by rfl) (hf : X.fn x = true ∨ X.env.scope.names.lookup x = some .local := by first | exact .inl rfl | exact .inr rfl | assumption) :
    PS X (.Assign [.Name x pos'] e pos) (tAsg te (gName i)) := by
  intro pins s σ H D I h
  refine wpAny_Assign_Name (thn (he pins s σ H _ I h) fun v s1 ⟨y, H1, I1, r1, q1⟩ => ?_) hs
  exact store_ok I1 hN hi hx r1 (fun s2 I2 => ⟨_, H1, I2, q1⟩) hf
end

/-! ### while -/
section
variable {X : Cx} {pos : Pos}
end

/-! ### what a loop or a comprehension walks -/
/-- at turn i: it yields x (the heap may grow), or it stops -/
structure It where
  go : Nat → Hp → Prop
  yld : Nat → Hp → V → Hp → Prop
  stop : Nat → Hp → Prop
/-- the iterator's own objects may turn: they are not the frame's, not pinned, younger than the entry (or a comprehension's own) -/
noncomputable def FpOk (X : Cx) (pins : List (Addr × Obj)) (H : Hp) (b : Addr) : Prop :=
  H b = none ∧ b ≠ X.env.locals ∧ b ∉ X.fs ∧ (b ∈ X.ex ∨ X.s₀.heap.objs.size ≤ b) ∧ (∀ x c, X.env.cells.lookup x = some c → c ≠ b) ∧ ∀ p ∈ X.pn ++ pins, p.1 ≠ b
theorem Inv.fpOk {X : Cx} {pins : List (Addr × Obj)} {σ : St} {H H' : Hp} {s : Shared} {b : Addr} (I : Inv X pins σ H s) (hb : s.heap.objs.size ≤ b) (hn : H' b = none) : FpOk X pins H' b := by
  refine ⟨hn, Nat.ne_of_gt (Nat.lt_of_lt_of_le I.lt hb), I.nofs hb, .inr (Nat.le_trans I.sz hb), fun x c e z => ?_, fun p hp z => ?_⟩
  · obtain ⟨v, q⟩ := I.cell x c e
    exact absurd (Nat.lt_of_lt_of_le q.lt (by rw [z]; exact hb)) (Nat.lt_irrefl _)
  · exact absurd (Nat.lt_of_lt_of_le (Heap.lt_size (I.pin p hp).1) (by rw [z]; exact hb)) (Nat.lt_irrefl _)
structure Turn (P : Program) (w : World) (K : PySem.W.Frag) (tg : Expr) (J : It) (fp : List Addr) (it : Addr) (tn : Nat → Heap → Prop) : Prop where
  mem : it ∈ fp
  obj : ∀ i h, tn i h → ∀ b ∈ fp, ∃ o, h.get? b = some o ∧ ∀ v, o.data ≠ .cell v
  keep : ∀ i h h', tn i h → (∀ b ∈ fp, ∀ o, h.get? b = some o → h'.get? b = some o) → tn i h'
  item : ∀ (X : Cx), X.prog = P → X.w = w → X.K = K → X.calm = true → ∀ (i : Nat) (pins : List (Addr × Obj)) (s : Shared) (σ : St) (H : Hp) (E : Value → Shared → Prop), Inv X pins σ H s → (∀ b ∈ fp, FpOk X pins H b) → tn i s.heap → J.go i H →
    wpAny (model P w) X.A (pyNext (.ref it)) (fun r s1 => ∃ u, r = some u ∧
      wpAny (model P w) X.A (letOwnedTupleGo tg (.ref it) u) (fun _ s2 => ∃ x H', Inv X pins σ H' s2 ∧ RelV x u ∧ J.yld i H x H' ∧ tn (i + 1) s2.heap ∧ ∀ b ∈ fp, H' b = none) E s1) E s
  done : ∀ (X : Cx), X.prog = P → X.w = w → X.K = K → X.calm = true → ∀ (i : Nat) (pins : List (Addr × Obj)) (s : Shared) (σ : St) (H : Hp) (E : Value → Shared → Prop), Inv X pins σ H s → (∀ b ∈ fp, FpOk X pins H b) → tn i s.heap → J.stop i H →
    wpAny (model P w) X.A (pyNext (.ref it)) (fun r s1 => r = none ∧ Inv X pins σ H s1) E s
  self : ∀ (A : Around) (i : Nat) (s : Shared) (Q : Value → Shared → Prop) (E : Value → Shared → Prop), tn i s.heap → Q (.ref it) s → wpAny (model P w) A (pyIter (.ref it)) Q E s
noncomputable abbrev TI := St → Hp → (It → Hp → Prop) → Prop
/-- an iterator has come -/
noncomputable def PIE (X : Cx) (pins : List (Addr × Obj)) (σ : St) (tg : Expr) (R : It → Hp → Prop) (itv : Value) (s2 : Shared) : Prop :=
  ∃ (it : Addr) (fp : List Addr) (tn : Nat → Heap → Prop) (J : It) (H' : Hp), itv = .ref it ∧ Inv X pins σ H' s2 ∧ Turn X.prog X.w X.K tg J fp it tn ∧ tn 0 s2.heap ∧ (∀ b ∈ fp, FpOk X pins H' b) ∧ R J H'
noncomputable def PI (X : Cx) (tg iter : Expr) (wi : TI) : Prop :=
  ∀ (pins : List (Addr × Obj)) (s : Shared) (σ : St) (H : Hp) (R : It → Hp → Prop), Inv X pins σ H s → wi σ H R →
    wpAny (model X.prog X.w) X.A (eval iter X.env) (fun v s1 => wpAny (model X.prog X.w) X.A (pyIter v) (PIE X pins σ tg R) X.xe s1) X.xe s

/-- the step ahead of the store is nothing for an iterator that keeps no tuple -/
theorem go_of {M : Model} {A : Around} {E : Value → Shared → Prop} {s : Shared} {tg : Expr} {it : Addr} {u : Value} {o : Obj} {n : String} {vs : Array Value} {Q : Unit → Shared → Prop} (ho : s.heap.get? it = some o) (hc : o.cls = .type n) (hd : o.data = .fields vs)
    (hn : ["enumerate", "zip", "dict_itemiterator", "dict_reverseitemiterator", "odict_iterator", "itertools.zip_longest", "itertools.pairwise"].contains n = false) (hQ : Q () s) : wpAny M A (letOwnedTupleGo tg (.ref it) u) Q E s := by
  unfold letOwnedTupleGo
  cases tg <;> first
    | exact wpAny_pure hQ
    | (cases u <;> first
        | exact wpAny_pure hQ
        | (refine wpAny_bind (wpAny_load ho ?_)
           rw [hc, hd]
           show wpAny M A (if (["enumerate", "zip", "dict_itemiterator", "dict_reverseitemiterator", "odict_iterator", "itertools.zip_longest", "itertools.pairwise"].contains n && vs[0]? == some (rawInt _)) = true then _ else _) Q E s
           rw [if_neg (by intro h; rw [hn, Bool.false_and] at h; cases h)]
           exact wpAny_pure hQ))

/-- the list at a, as it stands at each turn (a loop may append to it) -/
noncomputable def Itl (K : PySem.W.Frag) (a : Addr) : It :=
  ⟨fun i H => ∃ xs x, SqL K H a xs ∧ xs[i]? = some x, fun i H x H' => H' = H ∧ ∀ xs, SqL K H a xs → xs[i]? = some x, fun i H => ∃ xs, SqL K H a xs ∧ xs.length ≤ i⟩
/-- lo, lo + 1, .. (n of them) -/
noncomputable def Itr (lo : Int) (n : Nat) : It := ⟨fun i _ => i < n, fun i H x H' => H' = H ∧ x = .int (lo + i), fun i _ => n ≤ i⟩
theorem turn_list {P : Program} {w : World} {K : PySem.W.Frag} {tg : Expr} (a it : Addr) : Turn P w K tg (Itl K a) [it] it (fun i h => h.IsListIter it a i) where
  mem := by simp
  obj := fun i h st b hb => by
    have e : b = it := by simpa using hb
    subst e
    obtain ⟨o, e, c, d⟩ := st
    exact ⟨o, e, fun v z => by rw [d] at z; cases z⟩
  keep := fun i h h' st k => st.at fun o e => k it (by simp) o e
  item := by
    intro X hP hw hK hc i pins s σ H E I hf st hg
    subst hP hw hK
    obtain ⟨xs, x, hq, hx⟩ := hg
    obtain ⟨its, rv, p, hz⟩ := I.list hq
    obtain ⟨u, hu, ru⟩ := rv.get hx
    obtain ⟨f0, f1, f2, f3, f4, f5⟩ := hf it (by simp)
    refine wpAny_pyNext_list_item st p.isList (x := u) (by simpa using hu) fun h' st' sb => ?_
    have I1 : Inv X pins σ H { s with heap := h' } := I.turned (t' := s.toks) (fun b o hb e => (sb.2 b hb).trans e) f0 f1 f3 f4 f5
    obtain ⟨o, e, c, d⟩ := id st'
    exact ⟨u, rfl, go_of (s := { s with heap := h' }) e c d (by decide) ⟨x, H, I1, ru, ⟨rfl, fun ys hy => by rw [I.list_inj hy hq]; exact hx⟩, st', fun b hb => (hf b hb).1⟩⟩
  done := by
    intro X hP hw hK hc i pins s σ H E I hf st hg
    subst hP hw hK
    obtain ⟨xs, hq, hx⟩ := hg
    obtain ⟨its, rv, p, hz⟩ := I.list hq
    obtain ⟨f0, f1, f2, f3, f4, f5⟩ := hf it (by simp)
    have hl := rv.length
    exact wpAny_pyNext_list_end (I.ok.hd hc) st p.isList (by simp; omega) fun h' eb => ⟨rfl, I.turned (t' := s.toks) (fun b o hb e => eb b o hb e) f0 f1 f3 f4 f5⟩
  self := fun _ _ _ _ _ st h => wpAny_pyIter_listiter st h
theorem turn_range {P : Program} {w : World} {K : PySem.W.Frag} {tg : Expr} (it : Addr) (lo : Int) (n : Nat) : Turn P w K tg (Itr lo n) [it] it (fun i h => IsRangeIter h it (lo + (i : Nat) * 1) ((n : Int) - (i : Nat)) 1) where
  mem := by simp
  obj := fun i h st b hb => by
    have e : b = it := by simpa using hb
    subst e
    exact ⟨_, st, fun v z => by
      have z' : Data.fields _ = Data.cell v := z
      cases z'⟩
  keep := fun i h h' st k => k it (by simp) _ st
  item := by
    intro X hP hw hK hc i pins s σ H E I hf st hg
    subst hP hw hK
    obtain ⟨f0, f1, f2, f3, f4, f5⟩ := hf it (by simp)
    have W := Walks.range (prog := X.prog) (w := X.w) (I.ok.hd hc) it lo 1 n
    refine W.item i s _ _ hg st fun v h' tk hv st' kk => ?_
    obtain ⟨t, rfl⟩ := hv
    have I1 : Inv X pins σ H { s with heap := h', toks := tk } := I.turned (fun b o hb e => kk b o (by simpa using hb) e) f0 f1 f3 f4 f5
    refine ⟨_, rfl, go_of (s := { s with heap := h', toks := tk }) (n := "range_iterator") st' rfl rfl (by decide) ⟨.int (lo + i), H, I1, ⟨t, ?_⟩, ⟨rfl, rfl⟩, st', fun b hb => (hf b hb).1⟩⟩
    rw [Int.mul_one]
  done := by
    intro X hP hw hK hc i pins s σ H E I hf st hg
    subst hP hw hK
    obtain ⟨f0, f1, f2, f3, f4, f5⟩ := hf it (by simp)
    exact wpAny_pyNext_range_end (I.ok.hd hc) st (by have : n ≤ i := hg; omega) fun h' eb => ⟨rfl, I.turned (t' := s.toks) (fun b o hb e => eb b o hb e) f0 f1 f3 f4 f5⟩
  self := fun _ _ _ _ _ st h => wpAny_pyIter_rangeiter st h
end L2

namespace L2
open PySem PySem.Spec PyProof.Rows
section
variable {X : Cx} {tg : Expr}
noncomputable def iList (K : PySem.W.Frag) (tl : TE) : TI := fun σ H R => tl σ H fun x H1 => ∃ a, x = .ref a ∧ (∃ xs, SqL K H1 a xs) ∧ R (Itl K a) H1
theorem pi_list {l : Expr} {tl : TE} (hl : PE X l tl) : PI X tg l (iList X.K tl) := by
  intro pins s σ H R I h
  refine thn (hl pins s σ H _ I h) fun v s1 ⟨x, H1, I1, r1, q1⟩ => ?_
  obtain ⟨a, e, ⟨xs, hq⟩, q⟩ := q1
  subst e
  cases r1
  obtain ⟨its, rv, p, hz⟩ := I1.list hq
  refine wpAny_pyIter_list p.isList ?_
  refine ⟨s1.heap.objs.size, [s1.heap.objs.size], _, _, H1, rfl, I1.kept (t' := s1.toks) fun b o e => Heap.get?_push_of_some _ e, turn_list a _, ⟨_, Heap.get?_push_size _ rfl, rfl, rfl⟩, fun b hb => ?_, q⟩
  have e : b = s1.heap.objs.size := by simpa using hb
  subst e
  exact I1.fpOk (Nat.le_refl _) (I1.hok.fresh (Nat.le_refl _))
/-- a range object just made, walked -/
theorem range_it {pins : List (Addr × Obj)} {σ : St} {H : Hp} {s : Shared} {R : It → Hp → Prop} {E : Value → Shared → Prop} {lo hi : Int} {t u v : Tok} {tk : Nat} (I : Inv X pins σ H s) (h1 : -(2 ^ 62) ≤ lo) (h2 : lo < 2 ^ 62) (h3 : -(2 ^ 62) ≤ hi) (h4 : hi < 2 ^ 62)
    (q : R (Itr lo (hi - lo).toNat) H) : wpAny (model X.prog X.w) X.A (pyIter (.ref s.heap.objs.size)) (PIE X pins σ tg R) E { s with heap := s.heap.push { cls := .type "range", data := .fields #[.int lo t, .int hi u, .int 1 v] }, toks := tk } := by
  refine wpAny_pyIter_range (IsRange.new ..) (small_one h1 h2 h3 h4) ?_
  have I1 : Inv X pins σ H { s with heap := s.heap.push { cls := .type "range", data := .fields #[.int lo t, .int hi u, .int 1 v] }, toks := tk } := I.kept fun b o e => Heap.get?_push_of_some _ e
  refine ⟨(s.heap.push { cls := .type "range", data := .fields #[.int lo t, .int hi u, .int 1 v] }).objs.size, [(s.heap.push { cls := .type "range", data := .fields #[.int lo t, .int hi u, .int 1 v] }).objs.size], _, _, H, rfl,
    I1.kept (t' := tk) fun b o e => Heap.get?_push_of_some _ e, turn_range _ lo (hi - lo).toNat, ?_, fun b hb => ?_, q⟩
  · have e1 : lo + ((0 : Nat) : Int) * 1 = lo := by simp
    have e2 : (((hi - lo).toNat : Nat) : Int) - ((0 : Nat) : Int) = Builtin.Range.rangeSize lo hi 1 := by rw [rangeSize_one]; split <;> omega
    show IsRangeIter _ _ (lo + ((0 : Nat) : Int) * 1) ((((hi - lo).toNat : Nat) : Int) - ((0 : Nat) : Int)) 1
    rw [e1, e2]
    exact Heap.get?_push_size _ rfl
  · have e : b = (s.heap.push { cls := .type "range", data := .fields #[.int lo t, .int hi u, .int 1 v] }).objs.size := by simpa using hb
    subst e
    exact I1.fpOk (Nat.le_refl _) (I1.hok.fresh (Nat.le_refl _))
noncomputable def iRng1 (ta : TA) : TI := fun σ H R => ta σ H fun vs H1 => ∃ j : Int, vs = [.int j] ∧ -(2 ^ 62) ≤ j ∧ j < 2 ^ 62 ∧ R (Itr 0 j.toNat) H1
theorem pi_range1 {a : Expr} {ta : TA} {p pos : Pos} (hg : Gl X "range") (hm : X.mg "range" = none) (ha : PA X [a] ta) (hs : starEach [a] X.env = [(false, eval a X.env)] := by rfl) : PI X tg (.Call (.Name "range" p) [a] [] pos) (iRng1 ta) := by
  intro pins s σ H R I h
  refine Call_ (ld_blt I hg hm boot_range (PyProof.Rows.callWith_type1 (thn (ha pos pins s σ H _ I h) fun us s1 ⟨vs, H1, I1, r1, q1⟩ => ?_) hs rfl))
  obtain ⟨j, e, q1, q2, q⟩ := q1
  subst e
  cases r1 with
  | cons r rr =>
    cases rr
    obtain ⟨t, rfl⟩ := r
    exact call_range_1 (range_it I1 (by omega) (by omega) q1 q2 (by simpa using q))

/-! ### for -/
/-- W: the invariant by the turn and a measure; N: what the body is to reach -/
noncomputable def tFor (wi : TI) (g : TG) (tb : TS) : TS := fun D σ H => wi σ H fun J H1 => ∃ W : Nat → Nat → St → Hp → Prop, (∃ m, W 0 m σ H1) ∧ ∀ i m σ H, W i m σ H →
  (J.stop i H ∧ D.nx σ H) ∨ (J.go i H ∧ ∃ N : St → Hp → Prop, (∀ σ' H', N σ' H' → ∃ m', m' < m ∧ W (i + 1) m' σ' H') ∧ ∀ x H', J.yld i H x H' → g x σ H' fun σ2 H2 => tb { D with nx := N, ct := N, bk := D.nx } σ2 H2)
/-- the records at fp as they stand -/
noncomputable def pinsAt (fp : List Addr) (h : Heap) : List (Addr × Obj) := fp.filterMap fun b => (h.get? b).map fun o => (b, o)
theorem mem_pinsAt {fp : List Addr} {h : Heap} {b : Addr} {o : Obj} (hb : b ∈ fp) (e : h.get? b = some o) : (b, o) ∈ pinsAt fp h := List.mem_filterMap.mpr ⟨b, hb, by rw [e]; rfl⟩
theorem of_pinsAt {fp : List Addr} {h : Heap} {p : Addr × Obj} (hp : p ∈ pinsAt fp h) : p.1 ∈ fp ∧ h.get? p.1 = some p.2 := by
  obtain ⟨b, hb, e⟩ := List.mem_filterMap.mp hp
  cases q : h.get? b with
  | none => rw [q] at e; cases e
  | some o =>
    rw [q] at e
    have e' : (b, o) = p := Option.some.inj e
    subst e'
    exact ⟨hb, q⟩
theorem Inv.pinned {pins : List (Addr × Obj)} {σ : St} {H : Hp} {s : Shared} {fp : List Addr} (I : Inv X pins σ H s) (hf : ∀ b ∈ fp, FpOk X pins H b) (ho : ∀ b ∈ fp, ∃ o, s.heap.get? b = some o ∧ ∀ v, o.data ≠ .cell v) : Inv X (pins ++ pinsAt fp s.heap) σ H s :=
  I.pins_of fun p hp => (List.mem_append.mp hp).elim (fun z => I.pin p (List.mem_append_right _ z)) fun z => by
    obtain ⟨hb, e⟩ := of_pinsAt z
    obtain ⟨f0, f1, f2, _⟩ := hf p.1 hb
    obtain ⟨o, e', d⟩ := ho p.1 hb
    rw [e] at e'; cases e'
    exact ⟨e, f0, f1, f2, d⟩
theorem Inv.unpinned {pins pl : List (Addr × Obj)} {σ : St} {H : Hp} {s : Shared} (I : Inv X (pins ++ pl) σ H s) : Inv X pins σ H s := I.pins_of fun p hp => I.pin p (List.mem_append_right _ (List.mem_append_left _ hp))
theorem ps_for {iter : Expr} {body : List Stmt} {wi : TI} {g : TG} {tb : TS} {pos : Pos} (hp : PassesOwn (model X.prog X.w) X.A X.env X.xe) (hc : X.calm = true) (hi : PI X tg iter wi) (hg : PG X tg g) (hb : PSs X body tb)
    (hs : ∀ x, foldedSetIterable iter X.env x = pure x := by intro _; rfl) : PS X (.For tg iter body [] pos) (tFor wi g tb) := by
  intro pins s σ H D I h
  refine wpAny_For (thn (hi pins s σ H _ I h) fun v s1 h1 => thn h1 fun itv s2 h2 => ?_) hs
  obtain ⟨it, fp, tn, J, H2, e, I2, T, st2, f2, W, ⟨m0, w0⟩, turn⟩ := h2
  subst e
  -- what stays true of the iterator's objects through the loop
  have stat : ∀ {H' : Hp}, (∀ b ∈ fp, H' b = none) → ∀ b ∈ fp, FpOk X pins H' b := fun hn b hb => ⟨hn b hb, (f2 b hb).2⟩
  refine codeAny_forLoop_any (fun n s' => ∃ i σ' H', Inv X pins σ' H' s' ∧ tn i s'.heap ∧ (∀ b ∈ fp, H' b = none) ∧ W i n σ' H') ?_ m0 ⟨0, σ, H2, I2, st2, fun b hb => (f2 b hb).1, w0⟩
  rintro n s3 ⟨i, σ3, H3, I3, st3, fr3, w3⟩
  rcases turn i n σ3 H3 w3 with ⟨stop, qn⟩ | ⟨go, N, hN, step⟩
  · refine wpAny_passesOwn hp (thn (T.done X rfl rfl rfl hc i pins s3 σ3 H3 X.xe I3 (stat fr3) st3 stop) fun r s4 ⟨hr, I4⟩ => ?_)
    subst hr
    exact wpAny_execs_nil ⟨σ3, H3, I4, qn⟩
  · refine wpAny_passesOwn hp (thn (T.item X rfl rfl rfl hc i pins s3 σ3 H3 X.xe I3 (stat fr3) st3 go) fun r s4 ⟨u, hr, h4⟩ => ?_)
    subst hr
    refine wpAny_passesOwn hp (thn h4 fun _ s5 ⟨x, H5, I5, r5, y5, st5, fr5⟩ => ?_)
    have I5' := I5.pinned (stat fr5) (T.obj _ _ st5)
    refine wpAny_passesOwn hp (thn (hg _ s5 σ3 H5 x u _ I5' r5 (step x H5 y5)) fun _ s6 ⟨σ6, H6, I6, q6⟩ => ?_)
    refine wpAny_passesOwn hp (thn (hb _ s6 σ6 H6 _ I6 q6) fun f s7 q7 => ?_)
    have again : ∀ {σ7 : St} {H7 : Hp}, Inv X (pins ++ pinsAt fp s5.heap) σ7 H7 s7 → N σ7 H7 → ∃ m, m < n ∧ ∃ i σ' H', Inv X pins σ' H' s7 ∧ tn i s7.heap ∧ (∀ b ∈ fp, H' b = none) ∧ W i m σ' H' := fun {σ7 H7} I7 n7 => by
      obtain ⟨m', hm, w7⟩ := hN σ7 H7 n7
      refine ⟨m', hm, i + 1, σ7, H7, I7.unpinned, T.keep _ _ _ st5 fun b hb o e => (I7.pin (b, o) (List.mem_append_right _ (List.mem_append_right _ (mem_pinsAt hb e)))).1, fun b hb => ?_, w7⟩
      obtain ⟨o, e, d⟩ := T.obj _ _ st5 b hb
      exact (I7.pin (b, o) (List.mem_append_right _ (List.mem_append_right _ (mem_pinsAt hb e)))).2.1
    cases f with
    | next => obtain ⟨σ7, H7, I7, n7⟩ := q7; exact again I7 n7
    | cont => obtain ⟨σ7, H7, I7, n7⟩ := q7; exact again I7 n7
    | brk => obtain ⟨σ7, H7, I7, q7⟩ := q7; exact ⟨σ7, H7, I7.unpinned, q7⟩
    | ret v => obtain ⟨x7, σ7, H7, I7, r7, q7⟩ := q7; exact ⟨x7, σ7, H7, I7.unpinned, r7, q7⟩
end

/-! ### the forms one uses -/
theorem for_range {lo : Int} {n : Nat} {g : TG} {tb : TS} {D : Ends} {σ : St} {H : Hp} (Pv : Nat → St → Hp → Prop) (h0 : Pv 0 σ H)
    (hs : ∀ i σ H, i < n → Pv i σ H → g (.int (lo + i)) σ H fun σ2 H2 => tb { D with nx := Pv (i + 1), ct := Pv (i + 1), bk := D.nx } σ2 H2) (hd : ∀ σ H, Pv n σ H → D.nx σ H) :
    ∃ W : Nat → Nat → St → Hp → Prop, (∃ m, W 0 m σ H) ∧ ∀ i m σ H, W i m σ H →
      ((Itr lo n).stop i H ∧ D.nx σ H) ∨ ((Itr lo n).go i H ∧ ∃ N : St → Hp → Prop, (∀ σ' H', N σ' H' → ∃ m', m' < m ∧ W (i + 1) m' σ' H') ∧ ∀ x H', (Itr lo n).yld i H x H' → g x σ H' fun σ2 H2 => tb { D with nx := N, ct := N, bk := D.nx } σ2 H2) := by
  refine ⟨fun i m σ H => m = n - i ∧ i ≤ n ∧ Pv i σ H, ⟨n, by simp, Nat.zero_le _, h0⟩, ?_⟩
  rintro i m σ H ⟨rfl, hi, p⟩
  by_cases hlt : i < n
  · refine .inr ⟨hlt, Pv (i + 1), fun σ' H' p' => ⟨n - (i + 1), by omega, rfl, hlt, p'⟩, fun x H' y => ?_⟩
    obtain ⟨e, y⟩ := y
    subst e y
    exact hs i σ _ hlt p
  · have e : i = n := by omega
    subst e
    exact .inl ⟨Nat.le_refl _, hd σ H p⟩
end L2

namespace L2
open PySem PySem.Spec PyProof.Rows

noncomputable abbrev R2 := V → V → Hp → VK → Prop
/-- a two-place operation on values: f is binaryOp op, inplaceOp op or compareOp op -/
noncomputable def OpR (X : Cx) (f : Value → Value → Sem Value) (r : R2) : Prop :=
  ∀ (pins : List (Addr × Obj)) (s : Shared) (σ : St) (H : Hp) (x y : V) (v u : Value) (Q : VK), Inv X pins σ H s → RelV x v → RelV y u → r x y H Q →
    wpAny (model X.prog X.w) X.A (f v u) (EP X pins σ Q) X.xe s
/-- a one-place operation -/
noncomputable def UnR (X : Cx) (f : Value → Sem Value) (r : V → Hp → VK → Prop) : Prop :=
  ∀ (pins : List (Addr × Obj)) (s : Shared) (σ : St) (H : Hp) (x : V) (v : Value) (Q : VK), Inv X pins σ H s → RelV x v → r x H Q →
    wpAny (model X.prog X.w) X.A (f v) (EP X pins σ Q) X.xe s
/-- a call of a value that is known (a builtin, a type) with values -/
noncomputable def CallR (X : Cx) (f : Value) (r : List V → Hp → VK → Prop) : Prop :=
  ∀ (pins : List (Addr × Obj)) (s : Shared) (σ : St) (H : Hp) (xs : List V) (us : List Value) (Q : VK), Inv X pins σ H s → Vals xs us → r xs H Q →
    wpAny (model X.prog X.w) X.A (call f us) (EP X pins σ Q) X.xe s

noncomputable def tOp (r : R2) (ta tb : TE) : TE := fun σ H Q => ta σ H fun x H1 => tb σ H1 fun y H2 => r x y H2 Q
noncomputable def tUn (r : V → Hp → VK → Prop) (ta : TE) : TE := fun σ H Q => ta σ H fun x H1 => r x H1 Q
/-- ints in, under C, and a value out -/
noncomputable def rI (C : Int → Int → Prop) (g : Int → Int → V) : R2 := fun x y H Q => ∃ i j, x = .int i ∧ y = .int j ∧ C i j ∧ Q (g i j) H
noncomputable def rI0 (g : Int → Int → V) : R2 := fun x y H Q => ∃ i j, x = .int i ∧ y = .int j ∧ Q (g i j) H
noncomputable def rU (g : Int → V) : V → Hp → VK → Prop := fun x H Q => ∃ i, x = .int i ∧ Q (g i) H

section
variable {X : Cx} {a b c : Expr} {ta tb tc : TE} {pos : Pos}

theorem binT (ha : PE X a ta) (hb : PE X b tb) {pins : List (Addr × Obj)} {s : Shared} {σ : St} {H : Hp} {R : V → V → Hp → Prop} (I : Inv X pins σ H s)
    (h : ta σ H fun x H1 => tb σ H1 fun y H2 => R x y H2) {Q : Value → Shared → Prop} {f : Value → Value → Sem Value}
    (hf : ∀ v u s2 x y H2, Inv X pins σ H2 s2 → RelV x v → RelV y u → R x y H2 → wpAny (model X.prog X.w) X.A (f v u) Q X.xe s2) :
    wpAny (model X.prog X.w) X.A (eval a X.env) (fun v s₁ => wpAny (model X.prog X.w) X.A (eval b X.env) (fun u s₂ => wpAny (model X.prog X.w) X.A (f v u) Q X.xe s₂) X.xe s₁) X.xe s := by
  refine thn (ha pins s σ H _ I h) fun v s1 ⟨x, H1, I1, r1, q1⟩ => ?_
  refine thn (hb pins s1 σ H1 _ I1 q1) fun u s2 ⟨y, H2, I2, r2, q2⟩ => ?_
  exact hf v u s2 x y H2 I2 r1 r2 q2

theorem pe_op {op : Operator} {r : R2} (ho : OpR X (binaryOp op) r) (ha : PE X a ta) (hb : PE X b tb) : PE X (.BinOp a op b pos) (tOp r ta tb) := by
  intro pins s σ H Q I h
  exact wpAny_BinOp (binT ha hb I h fun v u s2 x y H2 I2 rx ry q => ho pins s2 σ H2 x y v u Q I2 rx ry q)
theorem pe_un {op : UnaryOp} {r : V → Hp → VK → Prop} (ho : UnR X (unaryOp op) r) (ha : PE X a ta) : PE X (.UnaryOp op a pos) (tUn r ta) := by
  intro pins s σ H Q I h
  exact UnaryOp_ (thn (ha pins s σ H _ I h) fun v s1 ⟨x, H1, I1, r1, q1⟩ => ho pins s1 σ H1 x v Q I1 r1 q1)

/-! ### ints -/
theorem opI {f : Value → Value → Sem Value} {C : Int → Int → Prop} {g : Int → Int → Int}
    (rule : ∀ (i j : Int) (t u : Tok) (s : Shared) (Q : Value → Shared → Prop) (E : Value → Shared → Prop), C i j → Q (.int (g i j) s.toks) { s with toks := s.toks + 1 } → wpAny (model X.prog X.w) X.A (f (.int i t) (.int j u)) Q E s) :
    OpR X f (rI C fun i j => .int (g i j)) := by
  intro pins s σ H x y v u Q I rx ry h
  obtain ⟨i, j, rfl, rfl, hc, q⟩ := h
  obtain ⟨t, rfl⟩ := rx
  obtain ⟨t', rfl⟩ := ry
  exact rule i j t t' s _ _ hc ⟨.int (g i j), H, I.tok _, ⟨_, rfl⟩, q⟩
theorem opI0 {f : Value → Value → Sem Value} {g : Int → Int → Int}
    (rule : ∀ (i j : Int) (t u : Tok) (s : Shared) (Q : Value → Shared → Prop) (E : Value → Shared → Prop), Q (.int (g i j) s.toks) { s with toks := s.toks + 1 } → wpAny (model X.prog X.w) X.A (f (.int i t) (.int j u)) Q E s) :
    OpR X f (rI0 fun i j => .int (g i j)) := by
  intro pins s σ H x y v u Q I rx ry h
  obtain ⟨i, j, rfl, rfl, q⟩ := h
  obtain ⟨t, rfl⟩ := rx
  obtain ⟨t', rfl⟩ := ry
  exact rule i j t t' s _ _ ⟨.int (g i j), H, I.tok _, ⟨_, rfl⟩, q⟩
theorem opB0 {f : Value → Value → Sem Value} {g : Int → Int → Bool}
    (rule : ∀ (i j : Int) (t u : Tok) (s : Shared) (Q : Value → Shared → Prop) (E : Value → Shared → Prop), Q (.bool (g i j)) s → wpAny (model X.prog X.w) X.A (f (.int i t) (.int j u)) Q E s) :
    OpR X f (rI0 fun i j => .bl (g i j)) := by
  intro pins s σ H x y v u Q I rx ry h
  obtain ⟨i, j, rfl, rfl, q⟩ := h
  obtain ⟨t, rfl⟩ := rx
  obtain ⟨t', rfl⟩ := ry
  exact rule i j t t' s _ _ ⟨.bl (g i j), H, I, rfl, q⟩

noncomputable def CPow (i j : Int) : Prop := 0 ≤ j ∧ j ≤ 1000000 ∧ i.natAbs < 2 ^ 64
noncomputable def CMul (i j : Int) : Prop := (-(2 ^ 64) < i ∧ i < 2 ^ 64) ∨ (-(2 ^ 64) < j ∧ j < 2 ^ 64)
theorem CMul.ok {i j : Int} (h : CMul i j) : IntMulOk i j := by
  rcases h with ⟨h1, h2⟩ | ⟨h1, h2⟩
  · exact .of_left (intBits_le_64 h1 h2)
  · exact .of_right (intBits_le_64 h1 h2)

theorem op_add : OpR X (binaryOp .Add) (rI0 fun i j => .int (i + j)) := opI0 fun _ _ _ _ _ _ _ q => add_int q
theorem op_sub : OpR X (binaryOp .Sub) (rI0 fun i j => .int (i - j)) := opI0 fun _ _ _ _ _ _ _ q => sub_int q
/-- % by a positive divisor of any size -/
theorem op_mod : OpR X (binaryOp .Mod) (rI (fun _ j => 0 < j) fun i j => .int (i % j)) := opI fun i j _ _ _ _ _ hc q => by
  have h1 : (0 : Int) < j := hc
  exact mod_int' (by omega) (by rw [Int.fmod_eq_emod_of_nonneg i (by omega)]; exact q)


theorem unI {f : Value → Sem Value} {g : Int → Int}
    (rule : ∀ (i : Int) (t : Tok) (s : Shared) (Q : Value → Shared → Prop) (E : Value → Shared → Prop), Q (.int (g i) s.toks) { s with toks := s.toks + 1 } → wpAny (model X.prog X.w) X.A (f (.int i t)) Q E s) :
    UnR X f (rU fun i => .int (g i)) := by
  intro pins s σ H x v Q I rx h
  obtain ⟨i, rfl, q⟩ := h
  obtain ⟨t, rfl⟩ := rx
  exact rule i t s _ _ ⟨.int (g i), H, I.tok _, ⟨_, rfl⟩, q⟩
theorem un_neg : UnR X (unaryOp .USub) (rU fun i => .int (-i)) := unI fun _ _ _ _ _ q => neg_int q

/-! ### bools among ints: n += (a < b) -/
end

/-! ### comparisons -/
/-- the scalars that == tells apart as data does -/
noncomputable def scal : V → V → Bool
  | .non, .non => true | .non, .int _ => true | .int _, .non => true | .non, .bl _ => true | .bl _, .non => true | .non, .str _ => true | .str _, .non => true
  | .int _, .int _ => true | .bl _, .bl _ => true | .str _, .str _ => true | .byt _, .byt _ => true
  | .int _, .str _ => true | .str _, .int _ => true | .bl _, .str _ => true | .str _, .bl _ => true
  | _, _ => false
noncomputable def rEq : R2 := fun x y H Q => scal x y = true ∧ Q (.bl (decide (x = y))) H
noncomputable def rNe : R2 := fun x y H Q => scal x y = true ∧ Q (.bl (!decide (x = y))) H

theorem dec_int {i j : Int} : decide (V.int i = V.int j) = (i == j) := by
  rw [Bool.eq_iff_iff]
  simp
theorem dec_bl {i j : Bool} : decide (V.bl i = V.bl j) = (i == j) := by
  rw [Bool.eq_iff_iff]
  simp
theorem dec_str {i j : Str} : decide (V.str i = V.str j) = (i == j) := by
  rw [Bool.eq_iff_iff]
  simp
theorem dec_byt {i j : Array UInt8} : decide (V.byt i = V.byt j) = (i.toList == j.toList) := by
  rw [Bool.eq_iff_iff]
  cases i
  cases j
  simp

section
variable {X : Cx} {a b c : Expr} {ta tb tc : TE} {pos : Pos}
theorem fin_bl {pins : List (Addr × Obj)} {σ : St} {H : Hp} {s : Shared} {Q : VK} {k k' : Bool} (I : Inv X pins σ H s) (q : Q (.bl k) H) (e : k = k') : EP X pins σ Q (.bool k') s := by
  subst e
  exact ⟨.bl k, H, I, rfl, q⟩
theorem op_eq : OpR X (compareOp .Eq) rEq := by
  intro pins s σ H x y v u Q I rx ry h
  obtain ⟨hs, q⟩ := h
  cases x with
  | non =>
    cases rx
    cases y with
    | non => cases ry; exact PySem.EqNone.eq_none_none (fin_bl I q (by simp))
    | bl j => cases ry; exact PySem.EqNone.eq_none_bool (fin_bl I q (by simp))
    | int j => obtain ⟨t', rfl⟩ := ry; exact PySem.EqNone.eq_none_int (fin_bl I q (by simp))
    | str j => obtain ⟨t', rfl⟩ := ry; exact PySem.EqNone.eq_none_str (fin_bl I q (by simp))
    | _ => exact absurd (show false = true from hs) Bool.false_ne_true
  | bl i =>
    cases rx
    cases y with
    | non => cases ry; exact PySem.EqNone.eq_bool_none (fin_bl I q (by simp))
    | bl j => cases ry; exact eq_bool (fin_bl I q dec_bl)
    | str j => obtain ⟨t', rfl⟩ := ry; exact PySem.EqMixed.eq_bool_str (fin_bl I q (by simp))
    | _ => exact absurd (show false = true from hs) Bool.false_ne_true
  | int i =>
    obtain ⟨t, rfl⟩ := rx
    cases y with
    | non => cases ry; exact PySem.EqNone.eq_int_none (fin_bl I q (by simp))
    | int j => obtain ⟨t', rfl⟩ := ry; exact eq_int (fin_bl I q dec_int)
    | str j => obtain ⟨t', rfl⟩ := ry; exact PySem.EqMixed.eq_int_str (fin_bl I q (by simp))
    | _ => exact absurd (show false = true from hs) Bool.false_ne_true
  | str i =>
    obtain ⟨t, rfl⟩ := rx
    cases y with
    | non => cases ry; exact PySem.EqNone.eq_str_none (fin_bl I q (by simp))
    | bl j => cases ry; exact PySem.EqMixed.eq_str_bool (fin_bl I q (by simp))
    | int j => obtain ⟨t', rfl⟩ := ry; exact PySem.EqMixed.eq_str_int (fin_bl I q (by simp))
    | str j => obtain ⟨t', rfl⟩ := ry; exact eq_str (fin_bl I q dec_str)
    | _ => exact absurd (show false = true from hs) Bool.false_ne_true
  | byt i =>
    obtain ⟨t, rfl⟩ := rx
    cases y with
    | byt j => obtain ⟨t', rfl⟩ := ry; exact PySem.W.eq_bytes (fin_bl I q dec_byt)
    | _ => exact absurd (show false = true from hs) Bool.false_ne_true
  | _ => cases y <;> exact absurd (show false = true from hs) Bool.false_ne_true
theorem op_ne : OpR X (compareOp .NotEq) rNe := by
  intro pins s σ H x y v u Q I rx ry h
  obtain ⟨hs, q⟩ := h
  cases x with
  | non =>
    cases rx
    cases y with
    | non => cases ry; exact PySem.EqNone.ne_none_none (fin_bl I q (by simp))
    | bl j => cases ry; exact PySem.EqNone.ne_none_bool (fin_bl I q (by simp))
    | int j => obtain ⟨t', rfl⟩ := ry; exact PySem.EqNone.ne_none_int (fin_bl I q (by simp))
    | str j => obtain ⟨t', rfl⟩ := ry; exact PySem.EqNone.ne_none_str (fin_bl I q (by simp))
    | _ => exact absurd (show false = true from hs) Bool.false_ne_true
  | bl i =>
    cases rx
    cases y with
    | non => cases ry; exact PySem.EqNone.ne_bool_none (fin_bl I q (by simp))
    | bl j => cases ry; exact ne_bool (fin_bl I q (congrArg not dec_bl))
    | str j => obtain ⟨t', rfl⟩ := ry; exact PySem.EqMixed.ne_bool_str (fin_bl I q (by simp))
    | _ => exact absurd (show false = true from hs) Bool.false_ne_true
  | int i =>
    obtain ⟨t, rfl⟩ := rx
    cases y with
    | non => cases ry; exact PySem.EqNone.ne_int_none (fin_bl I q (by simp))
    | int j => obtain ⟨t', rfl⟩ := ry; exact ne_int (fin_bl I q (congrArg not dec_int))
    | str j => obtain ⟨t', rfl⟩ := ry; exact PySem.EqMixed.ne_int_str (fin_bl I q (by simp))
    | _ => exact absurd (show false = true from hs) Bool.false_ne_true
  | str i =>
    obtain ⟨t, rfl⟩ := rx
    cases y with
    | non => cases ry; exact PySem.EqNone.ne_str_none (fin_bl I q (by simp))
    | bl j => cases ry; exact PySem.EqMixed.ne_str_bool (fin_bl I q (by simp))
    | int j => obtain ⟨t', rfl⟩ := ry; exact PySem.EqMixed.ne_str_int (fin_bl I q (by simp))
    | str j => obtain ⟨t', rfl⟩ := ry; exact ne_str (fin_bl I q (congrArg not dec_str))
    | _ => exact absurd (show false = true from hs) Bool.false_ne_true
  | byt i =>
    obtain ⟨t, rfl⟩ := rx
    cases y with
    | byt j => obtain ⟨t', rfl⟩ := ry; exact PySem.W.ne_bytes (fin_bl I q (congrArg not dec_byt))
    | _ => exact absurd (show false = true from hs) Bool.false_ne_true
  | _ => cases y <;> exact absurd (show false = true from hs) Bool.false_ne_true

theorem op_lt : OpR X (compareOp .Lt) (rI0 fun i j => .bl (decide (i < j))) := opB0 fun _ _ _ _ _ _ _ q => lt_int q
theorem op_le : OpR X (compareOp .LtE) (rI0 fun i j => .bl (decide (i ≤ j))) := opB0 fun _ _ _ _ _ _ _ q => le_int q
theorem op_gt : OpR X (compareOp .Gt) (rI0 fun i j => .bl (decide (j < i))) := opB0 fun _ _ _ _ _ _ _ q => gt_int q
theorem op_ge : OpR X (compareOp .GtE) (rI0 fun i j => .bl (decide (j ≤ i))) := opB0 fun _ _ _ _ _ _ _ q => ge_int q
/-- the one string within the other -/
theorem op_in_str : OpR X (compareOp .In) (fun x y H Q => ∃ i j, x = .str i ∧ y = .str j ∧ Q (.bl (!(Builtin.Str.occurrences j i 0 j.length 1).isEmpty)) H) := by
  intro pins s σ H x y v u Q I rx ry h
  obtain ⟨i, j, rfl, rfl, q⟩ := h
  obtain ⟨t, rfl⟩ := rx
  obtain ⟨t', rfl⟩ := ry
  exact in_str (fin_bl I q rfl)

theorem op_notN : OpR X (compareOp .IsNot) (fun x y H Q => y = .non ∧ Q (.bl (!decide (x = .non))) H) := by
  intro pins s σ H x y v u Q I rx ry h
  obtain ⟨rfl, q⟩ := h
  cases ry
  refine isnot_none_gen (fin_bl I q ?_)
  cases x <;> first
    | (cases rx; rfl)
    | (obtain ⟨t, rfl⟩ := rx; rfl)



theorem nomark (b : Expr) {op : CmpOp} (h : op ≠ .In := by decide) (h2 : op ≠ .NotIn := by decide) : behindInMarks op b = false := by
  have e1 : (op == CmpOp.In) = false := by cases op <;> first | rfl | exact absurd rfl h
  have e2 : (op == CmpOp.NotIn) = false := by cases op <;> first | rfl | exact absurd rfl h2
  cases b <;> simp [behindInMarks, e1, e2]
/-- a comparison as a value; hm: nomark b, or (for in, not in) by with_unfolding_all rfl -/
theorem pe_cmpR {op : CmpOp} {r : R2} (ho : OpR X (compareOp op) r) (ha : PE X a ta) (hb : PE X b tb) (hm : behindInMarks op b = false) : PE X (.Compare a [op] [b] pos) (tOp r ta tb) := by
  intro pins s σ H Q I h
  exact wpAny_Compare1 (binT ha hb I h fun v u s2 x y H2 I2 rx ry q => ho pins s2 σ H2 x y v u Q I2 rx ry q) hm
/-- a reading of a value as a test -/
noncomputable def tTest (t : TE) : TT := fun σ H Q => t σ H fun x H' => ∃ k, x = .bl k ∧ Q k H'
theorem pt_cmpR {op : CmpOp} {r : R2} (ho : OpR X (compareOp op) r) (ha : PE X a ta) (hb : PE X b tb) (hm : behindInMarks op b = false) : PT X (.Compare a [op] [b] pos) (tTest (tOp r ta tb)) := by
  intro pins s σ H Q I h
  refine wpAny_isTrue_Compare1 (thn (ha pins s σ H _ I h) fun v s1 ⟨x, H1, I1, r1, q1⟩ => thn (hb pins s1 σ H1 _ I1 q1) fun u s2 ⟨y, H2, I2, r2, q2⟩ =>
    thn (ho pins s2 σ H2 x y v u _ I2 r1 r2 q2) fun c s3 ⟨z, H3, I3, r3, k, e, q3⟩ => ?_) hm
  subst e
  cases r3
  exact wpAny_truthy_bool ⟨H3, I3, q3⟩
/-- a op1 b op2 c -/
noncomputable def tChain (r r' : R2) (ta tb tc : TE) : TE := fun σ H Q => ta σ H fun x H1 => tb σ H1 fun y H2 => r x y H2 fun z H3 => ∃ k, z = .bl k ∧
  (if k = true then tc σ H3 fun w' H4 => r' y w' H4 Q else Q (.bl false) H3)
theorem pe_chain {op op' : CmpOp} {r r' : R2} (ho : OpR X (compareOp op) r) (ho' : OpR X (compareOp op') r') (ha : PE X a ta) (hb : PE X b tb) (hc : PE X c tc)
    (hm : lastMarks [op, op'] [b, c] = false := by with_unfolding_all rfl) : PE X (.Compare a [op, op'] [b, c] pos) (tChain r r' ta tb tc) := by
  intro pins s σ H Q I h
  refine Compare_chain (thn (ha pins s σ H _ I h) fun v s1 ⟨x, H1, I1, r1, q1⟩ => chain_link (thn (hb pins s1 σ H1 _ I1 q1) fun u s2 ⟨y, H2, I2, r2, q2⟩ =>
    thn (ho pins s2 σ H2 x y v u _ I2 r1 r2 q2) fun d s3 ⟨z, H3, I3, r3, k, e, q3⟩ => ?_)) hm
  subst e
  cases r3
  refine wpAny_truthy_bool ?_
  cases k with
  | false => exact ite_ff ⟨.bl false, H3, I3, rfl, q3⟩
  | true => exact ite_tt (chain_last (thn (hc pins s3 σ H3 _ I3 q3) fun w' s4 ⟨z', H4, I4, r4, q4⟩ => ho' pins s4 σ H4 y z' u w' Q I4 r2 r4 q4))

/-! ### truth -/
theorem line63 : (sizeLine : Nat) < 2 ^ 63 := by rw [sizeLine_eq]; decide

/-! ### strs and bytes -/
theorem op_add_str : OpR X (binaryOp .Add) (fun x y H Q => ∃ i j, x = .str i ∧ y = .str j ∧ i.length + j.length ≤ sizeLine ∧ Q (.str (i ++ j)) H) := by
  intro pins s σ H x y v u Q I rx ry h
  obtain ⟨i, j, rfl, rfl, hz, q⟩ := h
  obtain ⟨t, rfl⟩ := rx
  obtain ⟨t', rfl⟩ := ry
  exact add_str (fun t' tk => ⟨.str (i ++ j), H, I.tok _, ⟨_, rfl⟩, q⟩) hz


/-! ### scalar builtins, by CallR -/
theorem vals1 {x : V} {us : List Value} (r : Vals [x] us) : ∃ u, us = [u] ∧ RelV x u := by
  cases r with
  | cons r1 r2 => cases r2; exact ⟨_, rfl, r1⟩
theorem vals2 {x y : V} {us : List Value} (r : Vals [x, y] us) : ∃ u w', us = [u, w'] ∧ RelV x u ∧ RelV y w' := by
  cases r with
  | cons r1 r2 =>
    cases r2 with
    | cons r3 r4 => cases r4; exact ⟨_, _, rfl, r1, r3⟩
end
end L2

namespace L2
open PySem PySem.Spec PyProof.Rows

/-! ### an instance, its attributes a map -/
structure ObjM (h : Heap) (x dx C : Addr) (mA : Str → Option Value) : Prop where
  obj : h.get? x = some (PySem.W.instObj C dx)
  ns : h.Ns1 dx mA
  ne : dx ≠ x

theorem lookIn_ns {h : Heap} {dx : Addr} {mA : Str → Option Value} (n : h.Ns1 dx mA) : ∃ od, h.get? dx = some od ∧ ∀ name, PySem.W.lookIn name od = some (mA name) := by
  obtain ⟨o, es, ep, ho, hd, hk, _, hm⟩ := n
  refine ⟨o, ho, fun name => ?_⟩
  have e := hm name
  unfold nsFind findBy at e
  rw [← Array.find?_toList] at e
  unfold PySem.W.lookIn
  rw [hd]
  dsimp only
  split
  · rename_i y q
    rw [q] at e
    exact congrArg some e
  · rename_i q
    rw [q] at e
    have a : es.toList.any (·.refKey) = false := by
      rw [List.any_eq_false]
      intro y hy
      obtain ⟨z, t, hkey⟩ := hk y (Array.mem_toList_iff.mp hy)
      simp [DictEntry.refKey, hkey]
    have a' : ¬ es.toList.any (·.refKey) = true := by rw [a]; exact Bool.false_ne_true
    rw [if_neg a']
    exact congrArg some e

theorem ObjM.look {h : Heap} {x dx C : Addr} {mA : Str → Option Value} (I : ObjM h x dx C mA) : ∃ od, PySem.W.InstAt h x (PySem.W.instObj C dx) C (some od) ∧ ∀ name, PySem.W.lookIn name od = some (mA name) :=
  let ⟨od, ho, hl⟩ := lookIn_ns I.ns
  ⟨od, ⟨I.obj, rfl, rfl, ho⟩, hl⟩

section
variable {prog : Program} {w : World} {A : Around} {E : Value → Shared → Prop} {s : Shared} {K : PySem.W.Frag} {x dx C f : Addr} {mA : Str → Option Value} {name : Str} {v : Value}

theorem get_map {expr : Bool} {Q : Value → Shared → Prop} (X : K.In s.heap) (I : ObjM s.heap x dx C mA) (hg : PySem.W.plainGet K C name = true) (hh : PySem.W.hasDictIn K C = true)
    (ha : PySem.W.findIn K (.ref C) name = some none) (hv : mA name = some v) (hv' : PySem.W.handedIn v = true) (h : Q v { s with toks := s.toks + 1 }) :
    wpAny (model prog w) A (getAttr (.ref x) name expr) Q E s := by
  obtain ⟨od, J, hl⟩ := I.look
  exact PySem.W.get_value X J (PySem.W.plainGet_of hg).1 (PySem.W.findObj_own hh ha rfl (by rw [hl, hv])) hv' h


theorem get_meth {pl : Sem Bool} {Q : Value × List Value → Shared → Prop} (X : K.In s.heap) (I : ObjM s.heap x dx C mA) (hg : PySem.W.plainGet K C name = true)
    (hf : PySem.W.findIn K (.ref C) name = some (some (.ref f))) (ht : PySem.W.isFn K (.ref f) = true) (hv : mA name = none) (h : Q (.ref f, [.ref x]) s) :
    wpAny (model prog w) A (getMethod (.ref x) name pl) Q E s := by
  obtain ⟨od, J, hl⟩ := I.look
  exact PySem.W.method_fn X J (PySem.W.plainGet_of hg).1 (PySem.W.plainGet_of hg).2 hf (beq_iff_eq.mp ht) (by show (PySem.W.lookIn name od).map (·.isSome) = some false; rw [hl, hv]; rfl) h

theorem set_map {ns : List Str} {Q : Unit → Shared → Prop} (X : K.In s.heap) (I : ObjM s.heap x dx C mA)
    (hs : PySem.W.findIn K (.ref C) "__setattr__" = some (some (.builtin "object.__setattr__"))) (hp : PySem.W.plainOver K C = true) (ht : PySem.W.takerIn K C name = some none) (hh : PySem.W.hasDictIn K C = true)
    (hw : PySem.Within mA ns) (hsz : ns.length ≤ sizeLine)
    (h : ∀ h', ObjM h' x dx C (fun y => if y = name then some v else mA y) → Heap.SameBut dx s.heap h' → Q () { s with heap := h', toks := s.toks + 2 }) :
    wpAny (model prog w) A (setAttr (.ref x) name v) Q E s := by
  obtain ⟨od, J, hl⟩ := I.look
  refine PySem.W.set_plain X J hs (PySem.W.osa_open (s := { s with toks := s.toks + 1 }) (r := none) X J hp ht fun b => ?_)
  obtain ⟨cd, hc, hd'⟩ := PySem.W.any_some hh
  have hx : s.heap.get? x = some ⟨.ref C, some dx, .plain, #[]⟩ := I.obj
  refine wpAny_bind (wpAny_pure (wpAny_bind (wpAny_bind (wpAny_loadPart hx (wpAny_bind (PySem.W.Looks.here (s := { s with toks := s.toks + 1 }) (PySem.W.looks_clsIn X hc) ?_))))))
  rw [hd']
  refine wpAny_pure (a := some dx) (wpAny_bind (wpAny_pure (wpAny_bind ?_)))
  refine wpAny_nsSet1 (s := { s with toks := s.toks + 1 }) I.ns fun h' hn2 hs2 => ?_
  obtain ⟨oD, esD, epD, hoD, hdD, hcD⟩ := hn2.count (PySem.Within.cons name v hw)
  refine wpAny_bind (wpAny_lookBehind hoD (by rw [hdD]; exact pastItsLine_dict (Nat.le_trans hcD (by rw [List.length_cons]; omega))) ?_)
  exact wpAny_pure (h _ ⟨(hs2.2 _ (Ne.symm I.ne)).trans I.obj, hn2, I.ne⟩ hs2)

/-- C(..): the dict at the heap's end, the instance behind it; then its __init__ -/
theorem make_map {R : Result → Shared → Prop} {vs : List Value} {kw : List (Str × Value)} (X : K.In s.heap) (hm : PySem.W.makesIn K C = true)
    (hi : PySem.W.findIn K (.ref C) "__init__" = some (some (.ref f))) (hf : PySem.W.typeIn K (.ref f) = some (.type "function"))
    (h : codeAny (model prog w) (A.under (.builtin "type.__call__" ⟨.ref C :: vs, kw⟩)) (.call (.ref f) ⟨.ref (s.heap.objs.size + 1) :: vs, kw⟩) (PySem.W.InitBack (s.heap.objs.size + 1) R)
      { s with heap := (s.heap.push PySem.W.emptyDict).push (PySem.W.instObj C s.heap.objs.size) }) :
    codeAny (model prog w) A (.call (.ref C) ⟨vs, kw⟩) R s := by
  obtain ⟨hh, g, d, t, os⟩ := s
  exact PySem.W.make_core (PySem.W.makes_of X hm) (PySem.W.looks_findIn X hi) (fun self => PySem.W.bind_fn X self hf) (.inl rfl) h
end

/-! ### the attributes as a list of pairs -/
noncomputable def putF (f : Str) (v : V) : List (Str × V) → List (Str × V)
  | [] => [(f, v)]
  | (g, x) :: r => if g = f then (g, v) :: r else (g, x) :: putF f v r
theorem lookup_putF (f g : Str) (v : V) : ∀ fs : List (Str × V), (putF f v fs).lookup g = if g = f then some v else fs.lookup g
  | [] => by
    show List.lookup g [(f, v)] = _
    by_cases h : g = f
    · have hb : (g == f) = true := beq_iff_eq.mpr h
      simp only [List.lookup, hb, if_pos h]
    · have hb : (g == f) = false := beq_eq_false_iff_ne.mpr h
      simp only [List.lookup, hb, if_neg h]
  | (k, x) :: r => by
    have ih := lookup_putF f g v r
    rw [show putF f v ((k, x) :: r) = (if k = f then (k, v) :: r else (k, x) :: putF f v r) from rfl]
    by_cases hk : k = f
    · rw [if_pos hk]
      by_cases h : g = k
      · have hb : (g == k) = true := beq_iff_eq.mpr h
        simp only [List.lookup, hb, if_pos (h.trans hk)]
      · have hb : (g == k) = false := beq_eq_false_iff_ne.mpr h
        simp only [List.lookup, hb, if_neg (fun e : g = f => h (e.trans hk.symm))]
    · rw [if_neg hk]
      by_cases h : g = k
      · have hb : (g == k) = true := beq_iff_eq.mpr h
        simp only [List.lookup, hb, if_neg (fun e : g = f => hk (h.symm.trans e))]
      · have hb : (g == k) = false := beq_eq_false_iff_ne.mpr h
        simp only [List.lookup, hb]
        exact ih
theorem keys_putF (f : Str) (v : V) : ∀ fs : List (Str × V), f ∈ (putF f v fs).map (·.1) ∧ ∀ g, g ∈ fs.map (·.1) → g ∈ (putF f v fs).map (·.1)
  | [] => ⟨by simp [putF], fun g h => by simp at h⟩
  | (k, x) :: r => by
    obtain ⟨i1, i2⟩ := keys_putF f v r
    rw [show putF f v ((k, x) :: r) = (if k = f then (k, v) :: r else (k, x) :: putF f v r) from rfl]
    by_cases hk : k = f
    · rw [if_pos hk]
      subst hk
      exact ⟨by simp, fun g h => by simpa using h⟩
    · rw [if_neg hk]
      refine ⟨?_, fun g h => ?_⟩
      · rw [List.map_cons]
        exact List.mem_cons_of_mem _ i1
      · rw [List.map_cons] at h ⊢
        rcases List.mem_cons.mp h with e | e
        · exact List.mem_cons.mpr (.inl e)
        · exact List.mem_cons_of_mem _ (i2 g e)
theorem length_putF (f : Str) (v : V) : ∀ fs : List (Str × V), (putF f v fs).length ≤ fs.length + 1
  | [] => by simp [putF]
  | (k, x) :: r => by
    have ih := length_putF f v r
    rw [show putF f v ((k, x) :: r) = (if k = f then (k, v) :: r else (k, x) :: putF f v r) from rfl]
    by_cases hk : k = f
    · rw [if_pos hk, List.length_cons, List.length_cons]; omega
    · rw [if_neg hk, List.length_cons, List.length_cons]; omega

theorem RelO.some_of {v : V} {o : Option Value} (r : RelO (some v) o) : ∃ u, o = some u ∧ RelV v u := by
  cases o with
  | none => exact (show False from r).elim
  | some u => exact ⟨u, rfl, r⟩
theorem RelO.none_of {o : Option Value} (r : RelO none o) : o = none := by
  cases o with
  | none => rfl
  | some u => exact (show False from r).elim
theorem handed_of {v : V} {u : Value} (r : RelV v u) : PySem.W.handedIn u = true := by
  cases v with
  | non => cases (show u = Value.none from r); rfl
  | bl b => cases (show u = Value.bool b from r); rfl
  | int i => obtain ⟨t, e⟩ := (show ∃ t, u = Value.int i t from r); cases e; rfl
  | str x => obtain ⟨t, e⟩ := (show ∃ t, u = Value.str x t from r); cases e; rfl
  | byt b => obtain ⟨t, e⟩ := (show ∃ t, u = Value.bytes b t from r); cases e; rfl
  | flt b => obtain ⟨t, e⟩ := (show ∃ t, u = Value.float b t from r); cases e; rfl
  | ref a => cases (show u = Value.ref a from r); rfl
  | ty n => cases (show u = Value.type n from r); rfl

section
variable {P : Program} {w : World} {H H' : Hp} {h h' : Heap} {a C dx : Addr} {fs fs' : List (Str × V)}
theorem ins_get (hok : HOk P w H h) (e : H a = some (.ins C dx fs)) : ∃ mA, ObjM h a dx C mA ∧ (∀ f, RelO (fs.lookup f) (mA f)) ∧ PySem.Within mA (fs.map (·.1)) ∧ fs.length ≤ 1000 ∧ H dx = some (.own a) := by
  obtain ⟨d, z, ne, ob, mA, n, r, q⟩ := (show ObjOk P w H h a (.ins C dx fs) from hok a _ e)
  exact ⟨mA, ⟨ob, n, ne⟩, r, q, z, d⟩
end

/-! ### what of the text a class must have -/
structure Cls (K : PySem.W.Frag) (C : Addr) : Prop where
  pg : PySem.W.plainGet K C Str.empty = true
  hd : PySem.W.hasDictIn K C = true
  po : PySem.W.plainOver K C = true
  sa : PySem.W.findIn K (.ref C) "__setattr__" = some (some (.builtin "object.__setattr__"))
theorem Cls.get {K : PySem.W.Frag} {C : Addr} (c : Cls K C) (f : Str) : PySem.W.plainGet K C f = true := c.pg
/-- no class of it has the name -/
noncomputable def NoAttr (K : PySem.W.Frag) (C : Addr) (f : Str) : Prop := PySem.W.findIn K (.ref C) f = some none
theorem NoAttr.taker {K : PySem.W.Frag} {C : Addr} {f : Str} (n : NoAttr K C f) : PySem.W.takerIn K C f = some none := by
  unfold PySem.W.takerIn
  rw [show PySem.W.findIn K (.ref C) f = some none from n]
  rfl
/-- a method: a plain def of the class or of one above it -/
structure Meth (K : PySem.W.Frag) (C : Addr) (m : Str) (f : Addr) : Prop where
  at_ : PySem.W.findIn K (.ref C) m = some (some (.ref f))
  fn : PySem.W.isFn K (.ref f) = true
  kp : PySem.W.keepIn K (.ref f) = true

section
variable {X : Cx} {pins : List (Addr × Obj)} {σ : St} {H : Hp} {s : Shared} {a C dx : Addr} {fs : List (Str × V)} {f : Str} {v : V} {A : Around} {E : Value → Shared → Prop}

theorem getattr_ok {b : Bool} {Q : Value → Shared → Prop} (I : Inv X pins σ H s) (e : H a = some (.ins C dx fs)) (c : Cls X.K C) (n : NoAttr X.K C f) (l : fs.lookup f = some v)
    (h : ∀ u s', Inv X pins σ H s' → RelV v u → Q u s') : wpAny (model X.prog X.w) A (getAttr (.ref a) f b) Q E s := by
  obtain ⟨mA, O, r, _, _, _⟩ := ins_get I.hok e
  obtain ⟨u, hu, ru⟩ := RelO.some_of (v := v) (o := mA f) (by rw [← l]; exact r f)
  exact get_map I.kIn O (c.get f) c.hd n hu (handed_of ru) (h u _ (I.tok _) ru)


theorem getmeth_ok {m : Str} {g : Addr} {pl : Sem Bool} {Q : Value × List Value → Shared → Prop} (I : Inv X pins σ H s) (e : H a = some (.ins C dx fs)) (c : Cls X.K C) (k : Meth X.K C m g) (l : fs.lookup m = none)
    (h : Q (.ref g, [.ref a]) s) : wpAny (model X.prog X.w) A (getMethod (.ref a) m pl) Q E s := by
  obtain ⟨mA, O, r, _, _, _⟩ := ins_get I.hok e
  have hn : mA m = none := RelO.none_of (by rw [← l]; exact r m)
  exact get_meth I.kIn O (c.get m) k.at_ k.fn hn h

theorem setattr_ok {y : V} {u : Value} {Q : Unit → Shared → Prop} (I : Inv X pins σ H s) (e : H a = some (.ins C dx fs)) (c : Cls X.K C) (n : NoAttr X.K C f) (hl : fs.length < 1000) (ry : RelV y u)
    (h : ∀ s', Inv X pins σ (upd H a (.ins C dx (putF f y fs))) s' → Q () s') : wpAny (model X.prog X.w) A (setAttr (.ref a) f u) Q E s := by
  obtain ⟨mA, O, r, wi, _, ho⟩ := ins_get I.hok e
  have hz : (fs.map (·.1)).length ≤ sizeLine := by rw [List.length_map, sizeLine_eq]; omega
  refine set_map I.kIn O c.sa c.po n.taker c.hd wi hz fun h' O' sb => h _ ?_
  have hd : ∃ o, h'.get? dx = some o := let ⟨o, _, _, e', _⟩ := O'.ns; ⟨o, e'⟩
  refine I.write (x := a) (e := dx) (by rw [e]; exact True.intro) (.inr ho) (fun b q hb z => (sb.2 b hb).trans z) hd ?_
  refine ⟨by rw [upd_ne O.ne]; exact ho, ?_, O.ne, O'.obj, _, O'.ns, fun g => ?_, fun g hg => ?_⟩
  · have := length_putF f y fs; omega
  · show RelO ((putF f y fs).lookup g) (if g = f then some u else mA g)
    rw [lookup_putF]
    by_cases q : g = f
    · rw [if_pos q, if_pos q]; exact ry
    · rw [if_neg q, if_neg q]; exact r g
  · by_cases q : g = f
    · rw [q]; exact (keys_putF f y fs).1
    · refine (keys_putF f y fs).2 g (wi g fun z => hg ?_)
      show (if g = f then some u else mA g) = none
      rw [if_neg q]; exact z

/-- a new instance, tracked, without attributes -/
theorem Inv.made (I : Inv X pins σ H s) : Inv X pins σ (upd (upd H s.heap.objs.size (.own (s.heap.objs.size + 1))) (s.heap.objs.size + 1) (.ins C s.heap.objs.size []))
    { s with heap := (s.heap.push PySem.W.emptyDict).push (PySem.W.instObj C s.heap.objs.size) } := by
  have e1 : (s.heap.push PySem.W.emptyDict).get? s.heap.objs.size = some PySem.W.emptyDict := Heap.get?_push_size s.heap rfl
  have e2 : ((s.heap.push PySem.W.emptyDict).push (PySem.W.instObj C s.heap.objs.size)).get? (s.heap.objs.size + 1) = some (PySem.W.instObj C s.heap.objs.size) := by
    have := Heap.get?_push_size (s.heap.push PySem.W.emptyDict) (o := PySem.W.instObj C s.heap.objs.size) rfl
    rwa [Heap.size_push] at this
  have e3 : (s.heap.push PySem.W.emptyDict).Ns s.heap.objs.size (fun _ => none) := ⟨PySem.W.emptyDict, #[], _, e1, rfl, (fun e he => absurd he (by simp)), fun _ => rfl⟩
  have I1 := I.laid (a := s.heap.objs.size) (o := .own (s.heap.objs.size + 1)) (h' := s.heap.push PySem.W.emptyDict) (t' := s.toks) (fun b u q => Heap.get?_push_of_some _ q) (Nat.le_refl _) ⟨_, e1⟩
  refine I1.laid (a := s.heap.objs.size + 1) (o := .ins C s.heap.objs.size []) (t' := s.toks) (fun b u q => Heap.get?_push_of_some _ q) (Nat.le_of_eq (Heap.size_push _ _)) ?_
  have ne : s.heap.objs.size ≠ s.heap.objs.size + 1 := Nat.ne_of_lt (Nat.lt_succ_self _)
  refine ⟨by rw [upd_ne ne, upd_same], Nat.zero_le _, ne, e2, fun _ => none, (Heap.Ns1.of_empty e3).at fun o q => Heap.get?_push_of_some _ q, fun _ => True.intro, fun y hy => absurd rfl hy⟩

/-- e.f where nothing but the object is asked: through attributeBase (super) and the last hold -/
theorem attr_of {prog : Program} {w : World} {env : Env} {e : Expr} {f : Str} {pos : Pos} {s : Shared} {Q : Value → Shared → Prop} (hb : attributeBase e f env (eval e env) = eval e env)
    (h : wpAny (model prog w) A (eval e env) (fun o s₁ => wpAny (model prog w) A (getAttr o f true) Q E s₁) E s) : wpAny (model prog w) A (eval (.Attribute e f pos) env) Q E s :=
  Attribute_any_ h (by rw [arm_eval_Attribute, hb])
end

/-! ### readings and rules -/
/-- e.f, an attribute of the instance -/
noncomputable def tFld (K : PySem.W.Frag) (ta : TE) (f : Str) : TE := fun σ H Q => ta σ H fun x H1 => ∃ a C dx fs v, x = .ref a ∧ H1 a = some (.ins C dx fs) ∧ Cls K C ∧ NoAttr K C f ∧ fs.lookup f = some v ∧ Q v H1
/-- e.f = value -/
noncomputable def sFld (K : PySem.W.Frag) (ta tv : TE) (f : Str) : TS := fun D σ H => tv σ H fun y H1 => ta σ H1 fun x H2 => ∃ a C dx fs, x = .ref a ∧ H2 a = some (.ins C dx fs) ∧ Cls K C ∧ NoAttr K C f ∧ fs.length < 1000 ∧
  D.nx σ (upd H2 a (.ins C dx (putF f y fs)))
/-- an augmented operator on two values -/
noncomputable def InOp (X : Cx) (op : Operator) (rd : V → V → Hp → VK → Prop) : Prop :=
  ∀ (pins : List (Addr × Obj)) (s : Shared) (σ : St) (H : Hp) (x y : V) (u v : Value) (Q : VK), Inv X pins σ H s → RelV x u → RelV y v → rd x y H Q → wpAny (model X.prog X.w) X.A (inplaceOp op u v) (EP X pins σ Q) X.xe s
/-- e.f op= value -/
noncomputable def sFldAug (K : PySem.W.Frag) (ta tv : TE) (rd : V → V → Hp → VK → Prop) (f : Str) : TS := fun D σ H => ta σ H fun x H1 => ∃ a C dx fs v, x = .ref a ∧ H1 a = some (.ins C dx fs) ∧ Cls K C ∧ NoAttr K C f ∧ fs.lookup f = some v ∧
  tv σ H1 fun y H2 => rd v y H2 fun z H3 => ∃ dx' fs', H3 a = some (.ins C dx' fs') ∧ fs'.length < 1000 ∧ D.nx σ (upd H3 a (.ins C dx' (putF f z fs')))

section
variable {X : Cx} {o e value : Expr} {f : Str} {pos pos' tpos : Pos} {ta tv : TE}
theorem pe_fld (he : PE X e ta) (hb : attributeBase e f X.env (eval e X.env) = eval e X.env) : PE X (.Attribute e f pos) (tFld X.K ta f) := by
  intro pins s σ H Q I h
  refine attr_of hb (thn (he pins s σ H _ I h) fun u s1 ⟨x, H1, I1, rx, a, C, dx, fs, v, ex, ea, c, n, l, q⟩ => ?_)
  subst ex
  obtain rfl : u = Value.ref a := rx
  exact getattr_ok I1 ea c n l fun u' s2 I2 ru => ⟨v, H1, I2, ru, q⟩
theorem ps_fld (ha : PE X o ta) (hv : PE X value tv) (hs : swapsWith value (some (.Attribute o f pos')) pos.line X.env = pure false) : PS X (.Assign [.Attribute o f pos'] value pos) (sFld X.K ta tv f) := by
  intro pins s σ H D I h
  refine plainObj_wpAny_Assign_Attribute (thn (hv pins s σ H _ I h) fun u s1 ⟨y, H1, I1, ry, q⟩ => thn (ha pins s1 σ H1 _ I1 q) fun ov s2 ⟨x, H2, I2, rx, a, C, dx, fs, ex, ea, c, n, l, q2⟩ => ?_) hs
  subst ex
  obtain rfl : ov = Value.ref a := rx
  exact setattr_ok I2 ea c n l ry fun s3 I3 => ⟨σ, _, I3, q2⟩
theorem ps_fldaug {op : Operator} {rd : V → V → Hp → VK → Prop} (ha : PE X o ta) (hv : PE X value tv) (hop : InOp X op rd) : PS X (.AugAssign (.Attribute o f tpos) op value pos) (sFldAug X.K ta tv rd f) := by
  intro pins s σ H D I h
  refine wpAny_AugAssign_AttributeAny (thn (ha pins s σ H _ I h) fun ov s1 ⟨x, H1, I1, rx, a, C, dx, fs, v, ex, ea, c, n, l, q⟩ => ?_)
  subst ex
  obtain rfl : ov = Value.ref a := rx
  refine getattr_ok I1 ea c n l fun u s2 I2 ru => thn (hv pins s2 σ H1 _ I2 q) fun w3 s3 ⟨y, H2, I3, ry, q3⟩ => thn (hop pins s3 σ H2 v y u w3 _ I3 ru ry q3) fun w4 s4 ⟨z, H3, I4, rz, dx', fs', ea', l', q4⟩ => ?_
  exact setattr_ok I4 ea' c n l' rz fun s5 I5 => ⟨σ, _, I5, q4⟩
noncomputable def rAdd : V → V → Hp → VK → Prop := fun x y H Q => ∃ i j, x = .int i ∧ y = .int j ∧ Q (.int (i + j)) H
theorem in_add : InOp X .Add rAdd := by
  rintro pins s σ H x y u v Q I rx ry ⟨i, j, rfl, rfl, q⟩
  obtain ⟨t, rfl⟩ := (show ∃ t, u = Value.int i t from rx)
  obtain ⟨t', rfl⟩ := (show ∃ t', v = Value.int j t' from ry)
  exact PyProof.Rows.iadd_int ⟨.int (i + j), H, I.tok _, ⟨_, rfl⟩, q⟩

/-- what is between an instance and its method: the tree of a method call -/
theorem methcall_of {pl : Sem Bool} {m : Str} {apos : Pos} {args : List Expr} {pins : List (Addr × Obj)} {s : Shared} {σ : St} {H : Hp} {Q : Value → Shared → Prop} {te : TE} (he : PE X e te) (I : Inv X pins σ H s)
    (h : te σ H fun x H1 => ∃ a C dx fs g, x = .ref a ∧ H1 a = some (.ins C dx fs) ∧ Cls X.K C ∧ Meth X.K C m g ∧ fs.lookup m = none ∧
      ∀ s1, Inv X pins σ H1 s1 → wpAny (model X.prog X.w) X.A (callWith pos (.ref g) [.ref a] (backTo pos (starEach args X.env)) (backToKw pos (keywordEach [] X.env))) Q X.xe s1)
    (ht : eval (.Call (.Attribute e m apos) args [] pos) X.env = (do
      let ov ← eval e X.env
      standAt apos.atName
      let (f, first) ← holding [ov] (getMethod ov m pl)
      callWith pos f first (backTo pos (starEach args X.env)) (backToKw pos (keywordEach [] X.env)))) :
    wpAny (model X.prog X.w) X.A (eval (.Call (.Attribute e m apos) args [] pos) X.env) Q X.xe s := by
  refine PySem.W.methodCall_KW (pl := pl) (thn (he pins s σ H _ I h) fun u s1 ⟨x, H1, I1, rx, a, C, dx, fs, g, ex, ea, c, k, l, q⟩ => ?_) ht
  subst ex
  obtain rfl : u = Value.ref a := rx
  exact getmeth_ok I1 ea c k l (q s1 I1)
end

/-! ### isinstance -/
section
variable {X : Cx} {pins : List (Addr × Obj)} {σ : St} {H : Hp} {s : Shared} {A : Around} {E : Value → Shared → Prop} {Q : Value → Shared → Prop} {c : Value} {b : Bool}
/-- the type of a value, as the fragment's deciders take it; for an instance its class -/
inductive TyOf (K : PySem.W.Frag) (H : Hp) : V → Value → Prop where
  | non : TyOf K H .non (.type "NoneType")
  | bl (x : Bool) : TyOf K H (.bl x) (.type "bool")
  | int (i : Int) : TyOf K H (.int i) (.type "int")
  | str (x : Str) : TyOf K H (.str x) (.type "str")
  | flt (x : UInt64) : TyOf K H (.flt x) (.type "float")
  | lst {a : Addr} {xs : List V} (e : H a = some (.lst xs)) : TyOf K H (.ref a) (.type "list")
  | frz {a : Addr} {o : Obj} {xs : List V} (e : H a = some (.frz o (.lst xs))) : TyOf K H (.ref a) (.type "list")
  | tup {a : Addr} {xs : List V} (e : H a = some (.tup xs)) : TyOf K H (.ref a) (.type "tuple")
  | dK {a : Addr} {kvs : List (Key × V)} (e : H a = some (.dK kvs)) : TyOf K H (.ref a) (.type "dict")
  | dT {a : Addr} {kvs : List (List Key × V)} (e : H a = some (.dT kvs)) : TyOf K H (.ref a) (.type "dict")
  | ins {a C dx : Addr} {fs : List (Str × V)} (e : H a = some (.ins C dx fs)) (cl : Cls K C) (ha : PySem.W.findIn K (.ref C) "__class__" = some (some (.builtin "object.__class__")))
      (hn : PySem.W.specialIn K (.builtin "object.__class__") "__get__" = some (some (.builtin "getset_descriptor.__get__"))) (htk : PySem.W.takesIn K (.builtin "object.__class__") = some true)
      (hm : PySem.W.mroIn K C (.type "object") = some true) : TyOf K H (.ref a) (.ref C)
/-- isinstance(x, c) for one class c, a built-in or an own one: kitOne's answer -/
theorem isinst_ok {x : V} {u t : Value} (I : Inv X pins σ H s) (rx : RelV x u) (ty : TyOf X.K H x t) (e : PySem.W.kitOne X.K t c = some b) (h : ∀ tk, Q (.bool b) { s with toks := tk }) :
    wpAny (model X.prog X.w) A (call (.builtin "isinstance") [u, c]) Q E s := by
  cases ty with
  | non => cases (show u = Value.none from rx); exact PySem.W.kia_one PySem.W.kitx_none I.kIn True.intro e (fun z => nomatch z) h
  | bl y => cases (show u = Value.bool y from rx); exact PySem.W.kia_one PySem.W.kitx_bool I.kIn True.intro e (fun z => nomatch z) h
  | int i => obtain ⟨t, q⟩ := (show ∃ t, u = Value.int i t from rx); cases q; exact PySem.W.kia_one PySem.W.kitx_int I.kIn True.intro e (fun z => nomatch z) h
  | str y => obtain ⟨t, q⟩ := (show ∃ t, u = Value.str y t from rx); cases q; exact PySem.W.kia_one PySem.W.kitx_str I.kIn True.intro e (fun z => nomatch z) h
  | flt y => obtain ⟨t, q⟩ := (show ∃ t, u = Value.float y t from rx); cases q; exact PySem.W.kia_one PySem.W.kitx_float I.kIn True.intro e (fun z => nomatch z) h
  | @lst a xs ea =>
    cases (show u = Value.ref a from rx)
    obtain ⟨_, _, n, _, h1⟩ := (show ObjOk X.prog X.w H s.heap a (.lst xs) from I.hok a _ ea)
    exact PySem.W.kia_one PySem.W.kitx_list I.kIn ⟨_, h1, rfl⟩ e (fun z => nomatch z) h
  | @frz a ob xs ea =>
    cases (show u = Value.ref a from rx)
    obtain ⟨_, _, _, n, _, h1⟩ := (show ObjOk X.prog X.w H s.heap a (.frz ob (.lst xs)) from I.hok a _ ea)
    exact PySem.W.kia_one PySem.W.kitx_list I.kIn ⟨_, h1, rfl⟩ e (fun z => nomatch z) h
  | @tup a xs ea =>
    cases (show u = Value.ref a from rx)
    obtain ⟨_, _, _, p⟩ := (show ObjOk X.prog X.w H s.heap a (.tup xs) from I.hok a _ ea)
    obtain ⟨o, h1, h2, _⟩ := p
    exact PySem.W.kia_one PySem.W.kitx_tuple I.kIn ⟨o, h1, h2⟩ e (fun z => nomatch z) h
  | @dK a kvs ea =>
    cases (show u = Value.ref a from rx)
    obtain ⟨_, _, vs, _, p⟩ := (show ObjOk X.prog X.w H s.heap a (.dK kvs) from I.hok a _ ea)
    obtain ⟨o, es, ep, h1, h2, _⟩ := p
    exact PySem.W.kia_one PySem.W.kitx_dict I.kIn ⟨o, h1, h2.1⟩ e (fun z => nomatch z) h
  | @dT a kvs ea =>
    cases (show u = Value.ref a from rx)
    obtain ⟨_, _, xs, _, o, es, ep, h1, h2, _⟩ := (show ObjOk X.prog X.w H s.heap a (.dT kvs) from I.hok a _ ea)
    exact PySem.W.kia_one PySem.W.kitx_dict I.kIn ⟨o, h1, h2.1⟩ e (fun z => nomatch z) h
  | @ins a C dx fs ea cl ha hn htk hm =>
    cases (show u = Value.ref a from rx)
    obtain ⟨mA, O, _⟩ := ins_get I.hok ea
    obtain ⟨od, J, _⟩ := O.look
    exact PySem.W.kia_one (PySem.W.kitx_own (cl.get _) cl.hd ha hn htk hm) I.kIn J e (fun z => nomatch z) h
end
end L2

namespace L2
open PySem PySem.Spec PyProof.Rows

/-! ### room -/
structure Room (k : Nat) (A : Around) : Prop where
  hd : A.handled = none
  dp : A.depth + 3 * k + 5 < recursionLimit
  un : A.units + 16 * k + 200 < cLine
theorem Room.mono {j k : Nat} {A : Around} (r : Room k A) (h : j ≤ k) : Room j A := ⟨r.hd, by have := r.dp; omega, by have := r.un; omega⟩
theorem Room.deeper {k : Nat} {A : Around} (r : Room (k + 1) A) (env : Env) : Room k (A.deeper env) :=
  ⟨r.hd, by have := r.dp; show A.depth + 1 + 3 * k + 5 < _; omega, by have := r.un; show A.units + 3 + 16 * k + 200 < _; omega⟩
theorem make_depth {A : Around} {C : Addr} {us : List Value} {kw : List (Str × Value)} : (A.under (.builtin "type.__call__" ⟨.ref C :: us, kw⟩)).depth = A.depth + 1 := by
  first | rfl | simp [Around.under, Code.weight, Code.isCreation, Code.isGuard, Code.isCaller, Code.frames, Code.isFrame, guardIds]
theorem make_units {A : Around} {C : Addr} {us : List Value} {kw : List (Str × Value)} : (A.under (.builtin "type.__call__" ⟨.ref C :: us, kw⟩)).units = A.units + 1 := by
  first | rfl | simp [Around.under, Code.cUnits, Code.frames, Code.isFrame]
theorem Room.make {k : Nat} {A : Around} (r : Room (k + 1) A) (C : Addr) (us : List Value) (kw : List (Str × Value)) : Room k (A.under (.builtin "type.__call__" ⟨.ref C :: us, kw⟩)) :=
  ⟨r.hd, by have := r.dp; rw [make_depth]; omega, by have := r.un; rw [make_units]; omega⟩
theorem Room.depth {k : Nat} {A : Around} (r : Room k A) : A.depth < recursionLimit := by have := r.dp; omega
theorem Room.units {k : Nat} {A : Around} (r : Room k A) : A.units + 64 < cLine := by have := r.un; omega

/-! ### argument lists and displays -/
noncomputable def tNil : TA := fun _ H Q => Q [] H
noncomputable def tCons (ta : TE) (tr : TA) : TA := fun σ H Q => ta σ H fun x H1 => tr σ H1 fun xs H2 => Q (x :: xs) H2
section
variable {X : Cx} {e : Expr} {es : List Expr} {te : TE} {t : TA} {pos : Pos}
theorem pa_nil : PA X [] tNil := fun _ _ _ _ H Q I h => Calls.spliced_nil ⟨[], H, I, .nil, h⟩
theorem pa_cons (ha : PE X e te) (hr : PA X es t) (hs : starEach (e :: es) X.env = (false, eval e X.env) :: starEach es X.env := by rfl) : PA X (e :: es) (tCons te t) := by
  intro pos pins s σ H Q I h
  rw [hs]
  show wpAny _ _ (spliced ((false, eval e X.env) :: backTo pos (starEach es X.env))) _ _ s
  refine Calls.spliced_cons (thn (ha pins s σ H _ I h) fun u s1 ⟨x, H1, I1, r1, q1⟩ => ?_)
  exact thn (hr pos pins s1 σ H1 _ I1 q1) fun us s2 ⟨xs, H2, I2, r2, q2⟩ => ⟨x :: xs, H2, I2, .cons r1 r2, q2⟩

/-- a tuple, a list of written items -/
noncomputable def tTup (t : TA) : TE := fun σ H Q => t σ H fun xs H1 => xs.length ≤ sizeLine ∧ ∀ p, H1 p = none → Q (.ref p) (upd H1 p (.tup xs))
noncomputable def tLst (t : TA) : TE := fun σ H Q => t σ H fun xs H1 => xs.length ≤ sizeLine ∧ ∀ p, H1 p = none → Q (.ref p) (upd H1 p (.lst xs))
theorem pe_tup {x1} (h : PA X es t) : PE X (.Tuple es x1 pos) (tTup t) := by
  intro pins s σ H Q I hq
  refine wpAny_Tuple_spliced (thn (h pos pins s σ H _ I hq) fun us s1 ⟨xs, H1, I1, r, z, q⟩ => ⟨by rw [← r.length]; exact z, ?_⟩)
  have hf : H1 s1.heap.objs.size = none := I1.hok.fresh (Nat.le_refl _)
  refine ⟨.ref s1.heap.objs.size, upd H1 s1.heap.objs.size (.tup xs), I1.laid (t' := s1.toks) (fun b u e => Heap.get?_push_of_some _ e) (Nat.le_refl _) ?_, rfl, q _ hf⟩
  exact ⟨z, us, r, ⟨_, Heap.get?_push_size _ rfl, rfl, _, rfl⟩⟩
theorem pe_lst (h : PA X es t) : PE X (.List es pos) (tLst t) := by
  intro pins s σ H Q I hq
  refine wpAny_List_spliced (thn (h pos pins s σ H _ I hq) fun us s1 ⟨xs, H1, I1, r, z, q⟩ => ⟨by rw [← r.length]; exact z, ?_⟩)
  have hf : H1 s1.heap.objs.size = none := I1.hok.fresh (Nat.le_refl _)
  refine ⟨.ref s1.heap.objs.size, upd H1 s1.heap.objs.size (.lst xs), I1.laid (t' := s1.toks) (fun b u e => Heap.get?_push_of_some _ e) (Nat.le_refl _) ?_, rfl, q _ hf⟩
  exact ⟨z, us, 0, r, Heap.get?_push_size _ rfl⟩
end

/-! ### what a def promises -/
/-- a def's promise: the bound arguments in the parameters' order, the heap, the wanted end, the wanted exception -/
noncomputable abbrev Sp := List V → Hp → VK → XK → Prop
/-- how an exception lies behind a call (file 08 gives it): the callers' frames, abstract heap and state ahead of the call, the wish, the exception, the state -/
noncomputable abbrev CXT := List Env → Hp → Shared → XK → Value → Shared → Prop

/-- the state at a call -/
structure Env0 (P : Program) (w : World) (K : PySem.W.Frag) (mg : Str → Option Value) (base : Heap) (A : Around) (outer : List Env) (s : Shared) (H : Hp) : Prop where
  frames : A.frames = some outer
  mod : Mod K mg base
  bs : ∀ b o, base.get? b = some o → s.heap.get? b = some o ∧ H b = none
  bsz : base.objs.size ≤ s.heap.objs.size
  funs : s.heap.FunFrames base outer
  frf : ∀ b ∈ frs outer, H b = none
  hok : HOk P w H s.heap
  bare : AllBare s.gens
/-- a call's end -/
noncomputable def CE (outer : List Env) (P : Program) (w : World) (H : Hp) (s : Shared) (Q : VK) (u : Value) (s' : Shared) : Prop :=
  ∃ v H', s'.os = s.os ∧ AllBare s'.gens ∧ Un (frs outer) [] H H' s.heap s'.heap ∧ HOk P w H' s'.heap ∧ RelV v u ∧ Q v H'
noncomputable def CR (CX : CXT) (outer : List Env) (P : Program) (w : World) (H : Hp) (s : Shared) (Q : VK) (E : XK) (r : Result) (s' : Shared) : Prop :=
  match r with
  | .ok (.ret u) => CE outer P w H s Q u s'
  | .ok _ => False
  | .error e => CX outer H s E e s'
structure FnOk (P : Program) (w : World) (K : PySem.W.Frag) (mg : Str → Option Value) (base : Heap) (CX : CXT) (k : Nat) (f : Addr) (fd : FuncData) (ps : List Str) (sp : Sp) : Prop where
  len : ∀ vs H Q E, sp vs H Q E → vs.length = ps.length
  run : ∀ (A : Around) (outer : List Env) (s : Shared) (H : Hp) (args : Args) (us : List Value) (vs : List V) (Q : VK) (E : XK), Room k A → Env0 P w K mg base A outer s H → BindsTo s fd args (ps.zip us) → Vals vs us → sp vs H Q E →
    codeAny (model P w) A (.call (.ref f) args) (CR CX outer P w H s Q E) s

theorem Env0.make {P : Program} {w : World} {K : PySem.W.Frag} {mg : Str → Option Value} {base : Heap} {A : Around} {outer : List Env} {s : Shared} {H : Hp} (e : Env0 P w K mg base A outer s H) (C : Addr) (us : List Value) (kw : List (Str × Value)) :
    Env0 P w K mg base (A.under (.builtin "type.__call__" ⟨.ref C :: us, kw⟩)) outer s H := ⟨by first | exact e.frames | (simpa [Around.under, Code.envs, Code.isFrame, pushEnvs] using e.frames), e.mod, e.bs, e.bsz, e.funs, e.frf, e.hok, e.bare⟩

section
variable {X : Cx} {pins : List (Addr × Obj)} {σ : St} {H : Hp} {s s' : Shared}
/-- from a body: what a callee wants -/
theorem Inv.env0 (I : Inv X pins σ H s) : Env0 X.prog X.w X.K X.mg X.base X.A X.stack s H :=
  ⟨I.ok.frames, I.ok.mod, I.bs, Nat.le_trans I.ok.bsz I.sz, I.stack, I.stkFree, I.hok, I.bare⟩
/-- behind a call -/
theorem Inv.after {Q : VK} {u : Value} (I : Inv X pins σ H s) (h : CE X.stack X.prog X.w H s Q u s') : EP X pins σ Q u s' := by
  obtain ⟨v, H', os, bare, un, hok, r, q⟩ := h
  obtain ⟨hh, g, d, t, os'⟩ := s'
  obtain rfl : os' = s.os := os
  exact ⟨v, H', I.call (h' := hh) (g' := g) (d' := d) (t' := t) (ch := []) un hok bare (fun b z => absurd z (by simp)), r, q⟩
end

/-! ### calls -/
/-- f(..): the written arguments, then the defaults dvs; E: what is wanted of an exception -/
noncomputable def tCall (sp : Sp) (dvs : List V) (E : XK) (t : TA) : TE := fun σ H Q => t σ H fun vs H1 => sp (vs ++ dvs) H1 Q E
/-- o.m(..) of an instance of the class at C -/
noncomputable def tMeth (C : Addr) (m : Str) (sp : Sp) (dvs : List V) (E : XK) (ta : TE) (t : TA) : TE := fun σ H Q => ta σ H fun x H1 => ∃ a dx fs, x = .ref a ∧ H1 a = some (.ins C dx fs) ∧ fs.lookup m = none ∧
  t σ H1 fun vs H2 => sp (x :: (vs ++ dvs)) H2 Q E
/-- C(..): a new instance and its dict, then __init__ -/
noncomputable def tMake (C : Addr) (sp : Sp) (dvs : List V) (E : XK) (t : TA) : TE := fun σ H Q => t σ H fun vs H1 => ∀ x dx, H1 x = none → H1 dx = none → dx ≠ x →
  sp (.ref x :: (vs ++ dvs)) (upd (upd H1 dx (.own x)) x (.ins C dx [])) (fun v H2 => v = .non ∧ Q (.ref x) H2) E

/-- how the parameters are bound: us the positional arguments, kw the keywords' values by name, ds the defaults that fill up -/
noncomputable def Binds (K : PySem.W.Frag) (fd : FuncData) (ps : List Str) (ds : List Value) : Prop :=
  ∀ (s : Shared) (us : List Value), K.In s.heap → (us ++ ds).length = ps.length → BindsTo s fd ⟨us, []⟩ (ps.zip (us ++ ds))
/-- every parameter is given -/
theorem Binds.all {K : PySem.W.Frag} {fd : FuncData} {ps : List Str} (h : ∀ us : List Value, us.length = ps.length → bindArgs fd ⟨us, []⟩ = pure (ps.zip us)) : Binds K fd ps [] := fun s us _ hl => by
  rw [List.append_nil] at hl ⊢
  exact .of_eq (h us hl)

/-- an exception of a callee reaches what this body wants of exceptions -/
noncomputable def Passes (CX : CXT) (X : Cx) (E : XK) : Prop := ∀ (pins : List (Addr × Obj)) (σ : St) (H : Hp) (s : Shared) (e : Value) (s' : Shared), Inv X pins σ H s → CX X.stack H s E e s' → X.xe e s'

section
variable {X : Cx} {CX : CXT} {k : Nat} {f C : Addr} {fd : FuncData} {ps : List Str} {sp : Sp} {dvs : List V} {ds : List Value} {E : XK} {x m : Str} {p pos apos : Pos} {e o : Expr} {es : List Expr} {ta : TE} {t : TA}

/-- the callee runs -/
theorem run_fn {pins : List (Addr × Obj)} {σ : St} {H : Hp} {s : Shared} {Q : VK} {us : List Value} {vs : List V} (F : FnOk X.prog X.w X.K X.mg X.base CX k f fd ps sp) (hr : Room k X.A) (hb : Binds X.K fd ps ds) (hd : Vals dvs ds) (hx : Passes CX X E)
    (I : Inv X pins σ H s) (r : Vals vs us) (h : sp (vs ++ dvs) H Q E) : wpAny (model X.prog X.w) X.A (call (.ref f) us) (EP X pins σ Q) X.xe s := by
  have r2 : Vals (vs ++ dvs) (us ++ ds) := r.append hd
  have hl : (us ++ ds).length = ps.length := by rw [← r2.length]; exact F.len _ _ _ _ h
  refine wpAny_call (codeAny_mono (F.run X.A X.stack s H ⟨us, []⟩ (us ++ ds) (vs ++ dvs) Q E hr I.env0 (hb s us I.kIn hl) r2 h) fun r s' hq => ?_)
  cases r with
  | error e => exact hx pins σ H s e s' I hq
  | ok fl =>
    cases fl with
    | ret u => exact I.after hq
    | next => exact False.elim hq
    | brk => exact False.elim hq
    | cont => exact False.elim hq

theorem pe_call (F : FnOk X.prog X.w X.K X.mg X.base CX k f fd ps sp) (hr : Room k X.A) (hg : Gl X x) (hm : X.mg x = some (.ref f)) (hk : PySem.W.keepIn X.K (.ref f) = true) (hb : Binds X.K fd ps ds) (hd : Vals dvs ds) (hx : Passes CX X E)
    (ha : PA X (e :: es) t) (hdb : (x == ("__debug__" : Str)) = false := by decide) (he : starEach (e :: es) X.env = (false, eval e X.env) :: starEach es X.env := by rfl) (hpl : (backTo pos (starEach es X.env)).any (·.1) = false := by rfl) :
    PE X (.Call (.Name x p) (e :: es) [] pos) (tCall sp dvs E t) := by
  intro pins s σ H Q I h
  refine wpAny_Call_Name_kw (ld_glob I hg hm ?_ hdb)
  refine PySem.W.callWith_K (h₀ := X.base) I.ok.mod.kin hk (thn (ha pos pins s σ H _ I h) fun us s1 ⟨vs, H1, I1, r, q⟩ => ⟨I1.kIn, ?_⟩) he hpl
  exact run_fn F hr hb hd hx I1 r q

/-- o.m(e, ..) -/
theorem pe_meth {pl : Sem Bool} (he : PE X o ta) (c : Cls X.K C) (hm : Meth X.K C m f) (F : FnOk X.prog X.w X.K X.mg X.base CX k f fd ps sp) (hr : Room k X.A) (hb : Binds X.K fd ps ds) (hd : Vals dvs ds) (hx : Passes CX X E) (ha : PA X (e :: es) t)
    (hst : starEach (e :: es) X.env = (false, eval e X.env) :: starEach es X.env := by rfl) (hpl : (backTo pos (starEach es X.env)).any (·.1) = false := by rfl)
    (ht : eval (.Call (.Attribute o m apos) (e :: es) [] pos) X.env = (do
      let ov ← eval o X.env
      standAt apos.atName
      let (f, first) ← holding [ov] (getMethod ov m pl)
      callWith pos f first (backTo pos (starEach (e :: es) X.env)) (backToKw pos (keywordEach [] X.env))) := by rfl) :
    PE X (.Call (.Attribute o m apos) (e :: es) [] pos) (tMeth C m sp dvs E ta t) := by
  intro pins s σ H Q I h
  refine PySem.W.methodCall_KW (pl := pl) (thn (he pins s σ H _ I h) fun u s1 ⟨x, H1, I1, rx, a, dx, fs, ex, ea, l, q⟩ => ?_) ht
  subst ex
  obtain rfl : u = Value.ref a := rx
  refine getmeth_ok I1 ea c hm l ?_
  refine PySem.W.callWith_K (first := [.ref a]) (h₀ := X.base) I.ok.mod.kin hm.kp (thn (ha pos pins s1 σ H1 _ I1 q) fun us s2 ⟨vs, H2, I2, r, q2⟩ => ⟨I2.kIn, ?_⟩) hst hpl
  exact run_fn (us := .ref a :: us) (vs := .ref a :: vs) F hr hb hd hx I2 (.cons rfl r) q2
/-- o.m() -/
theorem pe_meth0 {pl : Sem Bool} (he : PE X o ta) (c : Cls X.K C) (hm : Meth X.K C m f) (F : FnOk X.prog X.w X.K X.mg X.base CX k f fd ps sp) (hr : Room k X.A) (hb : Binds X.K fd ps ds) (hd : Vals dvs ds) (hx : Passes CX X E)
    (ht : eval (.Call (.Attribute o m apos) [] [] pos) X.env = (do
      let ov ← eval o X.env
      standAt apos.atName
      let (f, first) ← holding [ov] (getMethod ov m pl)
      callWith pos f first (backTo pos (starEach [] X.env)) (backToKw pos (keywordEach [] X.env))) := by rfl) :
    PE X (.Call (.Attribute o m apos) [] [] pos) (tMeth C m sp dvs E ta tNil) := by
  intro pins s σ H Q I h
  refine PySem.W.methodCall_KW (pl := pl) (thn (he pins s σ H _ I h) fun u s1 ⟨x, H1, I1, rx, a, dx, fs, ex, ea, l, q⟩ => ?_) ht
  subst ex
  obtain rfl : u = Value.ref a := rx
  refine getmeth_ok I1 ea c hm l ?_
  exact PySem.W.callWith_K0 (first := [.ref a]) I1.kIn hm.kp (run_fn (us := [.ref a]) (vs := [.ref a]) F hr hb hd hx I1 (.cons rfl .nil) q)

/-- what a class must have to be made -/
structure Mk (K : PySem.W.Frag) (C f : Addr) : Prop where
  makes : PySem.W.makesIn K C = true
  init : PySem.W.findIn K (.ref C) "__init__" = some (some (.ref f))
  fn : PySem.W.isFn K (.ref f) = true
  kp : PySem.W.keepIn K (.ref C) = true

theorem run_make {pins : List (Addr × Obj)} {σ : St} {H : Hp} {s : Shared} {Q : VK} {us : List Value} {vs : List V} (M : Mk X.K C f) (F : FnOk X.prog X.w X.K X.mg X.base CX k f fd ps sp) (hr : Room (k + 1) X.A) (hb : Binds X.K fd ps ds) (hd : Vals dvs ds)
    (hx : Passes CX X E) (I : Inv X pins σ H s) (r : Vals vs us)
    (h : ∀ x dx, H x = none → H dx = none → dx ≠ x → sp (.ref x :: (vs ++ dvs)) (upd (upd H dx (.own x)) x (.ins C dx [])) (fun v H2 => v = .non ∧ Q (.ref x) H2) E) :
    wpAny (model X.prog X.w) X.A (call (.ref C) us) (EP X pins σ Q) X.xe s := by
  have hq := h (s.heap.objs.size + 1) s.heap.objs.size (I.hok.fresh (Nat.le_succ _)) (I.hok.fresh (Nat.le_refl _)) (Nat.ne_of_lt (Nat.lt_succ_self _))
  have I2 := Inv.made (C := C) I
  have r2 : Vals (V.ref (s.heap.objs.size + 1) :: (vs ++ dvs)) (Value.ref (s.heap.objs.size + 1) :: (us ++ ds)) := .cons rfl (r.append hd)
  have hl : (Value.ref (s.heap.objs.size + 1) :: us ++ ds).length = ps.length := by
    have e := r2.length
    rw [F.len _ _ _ _ hq] at e
    exact e.symm
  refine wpAny_call (make_map (f := f) I.kIn M.makes M.init (beq_iff_eq.mp M.fn) (codeAny_mono (F.run _ X.stack _ _ ⟨Value.ref (s.heap.objs.size + 1) :: us, []⟩ (Value.ref (s.heap.objs.size + 1) :: (us ++ ds)) _ _ E (hr.make C us [])
    (I2.env0.make C us []) (hb _ (Value.ref (s.heap.objs.size + 1) :: us) I2.kIn hl) r2 hq) fun r s' hq' => ?_))
  cases r with
  | error e => exact hx pins σ _ _ e s' I2 hq'
  | ok fl =>
    cases fl with
    | ret u =>
      obtain ⟨v, H', I3, rv, ev, q3⟩ := I2.after hq'
      subst ev
      exact ⟨rv, ⟨V.ref (s.heap.objs.size + 1), H', I3, rfl, q3⟩⟩
    | next => exact False.elim hq'
    | brk => exact False.elim hq'
    | cont => exact False.elim hq'
theorem pe_make0 (M : Mk X.K C f) (F : FnOk X.prog X.w X.K X.mg X.base CX k f fd ps sp) (hr : Room (k + 1) X.A) (hg : Gl X x) (hm : X.mg x = some (.ref C)) (hb : Binds X.K fd ps ds) (hd : Vals dvs ds) (hx : Passes CX X E)
    (hdb : (x == ("__debug__" : Str)) = false := by decide) : PE X (.Call (.Name x p) [] [] pos) (tMake C sp dvs E tNil) := by
  intro pins s σ H Q I h
  refine wpAny_Call_Name_kw (ld_glob I hg hm ?_ hdb)
  exact PySem.W.callWith_K0 I.kIn M.kp (run_make (us := []) M F hr hb hd hx I .nil h)
end

/-! ### keywords -/
section
variable {X : Cx} {CX : CXT} {k : Nat} {f C : Addr} {fd : FuncData} {ps ks : List Str} {sp : Sp} {E : XK} {x m : Str} {p pos apos kpos : Pos} {e o : Expr} {es : List Expr} {kws : List Keyword} {te ta : TE} {t tk : TA} {nm : Option Str}

variable {g : List Value → List Value → List Value} {gV : List V → List V → List V}
end

/-! ### a def's body keeps its promise -/
/-- names: the parameters first -/
structure FnScope (N P : List Str) (sc : Scope) : Prop where
  kind : sc.kind = .function
  co : sc.isCoroutine = false
  gen : sc.isGenerator = false
  nd : N.Nodup
  pre : N.take P.length = P
  par : ∀ x ∈ P, sc.names.lookup x = some .local ∨ sc.names.lookup x = some .cell
  nofree : ∀ y ∈ sc.names, y.2 ≠ .free

theorem bindL_out {kindOf : Str → Option NameKind} {x : Str} : ∀ {binds : List (Str × Value)} {m : Str → Option Value}, (∀ v, (x, v) ∉ binds) → bindL kindOf binds m x = m x
  | [], _, _ => rfl
  | (n, v) :: r, m, h => by
    unfold bindL
    rw [bindL_out fun w hw => h w (List.mem_cons_of_mem _ hw)]
    split
    · have : x ≠ n := by rintro rfl; exact h v List.mem_cons_self
      simp [this]
    · rfl
theorem bindC_out {kindOf : Str → Option NameKind} {x : Str} : ∀ {binds : List (Str × Value)} {m : Str → Option Value}, (∀ v, (x, v) ∉ binds) → bindC kindOf binds m x = m x
  | [], _, _ => rfl
  | (n, v) :: r, m, h => by
    unfold bindC
    rw [bindC_out fun w hw => h w (List.mem_cons_of_mem _ hw)]
    split
    · rfl
    · have : x ≠ n := by rintro rfl; exact h v List.mem_cons_self
      simp [this]
theorem bindL_get {kindOf : Str → Option NameKind} {x : Str} {v : Value} : ∀ {P : List Str} {vs : List Value} {i : Nat} {m : Str → Option Value}, P.Nodup → P[i]? = some x → vs[i]? = some v → kindOf x = some .local →
    bindL kindOf (P.zip vs) m x = some v
  | [], _, _, _, _, h, _, _ => by simp at h
  | _ :: _, [], _, _, _, _, h, _ => by simp at h
  | p :: P, w :: vs, 0, m, nd, h1, h2, hk => by
    simp at h1 h2; subst h1; subst h2
    show bindL kindOf ((p, w) :: P.zip vs) m p = _
    unfold bindL
    rw [bindL_out fun v hv => (List.nodup_cons.mp nd).1 (List.of_mem_zip hv).1, if_pos hk]
    simp
  | p :: P, w :: vs, i + 1, m, nd, h1, h2, hk => by
    show bindL kindOf ((p, w) :: P.zip vs) m x = _
    unfold bindL
    exact bindL_get (i := i) (List.nodup_cons.mp nd).2 (by simpa using h1) (by simpa using h2) hk
theorem bindC_get {kindOf : Str → Option NameKind} {x : Str} {v : Value} : ∀ {P : List Str} {vs : List Value} {i : Nat} {m : Str → Option Value}, P.Nodup → P[i]? = some x → vs[i]? = some v → kindOf x ≠ some .local →
    bindC kindOf (P.zip vs) m x = some v
  | [], _, _, _, _, h, _, _ => by simp at h
  | _ :: _, [], _, _, _, _, h, _ => by simp at h
  | p :: P, w :: vs, 0, m, nd, h1, h2, hk => by
    simp at h1 h2; subst h1; subst h2
    show bindC kindOf ((p, w) :: P.zip vs) m p = _
    unfold bindC
    rw [bindC_out fun v hv => (List.nodup_cons.mp nd).1 (List.of_mem_zip hv).1, if_neg hk]
    simp
  | p :: P, w :: vs, i + 1, m, nd, h1, h2, hk => by
    show bindC kindOf ((p, w) :: P.zip vs) m x = _
    unfold bindC
    exact bindC_get (i := i) (List.nodup_cons.mp nd).2 (by simpa using h1) (by simpa using h2) hk

/-- the names' values at the entry -/
noncomputable def start (N : List Str) (vs : List V) : St := vs.map some ++ List.replicate (N.length - vs.length) none

/-- the context of a def's body, at its entry; an exception leaves the frame, then lies as CX says -/
noncomputable def cxOf (CX : CXT) (P : Program) (w : World) (K : PySem.W.Frag) (mg : Str → Option Value) (base : Heap) (N : List Str) (qual : Str) (scope : Scope) (f : Addr) (cd : Value) (A : Around) (outer : List Env) (s : Shared) (H : Hp) (E : XK) : Cx where
  prog := P
  w := w
  K := K
  mg := mg
  base := base
  A := A.deeper (envOfC qual scope s.heap.objs.size f cd)
  N := N
  s₀ := s
  H₀ := H
  env := envOfC qual scope s.heap.objs.size f cd
  outer := outer
  stack := envOfC qual scope s.heap.objs.size f cd :: outer
  ex := []
  calm := true
  fn := fun _ => true
  pn := []
  xe := fun e s' => wpAny (model P w) (A.deeper (envOfC qual scope s.heap.objs.size f cd)) (leaving (envOfC qual scope s.heap.objs.size f cd) e) (fun _ s'' => CX outer H s E e s'') (fun e' s'' => CX outer H s E e' s'') s'

theorem cell_has {sc : Scope} {n : Nat} {x : Str} (h : sc.names.lookup x = some .cell) : ∃ c, (cellsFrom n sc.names []).lookup x = some c := by
  have q := PySem.W.cellsFrom_some sc.names n [] (.inl h)
  exact Option.isSome_iff_exists.mp q

theorem inv_start {CX : CXT} {P : Program} {w : World} {K : PySem.W.Frag} {mg : Str → Option Value} {base : Heap} {N ps : List Str} {qual : Str} {scope : Scope} {f : Addr} {cd : Value} {A : Around} {outer : List Env} {s s1 : Shared} {H : Hp} {E : XK} {us : List Value} {vs : List V}
    (S : FnScope N ps scope) (hd : A.handled = none) (e0 : Env0 P w K mg base A outer s H) (hl : vs.length = ps.length) (r : Vals vs us)
    (x : InCallC s s.heap.objs.size (bindL (envOfC qual scope s.heap.objs.size f cd).kindOf (ps.zip us) fun _ => none) (cellsFrom (s.heap.objs.size + 1) scope.names []) (bindC (envOfC qual scope s.heap.objs.size f cd).kindOf (ps.zip us) fun _ => none) s1) :
    Inv (cxOf CX P w K mg base N qual scope f cd A outer s H E) [] (start N vs) H s1 := by
  have hpl : ps.length ≤ N.length := by have := congrArg List.length S.pre; rw [List.length_take] at this; omega
  obtain ⟨h1, tk, rfl, hk⟩ := x.done
  have noA : ∀ b : Addr, b ∉ (cxOf CX P w K mg base N qual scope f cd A outer s H E).ex := fun b z => absurd (show b ∈ ([] : List Addr) from z) (by simp)
  refine ⟨⟨e0.mod, S.kind, rfl, rfl, Nat.le_refl _, fun y z c h1 h2 => ?_, fun y hy => ?_, fun y c _ h => ?_, fun _ => hd, Around.frames_deeper e0.frames, .inr ⟨rfl, rfl⟩, fun b z => absurd z (noA b), e0.bs, e0.bsz, fun b _ _ => noA b, fun b z => absurd z (noA b), e0.funs, e0.frf⟩,
    rfl, e0.bare, Un.kept hk, ⟨_, x.toInCall.ns, fun i y v h1 h2 h3 => ?_⟩, fun y c h => ⟨_, x.cell y c h⟩, e0.hok.fresh (Nat.le_refl _), fun y c h => ?_, fun p hp => absurd (show p ∈ ([] : List (Addr × Obj)) from hp) (by simp), e0.hok.kept hk, ?_⟩
  · exact name_of_addr x.apart (PySem.mem_of_lookup h1) (PySem.mem_of_lookup h2)
  · have hy : scope.names.lookup y = some .cell ∨ scope.names.lookup y = some .free := hy
    rcases hy with hy | hy
    · exact cell_has hy
    · exact absurd rfl (S.nofree _ (PySem.mem_of_lookup hy))
  · exact Nat.le_of_lt (x.above y c (PySem.mem_of_lookup h))
  · have hi : i < vs.length := by
      unfold start at h2
      by_cases hi : i < vs.length
      · exact hi
      · rw [List.getElem?_append_right (by simpa using hi)] at h2
        rw [List.getElem?_replicate] at h2
        split at h2 <;> cases h2
    have ha : vs[i]? = some v := by
      unfold start at h2
      rw [List.getElem?_append_left (by simpa using hi), List.getElem?_map] at h2
      cases e : vs[i]? with
      | none => rw [e] at h2; cases h2
      | some a => rw [e] at h2; cases h2; rfl
    obtain ⟨u, hu, rv⟩ := r.get ha
    have hp : ps[i]? = some y := by
      rw [← S.pre, List.getElem?_take_of_lt (by omega)]; exact h1
    have ndP : ps.Nodup := by rw [← S.pre]; exact S.nd.sublist (List.take_sublist _ _)
    refine ⟨u, rv, ?_⟩
    rcases S.par y (List.mem_of_getElem? hp) with k | k
    · exact .inl ⟨k, bindL_get ndP hp hu k⟩
    · obtain ⟨c, e⟩ := cell_has (n := s.heap.objs.size + 1) k
      refine .inr ⟨.inl k, c, e, ?_⟩
      have q := x.cell y c e
      rw [bindC_get ndP hp hu (by show scope.names.lookup y ≠ _; rw [k]; decide)] at q
      exact q
  · exact e0.hok.fresh (Nat.le_of_lt (x.above y c (PySem.mem_of_lookup h)))
  · unfold start
    show _ = N.length
    rw [List.length_append, List.length_map, List.length_replicate]
    omega

/-- THE RULE: a def (or a method) of the text, by its body. The body's reading t is chosen for each entry; it is run at the parameters' values -/
theorem fn_of {CX : CXT} {P : Program} {w : World} {K : PySem.W.Frag} {mg : Str → Option Value} {base : Heap} {k : Nat} {f : Addr} {name qual : Str} {params : Arguments} {body : List Stmt} {scope : Scope} {dV kV doc pm cdv ct oc : Value} {an od : Option Addr}
    {osl : Array (Option Value)} {N ps : List Str} {sp : Sp} (lk : K.lookup f = some ⟨oc, od, .func (PySem.W.fnOf name qual params body scope dV kV doc pm an cdv ct), osl⟩) (hcd : PySem.W.codeIn K cdv qual = true) (S : FnScope N ps scope)
    (len : ∀ vs H Q E, sp vs H Q E → vs.length = ps.length)
    (hbody : ∀ (A : Around) (outer : List Env) (s : Shared) (H : Hp) (vs : List V) (Q : VK) (E : XK), Room k (A.deeper (envOfC qual scope s.heap.objs.size f cdv)) → sp vs H Q E →
      ∃ t, PSs (cxOf CX P w K mg base N qual scope f cdv A outer s H E) body t ∧ t { nx := fun _ H' => Q .non H', rt := Q } (start N vs) H) :
    FnOk P w K mg base CX (k + 1) f (PySem.W.fnOf name qual params body scope dV kV doc pm an cdv ct) ps sp := by
  refine ⟨len, fun A outer s H args us vs Q E hr e0 hb r hsp => ?_⟩
  have hl := len _ _ _ _ hsp
  have KX : K.In s.heap := e0.mod.kin.keeps fun b o e => (e0.bs b o e).1
  have lim : s.heap.NoLimit := e0.mod.nolimit.keeps fun b o e => (e0.bs b o e).1
  have hkind : ∀ y ∈ ps.zip us, scope.names.lookup y.1 = some .local ∨ (scope.names.lookup y.1 = some .cell ∧ ((cellsFrom (s.heap.objs.size + 1) scope.names []).lookup y.1).isSome = true) := fun ⟨n, v⟩ hy => by
    rcases S.par n (List.of_mem_zip hy).1 with q | q
    · exact .inl q
    · exact .inr ⟨q, PySem.W.cellsFrom_some _ _ _ (.inl q)⟩
  refine codeAny_call_function hr.depth (KX _ _ lk) rfl S.co S.gen rfl (PySem.W.codeRec_of KX hcd) (hb _ _ _ _ ?_)
  refine wpAny_newFunctionEnv_cells S.kind hkind fun env he s1 x => ?_
  subst he
  refine ⟨lim.keeps x.toInCall.keep, codeAny_func ?_⟩
  obtain ⟨t, ht, hq⟩ := hbody A outer s H vs Q E (hr.deeper _) hsp
  have I : Inv (cxOf CX P w K mg base N qual scope f cdv A outer s H E) [] (start N vs) H s1 := inv_start S hr.hd e0 hl r x
  refine wpAny_mono (ht [] s1 (start N vs) H _ I hq) (fun fl s' hs => ?_) fun e s' hs => hs
  have fin : ∀ {σ' : St} {H' : Hp} {v : V} {u : Value}, Inv (cxOf CX P w K mg base N qual scope f cdv A outer s H E) [] σ' H' s' → RelV v u → Q v H' → CE outer P w H s Q u s' :=
    fun {σ' H' v u} J rv q => ⟨v, H', J.os, J.bare, J.base, J.hok, rv, q⟩
  cases fl with
  | ret u =>
    obtain ⟨v, σ', H', J, rv, q⟩ := hs
    exact fin J rv q
  | next =>
    obtain ⟨σ', H', J, q⟩ := hs
    exact fin (v := V.non) (u := Value.none) J rfl q
  | brk =>
    obtain ⟨_, _, _, q⟩ := hs
    exact False.elim q
  | cont =>
    obtain ⟨_, _, _, q⟩ := hs
    exact False.elim q
end L2

namespace L2
open PySem PySem.Spec PyProof.Rows
section
variable {X : Cx} {x : Str} {p pos : Pos} {e : Expr} {es : List Expr} {t : TA} {id T : String} {r : List V → Hp → VK → Prop}

noncomputable def tCB (r : List V → Hp → VK → Prop) (t : TA) : TE := fun σ H Q => t σ H fun vs H1 => r vs H1 Q
/-- f(e, ..), f a built-in function -/
theorem pe_callB (hc : CallR X (.builtin id) r) (hg : Gl X x) (hm : X.mg x = none) (hv : bootBuiltins x = some (.builtin id)) (ha : PA X (e :: es) t) (hn : x ≠ "__name__" := by decide) (hdb : (x == ("__debug__" : Str)) = false := by decide)
    (he : starEach (e :: es) X.env = (false, eval e X.env) :: starEach es X.env := by rfl) (hpl : (backTo pos (starEach es X.env)).any (·.1) = false := by rfl) : PE X (.Call (.Name x p) (e :: es) [] pos) (tCB r t) := by
  intro pins s σ H Q I h
  refine wpAny_Call_Name_kw (ld_blt I hg hm hv ?_ hn hdb)
  exact PyProof.Rows.callWith_builtin1 (thn (ha pos pins s σ H _ I h) fun us s1 ⟨vs, H1, I1, r1, q1⟩ => hc pins s1 σ H1 vs us Q I1 r1 q1) he hpl
/-- T(e, ..), T a built-in type -/
theorem pe_callTy (hc : CallR X (.type T) r) (hg : Gl X x) (hm : X.mg x = none) (hv : bootBuiltins x = some (.type T)) (ha : PA X (e :: es) t) (hn : x ≠ "__name__" := by decide) (hdb : (x == ("__debug__" : Str)) = false := by decide)
    (he : starEach (e :: es) X.env = (false, eval e X.env) :: starEach es X.env := by rfl) (hpl : (backTo pos (starEach es X.env)).any (·.1) = false := by rfl) : PE X (.Call (.Name x p) (e :: es) [] pos) (tCB r t) := by
  intro pins s σ H Q I h
  refine wpAny_Call_Name_kw (ld_blt I hg hm hv ?_ hn hdb)
  exact PyProof.Rows.callWith_type1 (thn (ha pos pins s σ H _ I h) fun us s1 ⟨vs, H1, I1, r1, q1⟩ => hc pins s1 σ H1 vs us Q I1 r1 q1) he hpl
end
end L2

namespace HT
open PySem PyProof.Rows



section
open PySem.SeqAt
open PySem.AutoSeq1 (wpAny_loadPart')
open PySem.MeetsSeq PySem.MeetsSeq2 PySem.MeetsSeq3

end

section
variable {prog : Program} {w : World} {A : Around} {E : Value → Shared → Prop} {s : Shared}



/-! ### t[a:b], not the whole -/
/-- a slice's bound as a place among n (d where it is left out) -/
noncomputable def sIx (n d : Nat) : Option Int → Nat
  | none => d
  | some v => if v < 0 then (v + (n : Int)).toNat else min v.toNat n
theorem sIx_none (n d : Nat) : sIx n d none = d := rfl
theorem sIx_nat (n d k : Nat) : sIx n d (some (k : Int)) = min k n := by
  show (if (k : Int) < 0 then ((k : Int) + (n : Int)).toNat else min (k : Int).toNat n) = min k n
  rw [if_neg (by omega), Int.toNat_natCast]

end
end HT

namespace L2
open PySem PySem.Spec PyProof.Rows

/-! ### the parts of a slice -/
noncomputable abbrev TO := St → Hp → (Option Int → Hp → Prop) → Prop
/-- a slice's part (left out, or an int) -/
noncomputable def PO (X : Cx) (e : Option Expr) (t : TO) : Prop :=
  ∀ (pins : List (Addr × Obj)) (s : Shared) (σ : St) (H : Hp) (Q : Option Int → Hp → Prop), Inv X pins σ H s → t σ H Q →
    wpAny (model X.prog X.w) X.A (evalPart e X.env) (fun u s' => ∃ o H', Inv X pins σ H' s' ∧ IsPart u o ∧ Q o H') X.xe s
noncomputable def tNoPart : TO := fun _ H Q => Q none H
noncomputable def tPart (t : TE) : TO := fun σ H Q => t σ H fun x H1 => ∃ i, x = .int i ∧ Q (some i) H1


section
variable {X : Cx} {e : Expr} {te : TE} {lo hi : Option Expr} {tl th : TO} {pos p2 : Pos}

theorem po_none : PO X none tNoPart := by
  intro pins s σ H Q I h
  rw [evalPart_none]
  exact wpAny_pure ⟨none, H, I, .none, h⟩
theorem po_some (h : PE X e te) : PO X (some e) (tPart te) := by
  intro pins s σ H Q I hw
  rw [evalPart_some]
  refine thn (h pins s σ H _ I hw) fun u s1 ⟨x, H1, I1, r1, q1⟩ => ?_
  obtain ⟨i, rfl, q⟩ := q1
  obtain ⟨t, rfl⟩ := r1
  exact ⟨some i, H1, I1, .int i t, q⟩

/-- what a slice of a value is, by values: the slice object stands at sl -/
noncomputable def SlR (X : Cx) (r : V → Option Int → Option Int → Hp → VK → Prop) : Prop :=
  ∀ (pins : List (Addr × Obj)) (s : Shared) (σ : St) (H : Hp) (x : V) (v vl vu : Value) (lo hi : Option Int) (sl : Addr) (Q : VK), Inv X pins σ H s → RelV x v → s.heap.IsSliceOf sl vl vu .none → IsPart vl lo → IsPart vu hi → r x lo hi H Q →
    ∃ T id, typeLookup (.type T) "__getitem__" = pure (some (.builtin id)) ∧ s.TypeIs v T ∧ wpAny (model X.prog X.w) X.A (getItem v (.ref sl)) (EP X pins σ Q) X.xe s
noncomputable def tSl (r : V → Option Int → Option Int → Hp → VK → Prop) (te : TE) (tl th : TO) : TE := fun σ H Q => te σ H fun x H1 => tl σ H1 fun l H2 => th σ H2 fun u H3 => r x l u H3 Q
/-- a[lo:hi], any a -/
theorem pe_slice {r : V → Option Int → Option Int → Hp → VK → Prop} (hr : SlR X r) (he : PE X e te) (hl : PO X lo tl) (hu : PO X hi th) : PE X (.Subscript e (.Slice lo hi none p2) pos) (tSl r te tl th) := by
  intro pins s σ H Q I h
  refine Subscript_ (thn (he pins s σ H _ I h) fun v s1 ⟨x, H1, I1, r1, q1⟩ => ?_)
  refine wpAny_Slice (thn (hl pins s1 σ H1 _ I1 q1) fun vl s2 ⟨l, H2, I2, pl, q2⟩ => thn (hu pins s2 σ H2 _ I2 q2) fun vu s3 ⟨u, H3, I3, pu, q3⟩ => ?_)
  rw [evalPart_none]
  refine wpAny_pure ?_
  have I4 : Inv X pins σ H3 { s3 with heap := s3.heap.push { cls := .type "slice", data := .fields #[vl, vu, .none] } } := I3.kept (t' := s3.toks) fun b ob q => Heap.get?_push_of_some _ q
  obtain ⟨T, id, hT, ht, hg⟩ := hr pins { s3 with heap := s3.heap.push { cls := .type "slice", data := .fields #[vl, vu, .none] } } σ H3 x v vl vu l u s3.heap.objs.size Q I4 r1 (Heap.IsSliceOf.new ..) pl pu q3
  show wpAny (model X.prog X.w) X.A (subscriptTail e (.Slice lo hi none p2) v (.ref s3.heap.objs.size)) (EP X pins σ Q) X.xe { s3 with heap := s3.heap.push { cls := .type "slice", data := .fields #[vl, vu, .none] } }
  exact tail_any (ops := [.ref s3.heap.objs.size, v]) ht hT hg (by with_unfolding_all rfl)

/-- the items of xs[lo:hi] -/
noncomputable def cutV (xs : List V) (lo hi : Option Int) : List V := (xs.drop (HT.sIx xs.length 0 lo)).take (HT.sIx xs.length xs.length hi - HT.sIx xs.length 0 lo)
theorem cutV_length (xs : List V) (lo hi : Option Int) : (cutV xs lo hi).length ≤ xs.length := by
  unfold cutV
  rw [List.length_take, List.length_drop]
  omega

/-! ### t < u, t + u -/
end
end L2

namespace L2
open PySem PySem.Spec PyProof.Rows

/-! ### places -/
/-- the place that an index of any sign means -/
noncomputable def ixN (n : Nat) (i : Int) : Option Nat := if 0 ≤ i then (if i < n then some i.toNat else none) else if -(n : Int) ≤ i then some (i + n).toNat else none
noncomputable def atI {α : Type} (xs : List α) (i : Int) : Option α := (ixN xs.length i).bind fun j => xs[j]?
theorem ixN_seq {n : Nat} {i : Int} {j : Nat} (h : ixN n i = some j) : seqIndex? i n = some j ∧ j < n ∧ -(n : Int) ≤ i ∧ i < n := by
  unfold ixN at h
  by_cases h0 : 0 ≤ i
  · rw [if_pos h0] at h
    by_cases h1 : i < n
    · rw [if_pos h1] at h
      have e : i.toNat = j := Option.some.inj h
      exact ⟨by rw [seqIndex_of h0 h1, e], by omega, by omega, h1⟩
    · rw [if_neg h1] at h; cases h
  · rw [if_neg h0] at h
    by_cases h1 : -(n : Int) ≤ i
    · rw [if_pos h1] at h
      have e : (i + n).toNat = j := Option.some.inj h
      exact ⟨by rw [seqIndex_neg (by omega) h1, e], by omega, h1, by omega⟩
    · rw [if_neg h1] at h; cases h
theorem atI_get {α : Type} {xs : List α} {i : Int} {v : α} (h : atI xs i = some v) : ∃ j, seqIndex? i xs.length = some j ∧ xs[j]? = some v ∧ j < xs.length ∧ -(xs.length : Int) ≤ i ∧ i < xs.length := by
  unfold atI at h
  cases e : ixN xs.length i with
  | none => rw [e] at h; cases h
  | some j =>
    rw [e] at h
    obtain ⟨h1, h2, h3, h4⟩ := ixN_seq e
    exact ⟨j, h1, h, h2, h3, h4⟩
theorem atI_nat {α : Type} {xs : List α} {j : Nat} {v : α} (h : xs[j]? = some v) : atI xs (j : Int) = some v := by
  have hj : j < xs.length := (List.getElem?_eq_some_iff.mp h).1
  have e : ixN xs.length (j : Int) = some j := by
    unfold ixN
    rw [if_pos (by omega), if_pos (by omega)]; simp
  unfold atI; rw [e]; exact h
theorem atI_last {α : Type} (xs : List α) (v : α) : atI (xs ++ [v]) (-1) = some v := by
  have hl : (xs ++ [v]).length = xs.length + 1 := by simp
  have e : ixN (xs ++ [v]).length (-1) = some xs.length := by
    unfold ixN
    rw [hl, if_neg (by decide), if_pos (by omega)]
    congr 1
    omega
  unfold atI
  rw [e]
  show (xs ++ [v])[xs.length]? = some v
  simp

/-! ### what may be subscripted -/
/-- what stands as an index of a plain subscript -/
noncomputable def PlainIx (b : Expr) : Prop := ∀ o i, subscripted b false o i = operate [o, i] (getItem o i)
/-- a subscript by values -/
noncomputable def IxR (X : Cx) (r : R2) : Prop :=
  ∀ (value slice : Expr) (pins : List (Addr × Obj)) (s : Shared) (σ : St) (H : Hp) (x y : V) (v u : Value) (Q : VK), Inv X pins σ H s → RelV x v → RelV y u → r x y H Q →
    subscripted slice false v u = operate [v, u] (getItem v u) → wpAny (model X.prog X.w) X.A (subscriptTail value slice v u) (EP X pins σ Q) X.xe s
/-- a call of a builtin's method by values: the receiver, the arguments -/
noncomputable def MtR (X : Cx) (id : String) (r : V → List V → Hp → VK → Prop) : Prop :=
  ∀ (pins : List (Addr × Obj)) (s : Shared) (σ : St) (H : Hp) (x : V) (xs : List V) (v : Value) (us : List Value) (Q : VK), Inv X pins σ H s → RelV x v → Vals xs us → r x xs H Q →
    wpAny (model X.prog X.w) X.A (call (.builtin id) (v :: us)) (EP X pins σ Q) X.xe s
section
variable {X : Cx} {a b : Expr} {ta tb : TE} {pos : Pos}
/-- a[b] -/
theorem pe_ix {r : R2} (hr : IxR X r) (ha : PE X a ta) (hb : PE X b tb) (hs : PlainIx b) : PE X (.Subscript a b pos) (tOp r ta tb) := by
  intro pins s σ H Q I h
  exact Subscript_ (binT ha hb I h fun v u s2 x y H2 I2 rx ry q => hr a b pins s2 σ H2 x y v u Q I2 rx ry q (hs _ _))

noncomputable def rIxL (K : PySem.W.Frag) : R2 := fun x y H Q => ∃ p xs i v, x = .ref p ∧ y = .int i ∧ SqL K H p xs ∧ atI xs i = some v ∧ Q v H
noncomputable def rIxT (K : PySem.W.Frag) : R2 := fun x y H Q => ∃ p xs i v, x = .ref p ∧ y = .int i ∧ SqT K H p xs ∧ atI xs i = some v ∧ Q v H
noncomputable def rIxS : R2 := fun x y H Q => ∃ z i c, x = .str z ∧ y = .int i ∧ z.length ≤ sizeLine ∧ atI z.cps.toList i = some c ∧ Q (.str ⟨#[c]⟩) H
theorem ix_list : IxR X (rIxL X.K) := by
  intro value slice pins s σ H x y v u Q I rx ry h hs
  obtain ⟨p, xs, i, z, rfl, rfl, hq, he, q⟩ := h
  cases rx
  obtain ⟨t, rfl⟩ := ry
  obtain ⟨its, r, pl, hz⟩ := I.list hq
  obtain ⟨j, h1, h2, h3, h4, h5⟩ := atI_get he
  obtain ⟨w, ew, rw'⟩ := r.get h2
  have hl := r.length
  have hn := line63
  have fin : EP X pins σ Q w s := ⟨z, H, I, rw', q⟩
  by_cases h0 : 0 ≤ i
  · have hj : i.toNat = j := by
      rw [seqIndex_of h0 h5] at h1
      exact Option.some.inj h1
    exact item_listR pl.isList h0 (by omega) (by rw [hj]; simpa using ew) fin hs
  · have hj : (i + (its.toArray.size : Int)).toNat = j := by
      rw [seqIndex_neg (by omega) h4] at h1
      rw [List.size_toArray, ← hl]
      exact Option.some.inj h1
    exact subscriptTail_builtinR (x := w) pl.isList.typeIs slot_list_getitem.lookup
      (wpAny_getItem_list_neg (Q := fun r s' => r = w ∧ EP X pins σ Q r s') pl.isList (by omega) (by rw [List.size_toArray] <;> omega) (by omega) (by rw [hj]; simpa using ew) ⟨rfl, fin⟩) hs
theorem ix_tup : IxR X (rIxT X.K) := by
  intro value slice pins s σ H x y v u Q I rx ry h hs
  obtain ⟨p, xs, i, z, rfl, rfl, hq, he, q⟩ := h
  cases rx
  obtain ⟨t, rfl⟩ := ry
  obtain ⟨its, r, pl, hz⟩ := I.tuple hq
  obtain ⟨j, h1, h2, h3, h4, h5⟩ := atI_get he
  obtain ⟨w, ew, rw'⟩ := r.get h2
  have hl := r.length
  have hn := line63
  have fin : EP X pins σ Q w s := ⟨z, H, I, rw', q⟩
  exact subscriptTail_builtinR (x := w) pl.typeIs slot_tuple_getitem.lookup
    (getItem_tuple (j := j) (Q := fun r s' => r = w ∧ EP X pins σ Q r s') pl (by omega) (by omega) (by rw [List.size_toArray, ← hl]; exact h1) (by simpa using ew) ⟨rfl, fin⟩) hs
theorem ix_str : IxR X rIxS := by
  intro value slice pins s σ H x y v u Q I rx ry h hs
  obtain ⟨z, i, c, rfl, rfl, hz, he, q⟩ := h
  obtain ⟨t, rfl⟩ := rx
  obtain ⟨t', rfl⟩ := ry
  obtain ⟨j, h1, h2, h3, h4, h5⟩ := atI_get he
  have hl : z.cps.toList.length = z.length := by simp [Str.length]
  rw [hl] at h1 h4 h5
  have hn := line63
  exact tail_any (typeIs_str s z t) slot_str_getitem.lookup (getItem_str (c := c) (by
    have e1 : decide (i < -(2 ^ 63 : Int)) = false := decide_eq_false (by omega)
    have e2 : decide (i ≥ 2 ^ 63) = false := decide_eq_false (by omega)
    rw [e1, e2, Bool.or_false]) (by rw [h1]; simpa using h2) ⟨.str ⟨#[c]⟩, H, I.tok _, ⟨_, rfl⟩, q⟩) hs

/-! ### xs[i] = v, any sign -/

/-! ### slices -/
theorem slice_bounds (lo hi : Option Int) (n : Nat) : (sliceBounds lo hi none n).1 = ((HT.sIx n 0 lo : Nat) : Int) ∧ (sliceBounds lo hi none n).2.1 = ((HT.sIx n n hi : Nat) : Int) ∧ (sliceBounds lo hi none n).2.2 = 1 := by
  refine ⟨?_, ?_, rfl⟩
  · cases lo with
    | none => simp [sliceBounds, HT.sIx]
    | some i =>
      simp only [sliceBounds, HT.sIx, Option.getD_none, show (1 : Int) > 0 by decide, if_true]
      by_cases h : i < 0
      · simp only [h, if_true] <;> omega
      · simp only [h, if_false] <;> omega
  · cases hi with
    | none => simp [sliceBounds, HT.sIx]
    | some i =>
      simp only [sliceBounds, HT.sIx, Option.getD_none, show (1 : Int) > 0 by decide, if_true]
      by_cases h : i < 0
      · simp only [h, if_true] <;> omega
      · simp only [h, if_false] <;> omega
theorem slicePick_cut (its : List Value) (lo hi : Option Int) : slicePick its.toArray lo hi none = ((its.drop (HT.sIx its.length 0 lo)).take (HT.sIx its.length its.length hi - HT.sIx its.length 0 lo)).toArray := by
  obtain ⟨h1, h2, h3⟩ := slice_bounds lo hi its.toArray.size
  unfold slicePick
  rw [h1, h2, h3]
  simp only [sliceRange_one, pick_run, List.size_toArray] <;> rfl
/-- xs[lo:hi] of a list: a new list -/
noncomputable def rSlL (K : PySem.W.Frag) : V → Option Int → Option Int → Hp → VK → Prop := fun x lo hi H Q => ∃ a xs, x = .ref a ∧ SqL K H a xs ∧ ∀ p, H p = none → Q (.ref p) (upd H p (.lst (cutV xs lo hi)))
theorem sl_list : SlR X (rSlL X.K) := by
  intro pins s σ H x v vl vu lo hi sl Q I rx hs pl pu h
  obtain ⟨a, xs, rfl, hx, q⟩ := h
  cases rx
  obtain ⟨its, r, ht, hz⟩ := I.list hx
  have hlen := r.length
  refine ⟨"list", _, slot_list_getitem.lookup, ht.isList.typeIs, ?_⟩
  refine wpAny_getItem_list_slice ht.isList hs pl pu .none (by simp) ?_ (by rw [List.size_toArray] <;> omega)
  rw [slicePick_cut, ← hlen]
  refine ⟨.ref s.heap.objs.size, _, I.laid (t' := s.toks) (o := .lst (cutV xs lo hi)) (fun b ob q => Heap.get?_push_of_some _ q) (Nat.le_refl _) ?_, rfl, q _ (I.hok.fresh (Nat.le_refl _))⟩
  exact ⟨Nat.le_trans (cutV_length xs lo hi) hz, _, 0, (r.drop (HT.sIx xs.length 0 lo)).take (HT.sIx xs.length xs.length hi - HT.sIx xs.length 0 lo), Heap.get?_push_size _ rfl⟩

/-! ### in, not in: flat items -/
noncomputable def flatV : V → Bool
  | .non => true
  | .bl _ => true
  | .int _ => true
  | .str _ => true
  | _ => false
/-- == of flat values -/
noncomputable def eqV : V → V → Bool
  | .non, .non => true
  | .bl a, .bl b => a == b
  | .bl a, .int b => (if a then 1 else 0) == b
  | .int a, .bl b => a == (if b then 1 else 0)
  | .int a, .int b => a == b
  | .str a, .str b => a == b
  | _, _ => false
theorem eqAt_V {A : Around} {s : Shared} {y x : V} {u v : Value} (ry : RelV y u) (rx : RelV x v) (fy : flatV y = true) (fx : flatV x = true) : SeqAt.EqAt A s u v (eqV y x) := by
  cases y with
  | non =>
    cases ry
    cases x with
    | non => cases rx; exact SeqAt.EqAt.same _
    | bl b => cases rx; exact SeqAt.EqAt.none_bool b
    | int b => obtain ⟨t, rfl⟩ := rx; exact SeqAt.EqAt.none_int b t
    | str b => obtain ⟨t, rfl⟩ := rx; exact SeqAt.EqAt.none_str b t
    | _ => exact absurd (show false = true from fx) Bool.false_ne_true
  | bl a =>
    cases ry
    cases x with
    | non => cases rx; exact SeqAt.EqAt.bool_none a
    | bl b => cases rx; exact SeqAt.EqAt.bool_bool a b
    | int b => obtain ⟨t, rfl⟩ := rx; exact SeqAt.EqAt.bool_int a b t
    | str b => obtain ⟨t, rfl⟩ := rx; exact SeqAt.EqAt.bool_str a b t
    | _ => exact absurd (show false = true from fx) Bool.false_ne_true
  | int a =>
    obtain ⟨t', rfl⟩ := ry
    cases x with
    | non => cases rx; exact SeqAt.EqAt.int_none a t'
    | bl b => cases rx; exact SeqAt.EqAt.int_bool a t' b
    | int b => obtain ⟨t, rfl⟩ := rx; exact SeqAt.EqAt.int_int a t' b t
    | str b => obtain ⟨t, rfl⟩ := rx; exact SeqAt.EqAt.int_str a t' b t
    | _ => exact absurd (show false = true from fx) Bool.false_ne_true
  | str a =>
    obtain ⟨t', rfl⟩ := ry
    cases x with
    | non => cases rx; exact SeqAt.EqAt.str_none a t'
    | bl b => cases rx; exact SeqAt.EqAt.str_bool a t' b
    | int b => obtain ⟨t, rfl⟩ := rx; exact SeqAt.EqAt.str_int a t' b t
    | str b => obtain ⟨t, rfl⟩ := rx; exact SeqAt.EqAt.str_str a t' b t
    | _ => exact absurd (show false = true from fx) Bool.false_ne_true
  | _ => exact absurd (show false = true from fy) Bool.false_ne_true
/-- the items' answers, read off the values (a value's own answer does not lean on its token) -/
noncomputable def eqU (x : V) (u : Value) : Bool := match u with
  | .none => eqV .non x
  | .bool b => eqV (.bl b) x
  | .int i _ => eqV (.int i) x
  | .str z _ => eqV (.str z) x
  | _ => false
theorem eqU_of {x y : V} {u : Value} (r : RelV y u) (f : flatV y = true) : eqU x u = eqV y x := by
  cases y with
  | non => cases r; rfl
  | bl b => cases r; rfl
  | int i => obtain ⟨t, rfl⟩ := r; rfl
  | str z => obtain ⟨t, rfl⟩ := r; rfl
  | _ => exact absurd (show false = true from f) Bool.false_ne_true
theorem any_eqU {x : V} : ∀ {xs : List V} {us : List Value}, Vals xs us → xs.all flatV = true → us.any (eqU x) = xs.any fun y => eqV y x
  | _, _, .nil, _ => rfl
  | y :: xs, u :: us, .cons r t, f => by
    rw [List.all_cons, Bool.and_eq_true] at f
    rw [List.any_cons, List.any_cons, eqU_of r f.1, any_eqU t f.2]
theorem mem_eqAt {A : Around} {s : Shared} {x : V} {v : Value} (rx : RelV x v) (fx : flatV x = true) : ∀ {xs : List V} {us : List Value}, Vals xs us → xs.all flatV = true → ∀ u ∈ us, SeqAt.EqAt A s u v (eqU x u)
  | _, _, .nil, _ => fun u hu => by cases hu
  | y :: xs, u :: us, .cons r t, f => fun u' hu => by
    rw [List.all_cons, Bool.and_eq_true] at f
    rcases List.mem_cons.mp hu with rfl | hu
    · rw [eqU_of r f.1]; exact eqAt_V r rx f.1 fx
    · exact mem_eqAt rx fx t f.2 u' hu
noncomputable def inV (x : V) (xs : List V) : Bool := xs.any fun y => eqV y x
/-- x in a list or tuple of flat items -/
noncomputable def rIn (K : PySem.W.Frag) (neg : Bool) : R2 := fun x y H Q => ∃ p xs, y = .ref p ∧ (SqL K H p xs ∨ SqT K H p xs) ∧ flatV x = true ∧ xs.all flatV = true ∧ Q (.bl (if neg then !inV x xs else inV x xs)) H
theorem op_in_seq : OpR X (compareOp .In) (rIn X.K false) := by
  intro pins s σ H x y v u Q I rx ry h
  obtain ⟨p, xs, rfl, hq, fx, fs, q⟩ := h
  cases ry
  rcases hq with hq | hq
  · obtain ⟨its, r, pl, hz⟩ := I.list hq
    refine SeqAt.in_listAt (eqU x) pl.isList (fun w hw => mem_eqAt rx fx r fs w (by simpa using hw)) ⟨.bl _, H, I, rfl, ?_⟩
    rw [show its.toArray.any (eqU x) = its.any (eqU x) by simp, any_eqU r fs]
    exact q
  · obtain ⟨its, r, pl, hz⟩ := I.tuple hq
    refine SeqAt.in_tupleAt (eqU x) pl (fun w hw => mem_eqAt rx fx r fs w (by simpa using hw)) ⟨.bl _, H, I, rfl, ?_⟩
    rw [show its.toArray.any (eqU x) = its.any (eqU x) by simp, any_eqU r fs]
    exact q
theorem op_notIn_seq : OpR X (compareOp .NotIn) (rIn X.K true) := by
  intro pins s σ H x y v u Q I rx ry h
  obtain ⟨p, xs, rfl, hq, fx, fs, q⟩ := h
  cases ry
  rcases hq with hq | hq
  · obtain ⟨its, r, pl, hz⟩ := I.list hq
    refine SeqAt.notIn_listAt (eqU x) pl.isList (fun w hw => mem_eqAt rx fx r fs w (by simpa using hw)) ⟨.bl _, H, I, rfl, ?_⟩
    rw [show its.toArray.any (eqU x) = its.any (eqU x) by simp, any_eqU r fs]
    exact q
  · obtain ⟨its, r, pl, hz⟩ := I.tuple hq
    refine SeqAt.notIn_tupleAt (eqU x) pl (fun w hw => mem_eqAt rx fx r fs w (by simpa using hw)) ⟨.bl _, H, I, rfl, ?_⟩
    rw [show its.toArray.any (eqU x) = its.any (eqU x) by simp, any_eqU r fs]
    exact q

/-! ### len, list(x), tuple(x) of any list or tuple that is read -/
theorem call_len_seq : CallR X (.builtin "len") (fun xs H Q => ∃ p ys, xs = [.ref p] ∧ (SqL X.K H p ys ∨ SqT X.K H p ys) ∧ Q (.int ys.length) H) := by
  intro pins s σ H xs us Q I r h
  obtain ⟨p, ys, rfl, hq, q⟩ := h
  obtain ⟨u, rfl, rx⟩ := vals1 r
  cases rx
  have hn := line63
  rcases hq with hq | hq
  · obtain ⟨its, r', pl, hz⟩ := I.list hq
    have hlen := r'.length
    exact Calls.call_len_list pl.isList (by simp only [List.size_toArray] <;> omega) ⟨.int ys.length, H, I.tok _, ⟨s.toks + 1, by rw [List.size_toArray, hlen]⟩, q⟩
  · obtain ⟨its, r', pl, hz⟩ := I.tuple hq
    have hlen := r'.length
    exact len_tuple pl (by simp only [List.size_toArray] <;> omega) ⟨.int ys.length, H, I.tok _, ⟨s.toks + 1, by rw [List.size_toArray, hlen]⟩, q⟩
theorem call_len_str : CallR X (.builtin "len") (fun xs H Q => ∃ z, xs = [.str z] ∧ z.length ≤ sizeLine ∧ Q (.int z.length) H) := by
  intro pins s σ H xs us Q I r h
  obtain ⟨z, rfl, hz, q⟩ := h
  obtain ⟨u, rfl, t, rfl⟩ := vals1 r
  have hn := line63
  exact len_str (by omega) ⟨.int z.length, H, I.tok _, ⟨_, rfl⟩, q⟩

/-! ### the call of a builtin's method: o.m(..) -/
/-- the value is of that builtin type -/
noncomputable def tyV (K : PySem.W.Frag) (T : String) (x : V) (H : Hp) : Prop := match x with
  | .str _ => T = "str"
  | .int _ => T = "int"
  | .ref p => (T = "list" ∧ ∃ xs, SqL K H p xs) ∨ (T = "tuple" ∧ ∃ o, K.lookup p = some o ∧ o.cls = .type "tuple" ∧ o.dict = none) ∨
      (T = "dict" ∧ ((∃ kvs, H p = some (.dK kvs)) ∨ ∃ kvs, H p = some (.dT kvs))) ∨ (T = "set" ∧ ∃ S n, H p = some (.set S n))
  | _ => False
theorem tyV_is {pins : List (Addr × Obj)} {σ : St} {H : Hp} {s : Shared} {T : String} {x : V} {v : Value} (I : Inv X pins σ H s) (r : RelV x v) (ty : tyV X.K T x H) :
    s.TypeIs v T ∧ ∀ a, v = .ref a → ∃ ob, s.heap.get? a = some ob ∧ ob.dict = none := by
  cases x with
  | str z =>
    obtain ⟨t, rfl⟩ := r
    cases (show T = "str" from ty)
    exact ⟨typeIs_str s z t, fun _ e => nomatch e⟩
  | int i =>
    obtain ⟨t, rfl⟩ := r
    cases (show T = "int" from ty)
    exact ⟨typeIs_int s i t, fun _ e => nomatch e⟩
  | ref p =>
    cases r
    rcases ty with ⟨rfl, xs, hq⟩ | ⟨rfl, o, hk, hc, hd⟩ | ⟨rfl, hk⟩ | ⟨rfl, S, n, hk⟩
    · obtain ⟨its, _, pl, _⟩ := I.list hq
      refine ⟨pl.isList.typeIs, fun a e => ?_⟩
      cases e
      obtain ⟨o, n, e, c, hd, _⟩ := pl
      exact ⟨o, e, hd⟩
    · refine ⟨⟨o, I.kIn p o hk, hc⟩, fun a e => ?_⟩
      cases e
      exact ⟨o, I.kIn _ o hk, hd⟩
    · have z : ∃ o, s.heap.get? p = some o ∧ o.ExactDict := by
        rcases hk with ⟨kvs, hk⟩ | ⟨kvs, hk⟩
        · obtain ⟨_, _, _, _, o, _, _, e, ex, _⟩ := I.hok p _ hk
          exact ⟨o, e, ex⟩
        · obtain ⟨_, _, _, _, o, _, _, e, ex, _⟩ := I.hok p _ hk
          exact ⟨o, e, ex⟩
      obtain ⟨o, e, ex⟩ := z
      refine ⟨⟨o, e, ex.1⟩, fun a e2 => ?_⟩
      cases e2
      exact ⟨o, e, ex.2.1⟩
    · obtain ⟨o, _, _, _, e, ex, _⟩ := I.hok p _ hk
      refine ⟨⟨o, e, ex.1⟩, fun a e2 => ?_⟩
      cases e2
      exact ⟨o, e, ex.2.1⟩
  | _ => exact False.elim ty
noncomputable def tBM0 (K : PySem.W.Frag) (T : String) (r : V → List V → Hp → VK → Prop) (to : TE) : TE := fun σ H Q => to σ H fun x H1 => tyV K T x H1 ∧ r x [] H1 Q
noncomputable def tBM (K : PySem.W.Frag) (T : String) (r : V → List V → Hp → VK → Prop) (to : TE) (t : TA) : TE := fun σ H Q => to σ H fun x H1 => tyV K T x H1 ∧ t σ H1 fun xs H2 => r x xs H2 Q
variable {o e : Expr} {es : List Expr} {to : TE} {t : TA} {name : Str} {apos cpos : Pos} {T id : String} {r : V → List V → Hp → VK → Prop}
theorem pe_bm0 (pa : PlainAttrs T) (slot : Slot T name id) (hty : typeOf (.builtin id) = pure (.type "method_descriptor")) (hm : MtR X id r) (ho : PE X o to)
    (hbase : attributeBase o name X.env (eval o X.env) = eval o X.env := by rfl) (hline : (apos.endLine == cpos.line) = true := by rfl) : PE X (.Call (.Attribute o name apos) [] [] cpos) (tBM0 X.K T r to) := by
  intro pins s σ H Q I h
  refine wpAny_Call_method0_late hbase hline (thn (ho pins s σ H _ I h) fun v s1 ⟨x, H1, I1, r1, ty, q1⟩ => ?_)
  obtain ⟨h1, h2⟩ := tyV_is I1 r1 ty
  exact ⟨T, id, pa, slot, hty, h1, h2, Calls.callWith_builtin rfl (PySem.evalArgs_none (hm pins s1 σ H1 x [] v [] Q I1 r1 .nil q1))⟩
theorem pe_bm (pa : PlainAttrs T) (slot : Slot T name id) (hty : typeOf (.builtin id) = pure (.type "method_descriptor")) (hm : MtR X id r) (ho : PE X o to) (ha : PA X (e :: es) t)
    (hbase : attributeBase o name X.env (eval o X.env) = eval o X.env := by rfl)
    (hfew : ((backTo cpos (starEach (e :: es) X.env)).all (fun x => !x.1) && (backToKw cpos (keywordEach [] X.env)).all (fun x => x.1.isSome)
      && decide ((e :: es).length + ([] : List Keyword).length + (if ([] : List Keyword).isEmpty then 0 else 1) < 30)) = true := by rfl)
    (hline : (apos.endLine == cpos.line) = true := by rfl) (hs : starEach (e :: es) X.env = (false, eval e X.env) :: starEach es X.env := by rfl) (hplain : (backTo cpos (starEach es X.env)).any (·.1) = false := by rfl) :
    PE X (.Call (.Attribute o name apos) (e :: es) [] cpos) (tBM X.K T r to t) := by
  intro pins s σ H Q I h
  refine wpAny_Call_method_late hbase hfew hline rfl (thn (ho pins s σ H _ I h) fun v s1 ⟨x, H1, I1, r1, ty, q1⟩ => ?_)
  obtain ⟨h1, h2⟩ := tyV_is I1 r1 ty
  refine ⟨T, id, pa, slot, hty, h1, h2, ?_⟩
  have hA := ha cpos pins s1 σ H1 _ I1 q1
  rw [hs] at hA ⊢
  refine Calls.callWith_builtin (by show (false || (backTo cpos (starEach es X.env)).any (·.1)) = false; rw [hplain] <;> rfl) (Calls.evalArgs_plain ?_)
  exact thn hA fun us s2 ⟨vs, H2, I2, r2, q2⟩ => hm pins s2 σ H2 x vs v us Q I2 r1 r2 q2
/- xs.append(e), list.index on a module's tuple .. are MtR facts of 06m -/
end
end L2

namespace L2
open PySem PySem.Spec PyProof.Rows

noncomputable def MtM (X : Cx) (id : String) (r : V → List V → Hp → VK → Prop) : Prop :=
  ∀ (pins : List (Addr × Obj)) (s : Shared) (σ : St) (H : Hp) (x : V) (xs : List V) (v : Value) (us : List Value) (Q : VK), Inv X pins σ H s → RelV x v → Vals xs us → r x xs H Q →
    wpAny (model X.prog X.w) X.A (call (.builtin id) (v :: us)) (EP X pins σ Q) X.xe s

/-! ### lists of values -/
theorem Vals.one : ∀ {x : V} {us : List Value}, Vals [x] us → ∃ u, us = [u] ∧ RelV x u
  | _, _, .cons r .nil => ⟨_, rfl, r⟩
theorem Vals.zero : ∀ {us : List Value}, Vals [] us → us = []
  | _, .nil => rfl
theorem Vals.dropLast {xs : List V} {us : List Value} (h : Vals xs us) : Vals xs.dropLast us.dropLast := by
  induction h with
  | nil => exact .nil
  | cons r t ih =>
    cases t with
    | nil => exact .nil
    | cons q t' => exact .cons r ih
theorem Vals.eraseIdx : ∀ {xs : List V} {us : List Value} (i : Nat), Vals xs us → Vals (xs.eraseIdx i) (us.eraseIdx i)
  | _, _, _, .nil => .nil
  | _, _, 0, .cons _ t => t
  | _, _, i + 1, .cons r t => .cons r (Vals.eraseIdx i t)
theorem erase_last {α : Type} (l : List α) : l.eraseIdx (l.length - 1) = l.dropLast := by
  induction l with
  | nil => rfl
  | cons a r ih =>
    cases r with
    | nil => rfl
    | cons b r =>
      have e : (a :: b :: r).length - 1 = ((b :: r).length - 1) + 1 := by
        have h1 : (a :: b :: r).length = r.length + 2 := rfl
        have h2 : (b :: r).length = r.length + 1 := rfl
        omega
      rw [e, List.eraseIdx_cons_succ, ih]
      all_goals rfl
theorem len_erase {α : Type} : ∀ (l : List α) (i : Nat), (l.eraseIdx i).length ≤ l.length
  | [], _ => Nat.le_refl _
  | _ :: _, 0 => Nat.le_succ _
  | _ :: r, i + 1 => Nat.succ_le_succ (len_erase r i)

section
variable {X : Cx} {pins : List (Addr × Obj)} {σ : St} {H : Hp} {s : Shared} {l b : Addr} {xs ys zs : List V}

/-! ### the two steps: a tracked list is rewritten, a new list is laid -/
theorem Inv.lset {its its' : List Value} {n : Nat} {f : Array Value → Array Value} {t' : Nat} (I : Inv X pins σ H s) (hH : H l = some (.lst xs))
    (e : s.heap.get? l = some { cls := .type "list", data := .seq its.toArray n }) (hf : f its.toArray = its'.toArray) (hv : Vals ys its') (hz : ys.length ≤ sizeLine) :
    Inv X pins σ (upd H l (.lst ys)) { s with heap := s.heap.update l (Obj.mapSeq f), toks := t' } := by
  have q := PySem.IsL.update e f
  rw [hf] at q
  refine I.write (x := l) (e := l) (by rw [hH]; exact trivial) (.inl rfl) (fun b' u hb hu => (Heap.get?_update_other s.heap (Obj.mapSeq f) (Ne.symm hb)).trans hu) ⟨_, q⟩ ?_
  exact ⟨hz, its', _, hv, q⟩
theorem Inv.lnew {its : List Value} {t' : Nat} (I : Inv X pins σ H s) (hv : Vals ys its) (hz : ys.length ≤ sizeLine) :
    Inv X pins σ (upd H s.heap.objs.size (.lst ys)) { s with heap := s.heap.push { cls := .type "list", data := .seq its.toArray }, toks := t' } :=
  I.laid (fun _ _ q => Heap.get?_push_of_some _ q) (Nat.le_refl _) ⟨hz, its, 0, hv, Heap.get?_push_size _ rfl⟩
theorem Inv.fresh (I : Inv X pins σ H s) : H s.heap.objs.size = none := I.hok.fresh (Nat.le_refl _)
theorem Inv.lstM (I : Inv X pins σ H s) (hH : H l = some (.lst xs)) : xs.length ≤ sizeLine ∧ ∃ (its : List Value) (n : Nat), Vals xs its ∧ xs.length = its.length ∧ s.heap.get? l = some { cls := .type "list", data := .seq its.toArray n } := by
  obtain ⟨z, its, n, r, e⟩ := I.hok l _ hH
  exact ⟨z, its, n, r, r.length, e⟩

theorem notLongL {n : Nat} (h : n ≤ sizeLine) : Builtin.List.listTooLong n = false := by
  unfold Builtin.List.listTooLong
  exact decide_eq_false (by omega)
end

section
variable {X : Cx}

/-! ### methods -/
noncomputable def rAppend : V → List V → Hp → VK → Prop := fun x vs H Q => ∃ l xs y, x = .ref l ∧ vs = [y] ∧ H l = some (.lst xs) ∧ xs.length < sizeLine ∧ Q .non (upd H l (.lst (xs ++ [y])))
theorem mt_append : MtM X "list.append" rAppend := by
  intro pins s σ H x vs v us Q I rx rv h
  obtain ⟨l, xs, y, rfl, rfl, hH, hz, q⟩ := h
  cases rx
  obtain ⟨u, rfl, ru⟩ := rv.one
  obtain ⟨z, its, n, r, hl, e⟩ := I.lstM hH
  refine call_meets F.slot_list_append ⟨_, e, rfl⟩ F.entry_list_append (F.args_list_append_2 _ _) (PySem.list_append l its.toArray n u (by rw [List.size_toArray]; omega)) ⟨e, ?_⟩
  refine ⟨.non, _, I.lset (its' := its ++ [u]) hH e (by simp) (r.append (.cons ru .nil)) ?_, rfl, q⟩
  rw [List.length_append, List.length_singleton]
  omega

noncomputable def rExtend : V → List V → Hp → VK → Prop := fun x vs H Q => ∃ l b xs zs, x = .ref l ∧ vs = [.ref b] ∧ H l = some (.lst xs) ∧ H b = some (.lst zs) ∧ xs.length + zs.length ≤ sizeLine ∧ Q .non (upd H l (.lst (xs ++ zs)))
theorem mt_extend : MtM X "list.extend" rExtend := by
  intro pins s σ H x vs v us Q I rx rv h
  obtain ⟨l, b, xs, zs, rfl, rfl, hH, hB, hz, q⟩ := h
  cases rx
  obtain ⟨u, rfl, ru⟩ := rv.one
  cases ru
  obtain ⟨z, its, n, r, hl, e⟩ := I.lstM hH
  obtain ⟨z2, its2, n2, r2, hl2, e2⟩ := I.lstM hB
  have hsz : its.toArray.size + its2.toArray.size ≤ sizeLine := by rw [List.size_toArray, List.size_toArray]; omega
  have hlong : ¬ (!its.toArray.isEmpty && Builtin.List.listTooLong (its.toArray.size + its2.toArray.size)) = true := by
    rw [notLongL hsz, Bool.and_false]
    exact Bool.false_ne_true
  refine call_meets F.slot_list_extend ⟨_, e, rfl⟩ F.entry_list_extend (F.args_list_extend_2 _ _)
    (AutoSeq1.list_extend_list_list_0 l its.toArray n b its2.toArray n2 hlong (by rw [List.size_toArray]; omega) (by omega)) ⟨e, e2, ?_⟩
  refine ⟨.non, _, I.lset (its' := its ++ its2) hH e (by simp) (r.append r2) ?_, rfl, q⟩
  rw [List.length_append]
  omega

noncomputable def rPop : V → List V → Hp → VK → Prop := fun x vs H Q => ∃ l xs y, x = .ref l ∧ vs = [] ∧ H l = some (.lst xs) ∧ xs[xs.length - 1]? = some y ∧ Q y (upd H l (.lst xs.dropLast))
theorem mt_pop : MtM X "list.pop" rPop := by
  intro pins s σ H x vs v us Q I rx rv h
  obtain ⟨l, xs, y, rfl, rfl, hH, hy, q⟩ := h
  cases rx
  have hus := rv.zero
  subst hus
  obtain ⟨z, its, n, r, hl, e⟩ := I.lstM hH
  obtain ⟨u, hu, ru⟩ := r.get hy
  have hy' : its.toArray[its.toArray.size - 1]? = some u := by
    show its.toArray[its.length - 1]? = some u
    rw [← Array.getElem?_toList, ← hl]
    exact hu
  refine call_meets F.slot_list_pop ⟨_, e, rfl⟩ F.entry_list_pop (F.args_list_pop_1 _) (MeetsSeq.list_pop_last l its.toArray n u hy' (by rw [List.size_toArray]; omega)) ⟨e, ?_⟩
  refine ⟨y, _, I.lset (its' := its.dropLast) hH e ?_ r.dropLast ?_, ru, q⟩
  · show its.toArray.eraseIdxIfInBounds (its.toArray.size - 1) = its.dropLast.toArray
    rw [List.size_toArray, List.eraseIdxIfInBounds_toArray, erase_last]
  · rw [List.length_dropLast]
    omega



noncomputable def rClear : V → List V → Hp → VK → Prop := fun x vs H Q => ∃ l xs, x = .ref l ∧ vs = [] ∧ H l = some (.lst xs) ∧ Q .non (upd H l (.lst []))
theorem mt_clear : MtM X "list.clear" rClear := by
  intro pins s σ H x vs v us Q I rx rv h
  obtain ⟨l, xs, rfl, rfl, hH, q⟩ := h
  cases rx
  have hus := rv.zero
  subst hus
  obtain ⟨z, its, n, r, hl, e⟩ := I.lstM hH
  refine call_meets F.slot_list_clear ⟨_, e, rfl⟩ F.entry_list_clear (F.args_list_clear_1 _) (AutoSeq1.list_clear_list_0 l its.toArray n (by rw [List.size_toArray]; omega)) ⟨e, ?_⟩
  exact ⟨.non, _, I.lset (its' := []) (ys := []) hH e rfl .nil (Nat.zero_le _), rfl, q⟩

/-! ### list + list, list += list, list * int -/
noncomputable def rCat : R2 := fun x y H Q => ∃ l b xs zs, x = .ref l ∧ y = .ref b ∧ H l = some (.lst xs) ∧ H b = some (.lst zs) ∧ xs.length + zs.length ≤ sizeLine ∧ ∀ p, H p = none → Q (.ref p) (upd H p (.lst (xs ++ zs)))
theorem op_cat : OpR X (binaryOp .Add) rCat := by
  intro pins s σ H x y v u Q I rx ry h
  obtain ⟨l, b, xs, zs, rfl, rfl, hH, hB, hz, q⟩ := h
  cases rx
  cases ry
  obtain ⟨z, its, n, r, hl, e⟩ := I.lstM hH
  obtain ⟨z2, its2, n2, r2, hl2, e2⟩ := I.lstM hB
  refine PySem.P.add_list e e2 ?_ (by rw [List.size_toArray, List.size_toArray]; omega)
  have ea : its.toArray ++ its2.toArray = (its ++ its2).toArray := by simp
  rw [ea]
  exact ⟨.ref _, _, I.lnew (t' := s.toks) (r.append r2) (by rw [List.length_append]; omega), rfl, q _ I.fresh⟩

/-! ### del xs[i] -/
end

/-! ### xs[a:b] = ys -/
section
variable {prog : Program} {w : World} {A : Around} {E : Value → Shared → Prop} {s : Shared}
end

section
variable {X : Cx}
end
end L2

namespace Att
open PySem PySem.W PySem.Calls PyProof.Rows

/-! ### the script -/
theorem ints_of_wellAll {P : Params} {h : Heap} : ∀ (ns : List Int) (vs : List Value), WellAll P h vs (ns.map WData.int) → IntsAre vs ns := by
  intro ns
  induction ns with
  | nil =>
    intro vs w
    rw [List.map_nil] at w
    cases w
    exact .nil
  | cons n ns ih =>
    intro vs w
    rw [List.map_cons] at w
    cases w with
    | cons a b =>
      cases a
      exact .cons _ _ (ih _ b)

theorem script_of {l : OpenLaw} {n : Nat} (hn : l.most = some n) {P : Params} {h : Heap} {args : List WData} {vals : List Value}
    (hpre : l.row.toRowW.claim.pre args = true) (hwl : WellAll P h vals args) :
    ∃ a vs ns, vals = [Value.ref a] ∧ args = [WData.list (ns.map WData.int)] ∧ h.get? a = some { cls := .type "list", data := .seq vs.toArray } ∧ IntsAre vs ns ∧ ns.length ≤ n := by
  have hsh : WShape.hasAll [] args [.list .int] = true := (pre_splitW hpre).1
  have hc : l.pre.holds [] { args := args } = true := (pre_splitW hpre).2
  obtain ⟨d, r, rfl, h1, h2⟩ := hasAllW_cons hsh
  obtain rfl := hasAllW_nil h2
  obtain ⟨xs, rfl, h3⟩ := hasW_list h1
  obtain ⟨ns, rfl⟩ := items_int h3
  have hlen : ns.length ≤ n := by
    unfold OpenLaw.pre at hc
    have h4 : (WTm.not (.lt (.lit (.int (n : Int))) (.len (.arg 0)))).holds [] { args := [.list (ns.map .int)] } = true := by
      have h4 := (holds_andW hc).1
      rw [hn] at h4
      exact h4
    have h5 := condW_of h4 (w_not (w_lt w_lit (w_len_list (w_arg rfl))))
    rw [List.length_map] at h5
    refine Nat.le_of_not_lt fun q => ?_
    have q' : (n : Int) < ((ns.length : Nat) : Int) := by omega
    first
      | (rw [decide_eq_true q'] at h5; exact absurd h5 (by decide))
      | (simp at h5; omega)
  cases hwl with
  | cons w1 w2 =>
    cases w2
    cases w1 with
    | list ho hall => exact ⟨_, _, ns, rfl, rfl, ho, ints_of_wellAll ns _ hall, hlen⟩

theorem post_true (l : OpenLaw) (args : List WData) : l.row.toRowW.claim.post args (.bool true) args = true :=
  postW_of (r := l.row.toRowW) (X := (true == true))
    (show WShape.has [] (.bool true) .bool = true by first | rfl | decide | simp [WShape.has, WShape.arms, WShape.armsAll])
    (show (WTm.eq .res (.lit (.bool true))).value [] { args := args, res := some (.bool true), after := args } = some (.bool (true == true)) from w_eq_bool (w_res rfl) w_lit) rfl

/-! ### the attachment: holds_open's last premise (the goal 'hc' behind k_head) from a wpAny of the law's body -/

/-- the same from a codeAny of the CALL (for a layer whose function contracts speak of calls) -/
theorem attach_call {l : OpenLaw} {n : Nat} {q : Program} {loose : List Str} {XP : (Str → Option Value) → Heap → Prop} {YP : World → Heap → Prop} {d : DefRec}
    (hn : l.most = some n) (hdf : d.params.defaults = [])
    (call : ∀ (w : World) (s₀ s₁ : Shared) (mg mb : Str → Option Value) (fa : Addr) (o : Obj) (pm cd doc : Value) (a : Addr) (vs : List Value) (ns : List Int),
      Ground q loose [] XP w s₀ mg mb s₁.heap → YP w s₁.heap →
      s₁.heap.get? fa = some o → o.data = .func (docDef d.name d.params d.body d.scope pm cd doc) → s₁.heap.CodeRec cd d.name → mg d.name = some (.ref fa) →
      s₁.heap.get? a = some { cls := .type "list", data := .seq vs.toArray } → IntsAre vs ns → ns.length ≤ n → s₁.gens = #[] →
      codeAny (model l.prog w) callerA (.call (.ref fa) ⟨[.ref a], []⟩) (fun r s' => r = .ok (.ret (.bool true)) ∧ OldK s₁.heap s'.heap ∧ s'.os = s₁.os ∧ AllBare s'.gens) s₁) :
    WalkO q loose XP YP l.row.toRowW d [] (fun f vs => PySem.call f vs) := by
  intro w s₀ s₁ mg mb G Y fa o pm cd doc dV kV ho hd hcd hD hmg hg args vals as hpre hlay hrd hwl hlo
  obtain rfl : dV = .none := Dflts.none hD hdf
  obtain rfl : kV = .none := Dflts.noKw hD
  obtain ⟨a, vs, ns, rfl, rfl, hobj, hints, hlen⟩ := script_of hn hpre hwl
  refine enter_call (codeAny_mono (call w s₀ s₁ mg mb fa o pm cd doc a vs ns G Y ho (fd_plain hd) hcd hmg hobj hints hlen hg) fun r s' hq => ?_)
  obtain ⟨rfl, h2, h3, h4⟩ := hq
  exact ⟨.inl ⟨.bool true, .bool true, [], rfl, fun _ => rfl, .bool true, post_true l _, fun _ => ⟨List.Pairwise.nil, fun _ hm => (nomatch hm)⟩⟩, h2, h3, h4⟩


/-! ### rules over ANY heap (no ledger) from facts about the written part K: the library's own take a ledger (News) for what they write -/
section
variable {prog : Program} {w : World} {A : Around} {E : Value → Shared → Prop} {s : Shared} {K : Frag}





/-! the whole heap as the ledger: makes every rule that writes through a ledger a rule over any heap -/

end
end Att

namespace L2
open PySem PySem.Spec PyProof.Rows

theorem vals_ints : ∀ {vs : List Value} {ns : List Int}, IntsAre vs ns → Vals (ns.map V.int) vs
  | _, _, .nil => .nil
  | _, _, .cons n t h => .cons ⟨t, rfl⟩ (vals_ints h)

/-- nothing is tracked but the script, known to the object (or it is an object of the module) -/
noncomputable def Only (H : Hp) : Prop := ∀ b, H b = none ∨ ∃ o xs, H b = some (.frz o (.lst xs))

/-- THE HEAD: the law's promise, at the heap behind the top. F, the promise of the law's def, may use that base is part of the heap (so K.In base, base.Ns mainGlobals mg stand in Mod) -/
theorem law_call {P : Program} {w : World} {K : PySem.W.Frag} {mg mb : Str → Option Value} {CX : CXT} {k : Nat} {fa a : Addr} {fd : FuncData} {x : Str} {sp : Sp} {s₁ : Shared} {vs : List Value} {ns : List Int}
    (KX : K.In s₁.heap) (hns : s₁.heap.Ns mainGlobals mg) (hb : s₁.heap.Ns builtinsNs mb) (hbb : ∀ x : Str, x ≠ "__name__" → mb x = bootBuiltins x) (hlim : s₁.heap.NoLimit) (hg : s₁.gens = #[])
    (ha : s₁.heap.get? a = some { cls := .type "list", data := .seq vs.toArray }) (hi : IntsAre vs ns) (hl : ns.length ≤ sizeLine) (hr : Room k callerA)
    (F : ∀ base : Heap, K.In base → base.Ns mainGlobals mg → FnOk P w K mg base CX k fa fd [x] sp) (hbind : ∀ (s : Shared) (u : Value), BindsTo s fd ⟨[u], []⟩ [(x, u)])
    (hsp : ∀ H : Hp, Only H → SqL K H a (ns.map V.int) → sp [.ref a] H (fun v _ => v = .bl true) fun _ _ _ => False)
    (hCX : ∀ H e s', CX [] H s₁ (fun _ _ _ => False) e s' → False) :
    codeAny (model P w) callerA (.call (.ref fa) ⟨[.ref a], []⟩) (fun r s' => r = .ok (.ret (.bool true)) ∧ OldK s₁.heap s'.heap ∧ s'.os = s₁.os ∧ AllBare s'.gens) s₁ := by
  have rv := vals_ints hi
  have lenV := hi.length
  -- from an abstract heap in which nothing but the script may be tracked
  have core : ∀ H : Hp, Only H → SqL K H a (ns.map V.int) → HOk P w H s₁.heap → (∀ b, H b ≠ none → b = a) → (H a ≠ none → K.lookup a = none) →
      codeAny (model P w) callerA (.call (.ref fa) ⟨[.ref a], []⟩) (fun r s' => r = .ok (.ret (.bool true)) ∧ OldK s₁.heap s'.heap ∧ s'.os = s₁.os ∧ AllBare s'.gens) s₁ := by
    intro H hO hS hok hA hK
    have base_of : ∀ {b : Addr} {o : Obj}, s₁.heap.get? b = some o → H b = none → (hidT s₁.heap H).get? b = some o := fun e n => hidT_get e n
    have noA : ∀ {b : Addr} {o : Obj} {es : Array DictEntry} {ep : Nat}, s₁.heap.get? b = some o → o.data = .dict es ep → H b = none := fun {b o es ep} e d => by
      cases q : H b with
      | none => rfl
      | some u =>
        have e' : b = a := hA b (by rw [q]; simp)
        subst e'
        rw [ha] at e; cases e
        have d' : Data.seq vs.toArray _ = Data.dict es ep := d
        cases d'
    have nsK : ∀ {b : Addr} {m : Str → Option Value}, s₁.heap.Ns b m → (hidT s₁.heap H).Ns b m := fun {b m} ⟨o, es, ep, e, d, r⟩ => ⟨o, es, ep, base_of e (noA e d), d, r⟩
    have hKb : K.In (hidT s₁.heap H) := fun b o e => base_of (KX b o e) (by
      cases q : H b with
      | none => rfl
      | some u =>
        have e' : b = a := hA b (by rw [q]; simp)
        subst e'
        rw [hK (by rw [q]; simp)] at e; cases e)
    have hM : Mod K mg (hidT s₁.heap H) := ⟨hKb, nsK hns, ⟨mb, nsK hb, hbb⟩, let ⟨mc, h1, h2⟩ := hlim; ⟨mc, nsK h1, h2⟩⟩
    have e0 : Env0 P w K mg (hidT s₁.heap H) callerA [] s₁ H := ⟨rfl, hM, fun b o e => of_hidT e, Nat.le_of_eq (hidT_size _ _), trivial, fun b hb => absurd (show b ∈ ([] : List Addr) from hb) (by simp), hok, .of_eq hg⟩
    refine codeAny_mono ((F _ hKb (nsK hns)).run callerA [] s₁ H ⟨[.ref a], []⟩ [.ref a] [.ref a] _ _ hr e0 (hbind s₁ (.ref a)) (.cons rfl .nil) (hsp H hO hS)) fun r s' h => ?_
    cases r with
    | error e => exact (hCX H e s' h).elim
    | ok fl =>
      cases fl with
      | next => exact False.elim h
      | brk => exact False.elim h
      | cont => exact False.elim h
      | ret u =>
        obtain ⟨v, H', os, bare, un, hok', r', q⟩ := h
        have q' : v = .bl true := q
        subst q'
        obtain rfl : u = Value.bool true := r'
        refine ⟨rfl, OldK.of_keep fun b o e => ?_, os, bare⟩
        cases q : H b with
        | none => exact un.keep b o e q (by intro z; exact absurd (show b ∈ ([] : List Addr) from z) (by simp)) (by simp)
        | some u =>
          rcases hO b with z | ⟨ob, xs, z⟩
          · rw [q] at z; cases z
          · have z2 := un.frzs b ob _ z
            obtain ⟨e1, _⟩ := hok b _ z
            obtain ⟨e2, _⟩ := hok' b _ z2
            rw [e] at e1; cases e1
            exact e2
  cases hk : K.lookup a with
  | some o =>
    -- the script is one of the module's own objects
    have e := KX a o hk
    rw [ha] at e
    cases e
    refine core (fun _ => none) (fun _ => .inl rfl) (.inr ⟨_, vs.toArray, _, hk, rfl, rfl, rfl, by rw [List.size_toArray, lenV]; exact hl, by simpa using rv⟩) (fun b u z => by have z' : (none : Option HO) = some u := z; cases z') (fun b z => absurd rfl z) fun z => absurd rfl z
  | none =>
    refine core (fun b => if b = a then some (.frz { cls := .type "list", data := .seq vs.toArray } (.lst (ns.map V.int))) else none) (fun b => ?_) (.inl (.inr ⟨{ cls := .type "list", data := .seq vs.toArray }, if_pos rfl⟩)) (fun b u z => ?_) (fun b z => ?_) fun _ => hk
    · by_cases hb : b = a
      · exact .inr ⟨_, _, if_pos hb⟩
      · exact .inl (if_neg hb)
    · by_cases hb : b = a
      · have z' := (if_pos hb).symm.trans z
        cases z'
        subst hb
        exact ⟨ha, by rw [List.length_map]; exact hl, vs, _, rv, ha⟩
      · have z' := (if_neg hb).symm.trans z
        cases z'
    · by_cases hb : b = a
      · exact hb
      · exact absurd (if_neg hb) z
end L2

namespace L2
open PySem PySem.Spec PyProof.Rows

noncomputable abbrev KOf {K : PySem.W.Frag} {h : Heap} (_ : K.In h) : PySem.W.Frag := K

/-- the goal that k_head leaves (case hc), from the law's promise. F gives the function object fd (K's own) once, then the promise over every base -/
theorem walk_of {l : PySem.W.OpenLaw} {n k : Nat} {q : Program} {loose : List Str} {XP : (Str → Option Value) → Heap → Prop} {YP : World → Heap → Prop} {d : DefRec} {K : Params → PySem.W.Frag} {CX : World → CXT} {sp : World → Sp} {x : Str}
    (hn : l.most = some n) (hn2 : n ≤ sizeLine) (hdf : d.params.defaults = []) (hr : Room k callerA)
    (hY : ∀ (w : World) (h : Heap), YP w h → (K w.params).In h)
    (F : ∀ (w : World) (mg : Str → Option Value) (fa : Addr) (h : Heap), (K w.params).In h → h.Ns mainGlobals mg → mg d.name = some (.ref fa) →
      ∃ fd : FuncData, (∀ (s : Shared) (u : Value), BindsTo s fd ⟨[u], []⟩ [(x, u)]) ∧
        ∀ base : Heap, (K w.params).In base → base.Ns mainGlobals mg → FnOk l.prog w (K w.params) mg base (CX w) k fa fd [x] (sp w))
    (hsp : ∀ (w : World) (H : Hp) (a : Addr) (ns : List Int), ns.length ≤ n → Only H → SqL (K w.params) H a (ns.map V.int) → sp w [.ref a] H (fun v _ => v = .bl true) fun _ _ _ => False)
    (hCX : ∀ (w : World) (H : Hp) (s : Shared) (e : Value) (s' : Shared), CX w [] H s (fun _ _ _ => False) e s' → False) :
    PySem.W.WalkO q loose XP YP l.row.toRowW d [] (fun f vs => PySem.call f vs) := by
  refine Att.attach_call hn hdf fun w s₀ s₁ mg mb fa o pm cd doc a vs ns G Y ho hd hcd hmg hobj hints hlen hg => ?_
  have KX := hY w _ Y
  obtain ⟨fd, hb, hF⟩ := F w mg fa _ KX G.T.g hmg
  exact law_call KX G.T.g G.T.b G.T.builtins G.T.nolimit hg hobj hints (Nat.le_trans hlen hn2) hr hF hb (fun H hO hS => hsp w H a ns hlen hO hS) fun H e s' => hCX w H s₁ e s'
end L2

/- THE LAST THEOREM (shape; LID, My.* are yours):
   My.Adr: a structure of the addresses that your layer names (classes, functions); My.Txt K t: a structure (Prop) of the equations over K;
   My.txt_mk : {K} {implicit addresses ..} (e1 : nsIn K mainGlobals "law" = some (some (.ref f))) (e2 : K.lookup f = some ⟨oc, od, .func (fnOf "law" "law" params body scope dV kV doc pm an cdv ct), sl⟩) (e3 : codeIn K cdv "law" = true) .. : ∃ t, My.Txt K t

set_option maxRecDepth 100000 in
set_option maxHeartbeats 0 in
theorem PySem.Challenge.cw_LID_holds : PySem.Challenge.rw_LID.Holds := by
  w_on; o_law; k_head; (case hw => w_witness2)
  k_fill
  refine L2.walk_of (l := PySem.Challenge.rw_LID) (n := 63) (k := 40) (x := "script") (CX := fun w => ..) (sp := fun _ => My.sp_law) rfl (by decide) rfl ⟨rfl, by decide, by decide⟩ (fun w h Y => PySem.W.kIn_of Y) ?F ?S ?C
  case F =>
    intro w mg fa h KX G hmg
    have T : ∃ t, My.Txt (L2.KOf KX) t := by
      dsimp only [L2.KOf]                          -- K must stand as «<heap const> w.params» for k_is
      refine' My.txt_mk ?e1 ?e2 ?e3 ..
      (case e1 => PySem.W.k_is)                    -- in the order: a name -> its address -> its object -> its parts
      (case e2 => PySem.W.k_is)
      ..
    obtain ⟨t, T⟩ := T
    have e0 := hmg.symm.trans (PySem.W.mg_of KX G T.law)
    cases e0                                       -- fa is the law's own address
    exact ⟨_, fun s u => .of_eq rfl, fun base kb nb => My.law_fn T kb nb⟩     -- if «.of_eq rfl» comes too early: refine' ⟨_, ?b, fun base kb nb => My.law_fn T kb nb⟩; exact fun s u => .of_eq rfl
  case S => exact fun w H a ns hl hO hS => ..
  case C => exact ..
(the tactic k_is has no namespace: write k_is) -/

/-! SHORT WORDS over the layer: a def of the text, its body, what a loop and a test want. -/
namespace L2
open PySem PySem.Spec PyProof.Rows

/-! ### the text by places -/
/-- the j-th statement of a class's body -/
noncomputable def inClass (s : Stmt) (j : Nat) : Stmt := match s with
  | .ClassDef _ _ _ body _ _ _ _ _ _ _ => body.getD j (.Pass ⟨0, 0, 0, 0⟩)
  | _ => .Pass ⟨0, 0, 0, 0⟩
noncomputable def defArgs (s : Stmt) : Arguments := match s with
  | .FunctionDef _ a _ _ _ _ _ _ _ _ => a
  | _ => { posonlyargs := [], args := [], vararg := none, kwonlyargs := [], kw_defaults := [], kwarg := none, defaults := [] }
noncomputable def defBody (s : Stmt) : List Stmt := match s with
  | .FunctionDef _ _ b _ _ _ _ _ _ _ => b
  | _ => []
noncomputable def defScope (s : Stmt) : Scope := match s with
  | .FunctionDef _ _ _ _ _ _ sc _ _ _ => sc
  | _ => { kind := .function, names := [], isGenerator := false, isCoroutine := false }

/-! ### no exception leaves a def -/
noncomputable abbrev CX0 : CXT := fun _ _ _ _ _ _ => False
noncomputable abbrev E0 : XK := fun _ _ _ => False
theorem pass0 {X : Cx} : Passes CX0 X E0 := fun _ _ _ _ _ _ _ h => h.elim

/-! ### a def (or method) of the text as it stands behind the top -/
structure Fun (K : PySem.W.Frag) (x qual : Str) (st : Stmt) (f : Addr) (fd : FuncData) : Prop where
  ex : ∃ (oc : Value) (od : Option Addr) (kV doc pm : Value) (an : Option Addr) (cdv ct : Value) (osl : Array (Option Value)),
    fd = PySem.W.fnOf x qual (defArgs st) (defBody st) (defScope st) .none kV doc pm an cdv ct ∧ K.lookup f = some ⟨oc, od, .func fd, osl⟩ ∧ PySem.W.codeIn K cdv qual = true
  kp : PySem.W.keepIn K (.ref f) = true
section
variable {P : Program} {w : World} {K : PySem.W.Frag} {mg : Str → Option Value} {base : Heap}
/-- THE RULE for a def: its body as a term of rules, and the reading of that term -/
theorem Fun.ok {x qual : Str} {st : Stmt} {f : Addr} {fd : FuncData} {N ps : List Str} {k : Nat} {sp : Sp} (F : Fun K x qual st f fd) (S : FnScope N ps (defScope st)) (len : ∀ vs H Q E, sp vs H Q E → vs.length = ps.length)
    (hbody : ∀ (cdv : Value) (A : Around) (outer : List Env) (s : Shared) (H : Hp) (vs : List V) (Q : VK) (E : XK), Room k (A.deeper (envOfC qual (defScope st) s.heap.objs.size f cdv)) → sp vs H Q E →
      ∃ t, PSs (cxOf CX0 P w K mg base N qual (defScope st) f cdv A outer s H E).nox (defBody st) t ∧ t { nx := fun _ H' => Q .non H', rt := Q } (start N vs) H) : FnOk P w K mg base CX0 (k + 1) f fd ps sp := by
  obtain ⟨oc, od, kV, doc, pm, an, cdv, ct, osl, rfl, lk, hcd⟩ := F.ex
  refine fn_of lk hcd S len fun A outer s H vs Q E hr hsp => ?_
  obtain ⟨t, h, q⟩ := hbody cdv A outer s H vs Q E hr hsp
  exact ⟨t, h.nox, q⟩
theorem fun_mk {x qual : Str} {st : Stmt} {f : Addr} {oc : Value} {od an : Option Addr} {osl : Array (Option Value)} {kV doc pm cdv ct : Value} (l : K.lookup f = some ⟨oc, od, .func (PySem.W.fnOf x qual (defArgs st) (defBody st) (defScope st) .none kV doc pm an cdv ct), osl⟩)
    (c : PySem.W.codeIn K cdv qual = true) (k : PySem.W.keepIn K (.ref f) = true) : Fun K x qual st f (PySem.W.fnOf x qual (defArgs st) (defBody st) (defScope st) .none kV doc pm an cdv ct) := ⟨⟨oc, od, kV, doc, pm, an, cdv, ct, osl, rfl, l, c⟩, k⟩
end
theorem hu_of {A : Around} {k : Nat} (hr : Room k A) : A.units + 1 < cLine := Nat.lt_of_le_of_lt (Nat.add_le_add_left (by decide : 1 ≤ 64) _) hr.units
theorem small1000 {n : Nat} (h : n ≤ 1000) : n < sizeLine := Nat.lt_of_le_of_lt h (by decide)

/-! ### expressions in short: the name that stands in the i-th slot -/
section
variable {X : Cx}
theorem pv (i : Nat) {x : Str} {pos : Pos} (hN : X.N[i]? = some x := by rfl) (hv : Vis X.env.scope x := by first | exact Or.inl rfl | exact Or.inr (Or.inl rfl) | exact Or.inr (Or.inr rfl)) (hd : (x == ("__debug__" : Str)) = false := by decide)
    (hcd : (x == ("__classdict__" : Str)) = false := by decide) : PE X (.Name x pos) (tVar i) := pe_var hN hv hd hcd
end

/-! ### tests -/
theorem iteF {A B : Prop} (h : B) : if false = true then A else B := by
  rw [if_neg Bool.false_ne_true]
  exact h
theorem iteT {A B : Prop} (h : A) : if true = true then A else B := by
  rw [if_pos rfl]
  exact h
theorem ite2 {c A B : Prop} [Decidable c] (h1 : c → A) (h2 : ¬ c → B) : if c then A else B := by
  by_cases h : c
  · rw [if_pos h]
    exact h1 h
  · rw [if_neg h]
    exact h2 h
theorem iteNS {c A B : Prop} [Decidable c] (hc : c) (h : B) : if (!decide c) = true then A else B := by
  rw [decide_eq_true hc]
  exact iteF h

/-! ### heaps -/
/-- all that was tracked is as it was -/
noncomputable def Same (H H' : Hp) : Prop := ∀ b o, H b = some o → H' b = some o
theorem Same.refl (H : Hp) : Same H H := fun _ _ h => h
theorem Same.trans {H H1 H2 : Hp} (a : Same H H1) (b : Same H1 H2) : Same H H2 := fun c o h => b c o (a c o h)
theorem Same.free {H H' : Hp} (e : Same H H') {l : Addr} (h : H' l = Option.none) : H l = Option.none := by
  cases q : H l with
  | none => rfl
  | some o =>
    rw [e l o q] at h
    cases h
theorem Same.seq {K : PySem.W.Frag} {H H' : Hp} {a : Addr} {xs : List V} (e : Same H H') (h : SqL K H a xs) : SqL K H' a xs := by
  rcases h with (h | ⟨o, h⟩) | h
  · exact .inl (.inl (e _ _ h))
  · exact .inl (.inr ⟨o, e _ _ h⟩)
  · exact .inr h

end L2

/-! ### a list comprehension of one clause -/
namespace L2
open PySem PySem.Spec PyProof.Rows

section
variable {prog : Program} {w : World} {A : Around} {R : Result → Shared → Prop} {s : Shared}
theorem compLoop_own {elt target iter : Expr} {ifs : List Expr} {scope : Scope} {pos : Pos} {it acc : Value} {env : Env} (I : Nat → Shared → Prop)
    (turn : ∀ n s, I n s → wpAny (model prog w) A (pyNext it) (fun r s₁ => match r with
      | none => R (.ok .next) s₁
      | some v => wpAny (model prog w) A (letOwnedTupleGo target it v) (fun _ s₀ => wpAny (model prog w) A (assign target env v) (fun _ s₂ =>
          wpAny (model prog w) A (forIn ifs true fun c r => if r = true then do let ok ← isTrue c env (eval c env); pure (ForInStep.yield ok) else pure (ForInStep.yield r)) (fun ok s₃ =>
            if ok = true then wpAny (model prog w) A (eval elt env) (fun x s₄ =>
              wpAny (model prog w) A (call (.builtin "list.append") [acc, x]) (fun _ s₅ => ∃ m, m < n ∧ I m s₅) (fun _ _ => False) s₄) (fun _ _ => False) s₃
            else ∃ m, m < n ∧ I m s₃) (fun _ _ => False) s₂) (fun _ _ => False) s₀) (fun _ _ => False) s₁) (fun _ _ => False) s)
    (n : Nat) (h : I n s) :
    codeAny (model prog w) A (.compLoop (.ListComp elt [⟨target, iter, ifs, 0⟩] scope pos) 0 it acc env) R s := by
  refine codeAny_loop rfl I (fun n s hI => ?_) n h
  show wpAny _ A ((compTurn (.ListComp elt [⟨target, iter, ifs, 0⟩] scope pos) 0 it acc env).onRaise (fun x => do noteFrame x env; theTreesLotGoes x)) _ _ s
  refine wpAny_noted ?_
  rw [compTurn_list]
  refine wpAny_bind (wpAny_standAt (wpAny_bind (wpAny_mono (turn n s hI) (fun r s₁ h₁ => ?_) fun _ _ h' => h'.elim)))
  cases r with
  | none => exact wpAny_pure h₁
  | some v =>
    refine wpAny_bind (wpAny_mono h₁ (fun _ s₀ h₀ => ?_) fun _ _ h' => h'.elim)
    refine wpAny_bind (wpAny_mono h₀ (fun _ s₂ h₂ => wpAny_bind (wpAny_mono h₂ (fun ok s₃ h₃ => ?_) fun _ _ h' => h'.elim)) fun _ _ h' => h'.elim)
    cases ok with
    | false => exact wpAny_pure ⟨rfl, h₃⟩
    | true =>
      exact wpAny_bind (wpAny_bind (wpAny_mono h₃ (fun x s₄ h₄ => wpAny_bind (wpAny_mono h₄ (fun _ s₅ h₅ => wpAny_pure (wpAny_pure ⟨rfl, h₅⟩)) fun _ _ h' => h'.elim)) fun _ _ h' => h'.elim))
end

/-! the closure of a block -/
noncomputable def closList (env : Env) : List (Str × NameKind) → List (Str × Addr) → List (Str × Addr)
  | [], acc => acc
  | (x, k) :: r, acc => if k == .free then closList env r ((x, (env.cells.lookup x).getD 0) :: acc) else closList env r acc
theorem closureFor_list {scope : Scope} {env : Env} (h : ∀ x ∈ scope.names, x.2 = .free → ∃ c, env.cells.lookup x.1 = some c) : closureFor scope env = pure (closList env scope.names []) := by
  have all : ∀ (names : List (Str × NameKind)) (acc : List (Str × Addr)), (∀ x ∈ names, x.2 = .free → ∃ c, env.cells.lookup x.1 = some c) →
      (forIn names acc fun (x : Str × NameKind) (r : List (Str × Addr)) => (if (x.2 == NameKind.free) = true then do let a ← cellOf env x.1; pure (ForInStep.yield ((x.1, a) :: r)) else pure (ForInStep.yield r) : Sem (ForInStep (List (Str × Addr))))) = pure (closList env names acc) := by
    intro names
    induction names with
    | nil => intro acc _; rfl
    | cons x r ih =>
      intro acc hx
      obtain ⟨n, k⟩ := x
      have hr := fun y hy => hx y (List.mem_cons_of_mem _ hy)
      rw [List.forIn_cons]
      unfold closList
      by_cases hk : (k == NameKind.free) = true
      · obtain ⟨c, hc⟩ := hx (n, k) List.mem_cons_self (by simpa using hk)
        have hc' : env.cells.lookup n = some c := hc
        have e1 : cellOf env n = pure c := by unfold cellOf; rw [hc']
        simp only [hk, if_true, e1, pure_bind, hc', Option.getD_some]
        exact ih _ hr
      · simp only [hk, Bool.false_eq_true, if_false, pure_bind]
        exact ih _ hr
  have := all scope.names [] h
  simp only [closureFor]
  first
    | exact this
    | (refine Eq.trans ?_ (this); rfl)
    | (rw [show (forIn scope.names ([] : List (Str × Addr)) _ : Sem _) = _ from this]; rfl)

theorem closList_mem {env : Env} : ∀ (names : List (Str × NameKind)) (acc : List (Str × Addr)) (x : Str) (c : Addr), (x, c) ∈ closList env names acc → ((x, NameKind.free) ∈ names ∧ c = (env.cells.lookup x).getD 0) ∨ (x, c) ∈ acc
  | [], _, _, _, h => .inr h
  | (y, k) :: r, acc, x, c, h => by
    unfold closList at h
    split at h
    · rename_i hk
      have hk : k = .free := by simpa using hk
      rcases closList_mem r _ x c h with ⟨h1, h2⟩ | h1
      · exact .inl ⟨List.mem_cons_of_mem _ h1, h2⟩
      · rcases List.mem_cons.mp h1 with e | h1
        · cases e; subst hk; exact .inl ⟨List.mem_cons_self, rfl⟩
        · exact .inr h1
    · rcases closList_mem r _ x c h with ⟨h1, h2⟩ | h1
      · exact .inl ⟨List.mem_cons_of_mem _ h1, h2⟩
      · exact .inr h1
theorem closList_acc {env : Env} : ∀ (names : List (Str × NameKind)) (acc : List (Str × Addr)) (p : Str × Addr), p ∈ acc → p ∈ closList env names acc
  | [], _, _, h => h
  | (y, k) :: r, acc, p, h => by
    unfold closList
    split
    · exact closList_acc r _ p (List.mem_cons_of_mem _ h)
    · exact closList_acc r _ p h
theorem closList_has {env : Env} : ∀ (names : List (Str × NameKind)) (acc : List (Str × Addr)) (x : Str), (x, NameKind.free) ∈ names → (x, (env.cells.lookup x).getD 0) ∈ closList env names acc
  | [], _, _, h => nomatch h
  | (y, k) :: r, acc, x, h => by
    unfold closList
    rcases List.mem_cons.mp h with e | h
    · cases e
      rw [if_pos (by rfl)]
      exact closList_acc r _ _ List.mem_cons_self
    · split
      · exact closList_has r _ x h
      · exact closList_has r _ x h
theorem mem_lookup {α : Type} : ∀ {l : List (Str × α)} {x : Str} {c : α}, (x, c) ∈ l → ∃ d, l.lookup x = some d
  | (k, v) :: r, x, c, h => by
    rw [List.lookup_cons]
    cases hb : x == k with
    | true => exact ⟨v, rfl⟩
    | false =>
      rcases List.mem_cons.mp h with e | h
      · cases e; simp at hb
      · exact mem_lookup h
theorem closList_lookup {env : Env} {names : List (Str × NameKind)} {x : Str} {c : Addr} (h : (closList env names []).lookup x = some c) (hh : ∀ y ∈ names, y.2 = .free → ∃ c, env.cells.lookup y.1 = some c) :
    (x, NameKind.free) ∈ names ∧ env.cells.lookup x = some c := by
  rcases closList_mem names [] x c (mem_of_lookup h) with ⟨h1, h2⟩ | h1
  · obtain ⟨d, hd⟩ := hh _ h1 rfl
    have hd' : env.cells.lookup x = some d := hd
    rw [hd'] at h2
    exact ⟨h1, by rw [h2]; exact hd'⟩
  · exact nomatch h1
theorem closList_look {env : Env} {names : List (Str × NameKind)} {x : Str} (hx : (x, NameKind.free) ∈ names) (hh : ∀ y ∈ names, y.2 = .free → ∃ c, env.cells.lookup y.1 = some c) :
    ∃ c, (closList env names []).lookup x = some c ∧ env.cells.lookup x = some c := by
  obtain ⟨d, hd⟩ := mem_lookup (closList_has names [] x hx)
  exact ⟨d, hd, (closList_lookup hd hh).2⟩

/-! the cells of a block's own -/
theorem cf_not : ∀ (names : List (Str × NameKind)) (n : Nat) (acc : List (Str × Addr)) (x : Str), (x, NameKind.cell) ∉ names → (cellsFrom n names acc).lookup x = acc.lookup x
  | [], _, _, _, _ => rfl
  | (y, k) :: r, n, acc, x, h => by
    unfold cellsFrom
    have hr : (x, NameKind.cell) ∉ r := fun z => h (List.mem_cons_of_mem _ z)
    split
    · rename_i hk
      have hk : k = .cell := by simpa using hk
      rw [cf_not r _ _ x hr, List.lookup_cons]
      cases hb : x == y with
      | true =>
        have e : x = y := by simpa using hb
        exact absurd List.mem_cons_self (by subst e; subst hk; exact h)
      | false => rfl
    · exact cf_not r n acc x hr
theorem cf_own : ∀ (names : List (Str × NameKind)) (n : Nat) (acc : List (Str × Addr)) (x : Str), (x, NameKind.cell) ∈ names → ∃ c, n ≤ c ∧ (cellsFrom n names acc).lookup x = some c
  | [], _, _, _, h => nomatch h
  | (y, k) :: r, n, acc, x, h => by
    unfold cellsFrom
    by_cases hr : (x, NameKind.cell) ∈ r
    · split
      · obtain ⟨c, h1, h2⟩ := cf_own r (n + 1) ((y, n) :: acc) x hr
        exact ⟨c, by omega, h2⟩
      · exact cf_own r n acc x hr
    · have e : (x, NameKind.cell) = (y, k) := (List.mem_cons.mp h).resolve_right hr
      injection e with e1 e2
      subst e1
      subst e2
      rw [if_pos (by rfl), cf_not r _ _ x hr, List.lookup_cons]
      simp
theorem cf_lt : ∀ (names : List (Str × NameKind)) (h : Heap) (acc : List (Str × Addr)) (x : Str) (c : Addr), (cellsFrom h.objs.size names acc).lookup x = some c → (pushCells h names).IsCell c none ∨ acc.lookup x = some c
  | [], _, _, _, _, h => .inr h
  | (y, k) :: r, h, acc, x, c, e => by
    unfold cellsFrom at e
    unfold pushCells
    by_cases hk : (k == NameKind.cell) = true
    · rw [if_pos hk] at e ⊢
      have e' : (cellsFrom (h.push { cls := .type "cell", data := .cell none }).objs.size r ((y, h.objs.size) :: acc)).lookup x = some c := by rw [Heap.size_push]; exact e
      rcases cf_lt r _ _ x c e' with q | q
      · exact .inl q
      · rw [List.lookup_cons] at q
        cases hb : x == y with
        | true =>
          rw [hb] at q
          have q' : h.objs.size = c := Option.some.inj q
          subst q'
          exact .inl ((show (h.push { cls := .type "cell", data := .cell none }).IsCell h.objs.size none from ⟨_, Heap.get?_push_size _ rfl, rfl⟩).keeps (pushCells_keeps _ _))
        | false => rw [hb] at q; exact .inr q
    · rw [if_neg hk] at e ⊢
      exact cf_lt r h acc x c e
/-- addresses of own cells lie at n or above, they differ by name -/
theorem cf_inj : ∀ (names : List (Str × NameKind)) (n : Nat) (acc : List (Str × Addr)), (∀ x c, acc.lookup x = some c → c < n) → (∀ x y c, acc.lookup x = some c → acc.lookup y = some c → x = y) →
    ∀ x y c, (cellsFrom n names acc).lookup x = some c → (cellsFrom n names acc).lookup y = some c → x = y
  | [], _, _, _, h => h
  | (z, k) :: r, n, acc, h1, h2 => by
    unfold cellsFrom
    split
    · refine cf_inj r (n + 1) _ (fun x c e => ?_) fun x y c e e' => ?_
      · rw [List.lookup_cons] at e
        cases hb : x == z with
        | true => rw [hb] at e; exact (Option.some.inj e) ▸ Nat.lt_succ_self n
        | false => rw [hb] at e; exact Nat.lt_succ_of_lt (h1 x c e)
      · rw [List.lookup_cons] at e e'
        cases hb : x == z with
        | true =>
          rw [hb] at e
          have ec : n = c := Option.some.inj e
          cases hb' : y == z with
          | true => have a : x = z := by simpa using hb
                    have b : y = z := by simpa using hb'
                    rw [a, b]
          | false => rw [hb'] at e'; exact absurd (h1 y c e') (by rw [← ec]; exact Nat.lt_irrefl n)
        | false =>
          rw [hb] at e
          cases hb' : y == z with
          | true =>
            rw [hb'] at e'
            have ec : n = c := Option.some.inj e'
            exact absurd (h1 x c e) (by rw [← ec]; exact Nat.lt_irrefl n)
          | false => rw [hb'] at e'; exact h2 x y c e e'
    · exact cf_inj r n acc h1 h2

/-- what a block wants of its scope: N0, sc the names and the scope around; mp: for each name of the block its place among N0, where it is taken from there -/
structure BlkOk (N0 : List Str) (sc : Scope) (N : List Str) (scope : Scope) (mp : List (Option Nat)) : Prop where
  kind : scope.kind = .function
  nd : (scope.names.map (·.1)).Nodup
  freeB : (scope.names.all fun x => !decide (x.2 = .free) || (decide (sc.names.lookup x.1 = some .cell) || decide (sc.names.lookup x.1 = some .free))) = true
  len : mp.length = N.length
  map : ((List.range mp.length).all fun i => match mp[i]? with
    | some (some j) => (match N[i]?, N0[j]? with
      | some x, some y => decide (x = y) && decide (scope.names.lookup x = some .free)
      | _, _ => false)
    | _ => true) = true
theorem BlkOk.free {N0 : List Str} {sc : Scope} {N : List Str} {scope : Scope} {mp : List (Option Nat)} (S : BlkOk N0 sc N scope mp) : ∀ x ∈ scope.names, x.2 = .free → sc.names.lookup x.1 = some .cell ∨ sc.names.lookup x.1 = some .free := fun x hx e => by
  have q := List.all_eq_true.mp S.freeB x hx
  rw [decide_eq_true e] at q
  simpa using q
theorem BlkOk.at {N0 : List Str} {sc : Scope} {N : List Str} {scope : Scope} {mp : List (Option Nat)} (S : BlkOk N0 sc N scope mp) {i j : Nat} (h : mp[i]? = some (some j)) :
    ∃ x, N[i]? = some x ∧ N0[j]? = some x ∧ scope.names.lookup x = some .free := by
  have hi : i < mp.length := (List.getElem?_eq_some_iff.mp h).1
  have q := List.all_eq_true.mp S.map i (List.mem_range.mpr hi)
  rw [h] at q
  simp only at q
  cases e1 : N[i]? with
  | none => rw [e1] at q; simp at q
  | some x =>
    cases e2 : N0[j]? with
    | none => rw [e1, e2] at q; simp at q
    | some y =>
      rw [e1, e2] at q
      simp only [Bool.and_eq_true, decide_eq_true_eq] at q
      obtain ⟨q1, q2⟩ := q
      subst q1
      exact ⟨x, rfl, rfl, q2⟩
theorem nodup_lookup {α : Type} : ∀ {l : List (Str × α)} {x : Str} {a : α}, (l.map (·.1)).Nodup → (x, a) ∈ l → l.lookup x = some a
  | (k, v) :: r, x, a, nd, h => by
    have nd : (k :: r.map (·.1)).Nodup := nd
    obtain ⟨n1, n2⟩ := List.nodup_cons.mp nd
    rw [List.lookup_cons]
    rcases List.mem_cons.mp h with e | h'
    · cases e; simp
    · have ne : (x == k) = false := by
        cases hb : x == k with
        | false => rfl
        | true =>
          have e : x = k := by simpa using hb
          subst e
          exact (n1 (List.mem_map.mpr ⟨(x, a), h', rfl⟩)).elim
      rw [ne]
      exact nodup_lookup n2 h'

/-- the names' values at a block's entry -/
noncomputable def liftSt (mp : List (Option Nat)) (σ : St) : St := mp.map fun o => o.bind fun j => (σ[j]?).join

/-- the context of a comprehension's block -/
noncomputable def cxBlk (X : Cx) (N : List Str) (scope : Scope) (C : Addr) (cl : List (Str × Addr)) (s : Shared) (H : Hp) (fp : List Addr) (pins : List (Addr × Obj)) : Cx where
  prog := X.prog
  w := X.w
  K := X.K
  mg := X.mg
  base := X.base
  A := X.A
  N := N
  s₀ := s
  H₀ := H
  env := compEnvC scope (cellsFrom (C + 1) scope.names cl) C X.env
  outer := X.stack
  stack := X.stack
  ex := fp
  fn := fun x => decide (scope.names.lookup x = some .cell)
  calm := X.calm
  pn := X.pn ++ pins
  xe := fun _ _ => False

theorem relabel_lookup {env : Env} : ∀ {names : List (Str × NameKind)} {x : Str} {k : NameKind}, (names.map fun (n, k) => if (k == NameKind.free && env.scope.kind == .function && env.kindOf n == some .cell) then (n, NameKind.cell) else (n, k)).lookup x = some k →
    names.lookup x = some k ∨ (names.lookup x = some .free ∧ k = .cell ∧ env.kindOf x = some .cell)
  | [], _, _, h => by simp at h
  | (n, k') :: r, x, k, h => by
    have ih := @relabel_lookup env r x k
    rw [List.map_cons] at h
    rw [List.lookup_cons]
    cases hx : x == n with
    | true =>
      have e : x = n := by simpa using hx
      subst e
      by_cases hc : (k' == NameKind.free && env.scope.kind == .function && env.kindOf x == some .cell) = true
      · simp only [hc, if_true, List.lookup_cons, beq_self_eq_true, Option.some.injEq] at h
        rw [Bool.and_eq_true, Bool.and_eq_true] at hc
        obtain ⟨⟨c1, _⟩, c3⟩ := hc
        exact .inr ⟨by rw [show k' = .free by simpa using c1], h.symm, by simpa using c3⟩
      · simp only [hc, Bool.false_eq_true, if_false, List.lookup_cons, beq_self_eq_true, Option.some.injEq] at h
        exact .inl (by rw [h])
    | false =>
      refine ih ?_
      by_cases hc : (k' == NameKind.free && env.scope.kind == .function && env.kindOf n == some .cell) = true
      · simpa only [hc, if_true, List.lookup_cons, hx] using h
      · simpa only [hc, Bool.false_eq_true, if_false, List.lookup_cons, hx] using h

theorem newBlk {M : Model} {A : Around} {E : Value → Shared → Prop} {s : Shared} {scope : Scope} {globals : Addr} {cl : List (Str × Addr)} {qual : Str} {env : Env} {Q : Env → Shared → Prop}
    (h : Q { scope := scope, locals := s.heap.objs.size, globals := globals, cells := cellsFrom (s.heap.objs.size + 1) scope.names cl, qual := qual, func := none, code := env.code, frame := env.frame, builtins := env.builtins }
      { s with heap := pushCells (s.heap.push { cls := .type "dict", data := .dict #[] }) scope.names }) :
    wpAny M A (newFunctionEnv scope globals cl [] qual none .none (some env)) Q E s := by
  simp only [newFunctionEnv, Option.isSome_some, if_true]
  refine wpAny_bind (wpAny_alloc ?_)
  refine wpAny_bind (wpAny_layCells _ (fun name kind cells => by cases hkc : kind == NameKind.cell <;> simp [hkc]) _ _ _ _ ?_)
  rw [show ({ s with heap := s.heap.push { cls := .type "dict", data := .dict #[] } } : Shared).heap.objs.size = s.heap.objs.size + 1 from Heap.size_push ..]
  first
    | exact wpAny_bind (wpAny_pure (wpAny_pure h))
    | exact wpAny_pure h
    | (rw [List.forIn_nil]; exact wpAny_bind (wpAny_pure (wpAny_pure h)))

section
variable {X : Cx} {pins : List (Addr × Obj)} {σ : St} {H : Hp} {s : Shared}
/-- the block's entry -/
theorem blk_start {N : List Str} {scope : Scope} {mp : List (Option Nat)} {fp : List Addr} (S : BlkOk X.N X.env.scope N scope mp) (I : Inv X pins σ H s) (f : ∀ b ∈ fp, FpOk X pins H b) (fo : ∀ b ∈ fp, b < s.heap.objs.size) :
    Inv (cxBlk X N scope s.heap.objs.size (closList X.env scope.names []) s H fp pins) [] (liftSt mp σ) H { s with heap := pushCells (s.heap.push { cls := .type "dict", data := .dict #[] }) scope.names } := by
  have hk : ∀ b o, s.heap.get? b = some o → (pushCells (s.heap.push { cls := .type "dict", data := .dict #[] }) scope.names).get? b = some o := fun b o e => pushCells_keeps _ _ b o (Heap.get?_push_of_some _ e)
  have hfree : ∀ y ∈ scope.names, y.2 = .free → ∃ c, X.env.cells.lookup y.1 = some c := fun y hy hf => I.ok.has y.1 (S.free y hy hf)
  have clo : ∀ x c, (closList X.env scope.names []).lookup x = some c → (x, NameKind.free) ∈ scope.names ∧ X.env.cells.lookup x = some c := fun x c e => closList_lookup e hfree
  have old : ∀ x c, X.env.cells.lookup x = some c → c < s.heap.objs.size := fun x c e => by
    obtain ⟨v, q⟩ := I.cell x c e
    exact q.lt
  -- a name's cell: an own one, above, or one of the closure's
  have cell_of : ∀ x c, (cellsFrom (s.heap.objs.size + 1) scope.names (closList X.env scope.names [])).lookup x = some c → (s.heap.objs.size + 1 ≤ c ∧ (x, NameKind.cell) ∈ scope.names) ∨ ((x, NameKind.free) ∈ scope.names ∧ X.env.cells.lookup x = some c) := fun x c e => by
    by_cases hx : (x, NameKind.cell) ∈ scope.names
    · obtain ⟨d, h1, h2⟩ := cf_own scope.names (s.heap.objs.size + 1) (closList X.env scope.names []) x hx
      rw [h2] at e
      cases e
      exact .inl ⟨h1, hx⟩
    · rw [cf_not _ _ _ x hx] at e
      exact .inr (clo x c e)
  have isCell : ∀ x c, (cellsFrom (s.heap.objs.size + 1) scope.names (closList X.env scope.names [])).lookup x = some c → ∃ v, (pushCells (s.heap.push { cls := .type "dict", data := .dict #[] }) scope.names).IsCell c v := fun x c e => by
    have e' : (cellsFrom (s.heap.push { cls := .type "dict", data := .dict #[] }).objs.size scope.names (closList X.env scope.names [])).lookup x = some c := by rw [Heap.size_push]; exact e
    rcases cf_lt scope.names _ _ x c e' with q | q
    · exact ⟨none, q⟩
    · obtain ⟨v, z⟩ := I.cell x c (clo x c q).2
      exact ⟨v, z.keeps hk⟩
  refine ⟨⟨I.ok.mod, S.kind, I.ok.glob, I.ok.blt, Nat.le_refl _, ?_, ?_, ?_, I.ok.hd, I.ok.frames, .inl rfl, ?_, I.bs, Nat.le_trans I.ok.bsz I.sz, ?_, ?_, I.stack, I.stkFree⟩,
    rfl, I.bare, Un.kept hk, ⟨fun _ => none, ?_, ?_⟩, isCell, I.hok.fresh (Nat.le_refl _), ?_, ?_, I.hok.kept hk, ?_⟩
  · -- inj
    refine cf_inj scope.names _ _ (fun x c e => ?_) fun x y c e e' => I.ok.inj x y c (clo x c e).2 (clo y c e').2
    exact Nat.lt_succ_of_lt (old x c (clo x c e).2)
  · -- has
    intro x hx
    have key : (x, NameKind.cell) ∈ scope.names ∨ (x, NameKind.free) ∈ scope.names := by
      have hx' : (relabel scope X.env).names.lookup x = some .cell ∨ (relabel scope X.env).names.lookup x = some .free := hx
      rcases hx' with q | q
      · rcases relabel_lookup q with z | ⟨z, _, _⟩
        · exact .inl (mem_of_lookup z)
        · exact .inr (mem_of_lookup z)
      · rcases relabel_lookup q with z | ⟨z, _, _⟩
        · exact .inr (mem_of_lookup z)
        · exact .inr (mem_of_lookup z)
    by_cases hc : (x, NameKind.cell) ∈ scope.names
    · obtain ⟨d, _, h2⟩ := cf_own scope.names (s.heap.objs.size + 1) (closList X.env scope.names []) x hc
      exact ⟨d, h2⟩
    · obtain ⟨d, h2, _⟩ := closList_look (key.resolve_left hc) hfree
      exact ⟨d, by show (cellsFrom (s.heap.objs.size + 1) scope.names (closList X.env scope.names [])).lookup x = some d; rw [cf_not _ _ _ x hc]; exact h2⟩
  · -- cab
    intro x c hf e
    have hc : (x, NameKind.cell) ∈ scope.names := mem_of_lookup (of_decide_eq_true hf)
    rcases cell_of x c e with ⟨h1, _⟩ | ⟨h1, _⟩
    · exact Nat.le_of_succ_le h1
    · have q1 := nodup_lookup S.nd hc
      have q2 := nodup_lookup S.nd h1
      rw [q1] at q2; cases q2
  · -- exf
    intro b hb
    refine ⟨Nat.ne_of_lt (fo b hb), fun x c e z => ?_⟩
    subst z
    rcases cell_of x c e with ⟨h1, _⟩ | ⟨_, h1⟩
    · exact absurd (Nat.lt_of_lt_of_le (fo c hb) (Nat.le_of_succ_le h1)) (Nat.lt_irrefl _)
    · exact (f c hb).2.2.2.2.1 x c h1 rfl
  · -- noex
    intro b o e hb
    rcases (f b hb).2.2.2.1 with z | z
    · exact I.ok.noex b o e z
    · exact absurd (Nat.lt_of_lt_of_le (Nat.lt_of_lt_of_le (Heap.lt_size e) I.ok.bsz) z) (Nat.lt_irrefl _)
  · -- exfs
    intro b hb hs
    rcases List.mem_cons.mp (I.stkSub b hs) with z | z
    · exact (f b hb).2.1 z
    · exact (f b hb).2.2.1 z
  · -- the frame
    exact (Heap.Ns.new s.heap (.type "dict")).keeps (pushCells_keeps _ _)
  · -- the names taken from around
    intro i x v e1 e2 _
    have e2' : (mp.map fun o => o.bind fun j => (σ[j]?).join)[i]? = some (some v) := e2
    rw [List.getElem?_map] at e2'
    cases em : mp[i]? with
    | none => rw [em] at e2'; cases e2'
    | some o =>
      rw [em] at e2'
      cases o with
      | none => cases e2'
      | some j =>
        have e3 : (σ[j]?).join = some v := Option.some.inj e2'
        have e4 : σ[j]? = some (some v) := by
          cases q : σ[j]? with
          | none => rw [q] at e3; cases e3
          | some z => rw [q] at e3; exact congrArg some e3
        obtain ⟨y, h1, h2, h3⟩ := S.at em
        have h1' : some x = some y := e1.symm.trans h1
        cases h1'
        have hm := mem_of_lookup h3
        have vis : Vis X.env.scope x := (S.free _ hm rfl).elim (fun z => .inr (.inl z)) fun z => .inr (.inr z)
        obtain ⟨m, hn, hl⟩ := I.loc
        obtain ⟨u, r, l⟩ := hl j x v h2 e4 vis
        refine ⟨u, r, .inr ?_⟩
        have nc : (x, NameKind.cell) ∉ scope.names := fun z => by
          have q2 := nodup_lookup S.nd z
          rw [h3] at q2; cases q2
        obtain ⟨c, hc1, hc2⟩ := closList_look hm hfree
        have hc3 : (cellsFrom (s.heap.objs.size + 1) scope.names (closList X.env scope.names [])).lookup x = some c := by rw [cf_not _ _ _ x nc]; exact hc1
        have hcell : s.heap.IsCell c (some u) := by
          rcases l with ⟨hk', _⟩ | ⟨_, c', e5, e6⟩
          · exfalso
            have hk' : X.env.scope.names.lookup x = some .local := hk'
            rcases S.free _ hm rfl with z | z
            · have z : X.env.scope.names.lookup x = some .cell := z
              rw [hk'] at z; cases z
            · have z : X.env.scope.names.lookup x = some .free := z
              rw [hk'] at z; cases z
          · rw [hc2] at e5; cases e5; exact e6
        refine ⟨?_, c, hc3, hcell.keeps hk⟩
        rename_i hv
        have hv : Vis (relabel scope X.env) x := hv
        rcases hv with z | z | z
        · exfalso
          rcases relabel_lookup (show (relabel scope X.env).names.lookup x = some .local from z) with q | ⟨_, q, _⟩
          · rw [h3] at q; cases q
          · cases q
        · exact .inl z
        · exact .inr z
  · -- freeC
    intro x c e
    rcases cell_of x c e with ⟨h1, _⟩ | ⟨_, h1⟩
    · exact I.hok.fresh (Nat.le_of_succ_le h1)
    · exact I.freeC x c h1
  · -- pins
    intro p hp
    have hp' : p ∈ X.pn ++ pins := by simpa [cxBlk] using hp
    obtain ⟨e, n, ne, nf, d⟩ := I.pin p hp'
    refine ⟨hk _ _ e, n, Nat.ne_of_lt (Heap.lt_size e), fun z => ?_, d⟩
    rcases List.mem_cons.mp (I.stkSub _ z) with q | q
    · exact ne q
    · exact nf q
  · show (mp.map _).length = N.length
    rw [List.length_map]
    exact S.len
end

/-! ### the rule -/
noncomputable def PIfs (X : Cx) (ifs : List Expr) (t : TT) : Prop :=
  ∀ (pins : List (Addr × Obj)) (s : Shared) (σ : St) (H : Hp) (Q : Bool → Hp → Prop), Inv X pins σ H s → t σ H Q →
    wpAny (model X.prog X.w) X.A (forIn ifs true fun c r => if r = true then do let ok ← isTrue c X.env (eval c X.env); pure (ForInStep.yield ok) else pure (ForInStep.yield r)) (TP X pins σ Q) X.xe s
noncomputable def tYes : TT := fun _ H Q => Q true H
theorem pifs_nil {X : Cx} : PIfs X [] tYes := fun _ _ _ H _ I h => wpAny_tests_nil ⟨H, I, h⟩
theorem pifs_one {X : Cx} {c : Expr} {t : TT} (h : PT X c t) : PIfs X [c] t := fun pins s σ H Q I q => wpAny_tests_one (h pins s σ H Q I q)

noncomputable def tCompK (mp : List (Option Nat)) (g : TG) (tt : TT) (te : TE) (J : It) (σ : St) (H : Hp) (Q : VK) : Prop :=
  ∀ l, H l = none → ∃ W : Nat → Nat → List V → St → Hp → Prop, (∃ m, W 0 m [] (liftSt mp σ) (upd H l (.lst []))) ∧ ∀ i m acc σ' H', W i m acc σ' H' →
    (J.stop i H' ∧ Q (.ref l) H') ∨ (J.go i H' ∧ acc.length < sizeLine ∧ ∃ Nx : List V → St → Hp → Prop, (∀ acc' σ2 H2, Nx acc' σ2 H2 → ∃ m', m' < m ∧ W (i + 1) m' acc' σ2 H2) ∧
      ∀ x H2, J.yld i H' x H2 → g x σ' H2 fun σ2 H3 => tt σ2 H3 fun b H4 => if b = true then te σ2 H4 fun v H5 => H5 l = some (.lst acc) ∧ Nx (acc ++ [v]) σ2 (upd H5 l (.lst (acc ++ [v]))) else Nx acc σ2 H4)
noncomputable def tComp (mp : List (Option Nat)) (wi : TI) (g : TG) (tt : TT) (te : TE) : TE := fun σ H Q => wi σ H fun J H1 => tCompK mp g tt te J σ H1 Q

section
variable {X : Cx} {elt iter tg : Expr} {ifs : List Expr} {scope : Scope} {pos : Pos} {N : List Str} {mp : List (Option Nat)} {wi : TI} {g : TG} {tt : TT} {te : TE}

theorem comp_block {pins : List (Addr × Obj)} {σ : St} {H2 : Hp} {s2 : Shared} {it : Addr} {fp : List Addr} {tn : Nat → Heap → Prop} {J : It} {Q : VK} {RR : Value → Addr → Result → Shared → Prop} {E : Value → Shared → Prop}
    (hc : X.calm = true) (S : BlkOk X.N X.env.scope N scope mp) (I2 : Inv X pins σ H2 s2) (T : Turn X.prog X.w X.K tg J fp it tn) (st2 : tn 0 s2.heap) (f2 : ∀ b ∈ fp, FpOk X pins H2 b)
    (hg : ∀ C cl s H fp pins, PG (cxBlk X N scope C cl s H fp pins) tg g) (ht : ∀ C cl s H fp pins, PIfs (cxBlk X N scope C cl s H fp pins) ifs tt) (he : ∀ C cl s H fp pins, PE (cxBlk X N scope C cl s H fp pins) elt te)
    (k : tCompK mp g tt te J σ H2 Q)
    (fin : ∀ (l C : Addr) (m : Str → Option Value) (s' : Shared) (H' : Hp), Inv X pins σ H' s' → s'.heap.Ns C m → H' C = none → C ≠ X.env.locals → X.s₀.heap.objs.size ≤ C → (∀ x c, X.env.cells.lookup x = some c → c ≠ C) → (∀ p ∈ X.pn ++ pins, p.1 ≠ C) →
      Q (.ref l) H' → RR (.ref l) C (.ok .next) s') :
    wpAny (model X.prog X.w) X.A (newList []) (fun acc s₃ => wpAny (model X.prog X.w) X.A (newFunctionEnv scope X.env.globals (closList X.env scope.names []) [] X.env.qual none .none (some X.env)) (fun cenv s₄ =>
      codeAny (model X.prog X.w) X.A (.compStart (.ListComp elt [⟨tg, iter, ifs, 0⟩] scope pos) 0 (.ref it) acc { cenv with scope := relabel scope X.env }) (RR acc cenv.locals) s₄) E s₃) E s2 := by
  refine wpAny_newList ?_ (Nat.zero_le _)
  have I3 : Inv X pins σ (upd H2 s2.heap.objs.size (.lst [])) { s2 with heap := s2.heap.push { cls := .type "list", data := .seq ([] : List Value).toArray } } := I2.lnew (t' := s2.toks) (its := []) .nil (Nat.zero_le _)
  have fl : H2 s2.heap.objs.size = none := I2.fresh
  have nfl : s2.heap.objs.size ∉ fp := fun z => by
    obtain ⟨o, e, _⟩ := T.obj 0 _ st2 _ z
    exact absurd (Heap.lt_size e) (Nat.lt_irrefl _)
  have fo2 : ∀ b ∈ fp, b < s2.heap.objs.size := fun b hb => by
    obtain ⟨o, e, _⟩ := T.obj 0 _ st2 b hb
    exact Heap.lt_size e
  have f3 : ∀ b ∈ fp, FpOk X pins (upd H2 s2.heap.objs.size (.lst [])) b := fun b hb => by
    obtain ⟨h0, hr⟩ := f2 b hb
    exact ⟨by rw [upd_ne (Nat.ne_of_lt (fo2 b hb))]; exact h0, hr⟩
  have k3 := k s2.heap.objs.size fl
  clear k
  have st3 : tn 0 (s2.heap.push { cls := .type "list", data := .seq ([] : List Value).toArray }) := T.keep 0 _ _ st2 fun b _ o e => Heap.get?_push_of_some _ e
  have fo3 : ∀ b ∈ fp, b < (s2.heap.push { cls := .type "list", data := .seq ([] : List Value).toArray }).objs.size := fun b hb => by rw [Heap.size_push]; exact Nat.lt_succ_of_lt (fo2 b hb)
  generalize hs3 : ({ s2 with heap := s2.heap.push { cls := .type "list", data := .seq ([] : List Value).toArray } } : Shared) = s3 at I3 ⊢
  have st3 : tn 0 s3.heap := by rw [← hs3]; exact st3
  have fo3 : ∀ b ∈ fp, b < s3.heap.objs.size := by rw [← hs3]; exact fo3
  generalize s2.heap.objs.size = l at *
  generalize upd H2 l (.lst []) = H3 at *
  refine newBlk ?_
  have I4 := blk_start S I3 f3 fo3
  obtain ⟨W, ⟨m0, w0⟩, turn⟩ := k3
  have st4 : tn 0 (pushCells (s3.heap.push { cls := .type "dict", data := .dict #[] }) scope.names) := T.keep 0 _ _ st3 fun b _ o e => pushCells_keeps _ _ b o (Heap.get?_push_of_some _ e)
  generalize hs4 : ({ s3 with heap := pushCells (s3.heap.push { cls := .type "dict", data := .dict #[] }) scope.names } : Shared) = s4 at I4 ⊢
  have st4 : tn 0 s4.heap := by rw [← hs4]; exact st4
  -- the block's context, and what stays true of the iterator's objects in it
  have stat : ∀ {H' : Hp}, (∀ b ∈ fp, H' b = none) → ∀ b ∈ fp, FpOk (cxBlk X N scope s3.heap.objs.size (closList X.env scope.names []) s3 H3 fp pins) [] H' b := fun {H'} hn b hb => by
    refine ⟨hn b hb, (I4.ok.exf b hb).1, I4.ok.exfs b hb, .inl hb, (I4.ok.exf b hb).2, fun p hp => ?_⟩
    exact (f3 b hb).2.2.2.2.2 p (by simpa [cxBlk] using hp)
  have back : ∀ {σ' : St} {H' : Hp} {s' : Shared} {ps : List (Addr × Obj)}, Inv (cxBlk X N scope s3.heap.objs.size (closList X.env scope.names []) s3 H3 fp pins) ps σ' H' s' → Inv X pins σ H' s' := fun {σ' H' s' ps} I' =>
    I3.call' (ch := fp) I'.os I'.base I'.hok I'.bare fun b hb => ⟨(f3 b hb).2.2.2.1, (f3 b hb).2.1, (f3 b hb).2.2.2.2.1, (f3 b hb).2.2.2.2.2⟩
  have loop : codeAny (model X.prog X.w) X.A (.compLoop (.ListComp elt [⟨tg, iter, ifs, 0⟩] scope pos) 0 (.ref it) (.ref l) (compEnvC scope (cellsFrom (s3.heap.objs.size + 1) scope.names (closList X.env scope.names [])) s3.heap.objs.size X.env)) (RR (.ref l) s3.heap.objs.size) s4 := by
    refine compLoop_own (fun n s' => ∃ i acc σ' H', Inv (cxBlk X N scope s3.heap.objs.size (closList X.env scope.names []) s3 H3 fp pins) [] σ' H' s' ∧ tn i s'.heap ∧ (∀ b ∈ fp, H' b = none) ∧ W i n acc σ' H') ?_ m0
      ⟨0, [], liftSt mp σ, H3, I4, st4, fun b hb => (f3 b hb).1, w0⟩
    rintro n s5 ⟨i, acc, σ5, H5, I5, st5, fr5, w5⟩
    rcases turn i n acc σ5 H5 w5 with ⟨stop, q⟩ | ⟨go, hz, Nx, hN, step⟩
    · refine thn (T.done (cxBlk X N scope s3.heap.objs.size (closList X.env scope.names []) s3 H3 fp pins) rfl rfl rfl hc i [] s5 σ5 H5 _ I5 (stat fr5) st5 stop) fun r s6 ⟨hr, I6⟩ => ?_
      subst hr
      obtain ⟨m, hn, _⟩ := I6.loc
      refine fin l _ m s6 H5 (back I6) hn I6.free ?_ I3.sz (fun x c e z => ?_) (fun p hp z => ?_) q
      · exact Nat.ne_of_gt I3.lt
      · obtain ⟨v, y⟩ := I3.cell x c e
        exact absurd y.lt (by rw [z]; exact Nat.lt_irrefl _)
      · exact absurd (Heap.lt_size (I3.pin p hp).1) (by rw [z]; exact Nat.lt_irrefl _)
    · refine thn (T.item (cxBlk X N scope s3.heap.objs.size (closList X.env scope.names []) s3 H3 fp pins) rfl rfl rfl hc i [] s5 σ5 H5 _ I5 (stat fr5) st5 go) fun r s6 ⟨u, hr, h6⟩ => ?_
      subst hr
      refine thn h6 fun _ s7 ⟨x, H7, I7, r7, y7, st7, fr7⟩ => ?_
      have I7' := I7.pinned (stat fr7) (T.obj _ _ st7)
      have again : ∀ {s8 : Shared} {acc' : List V} {σ8 : St} {H8 : Hp}, Inv (cxBlk X N scope s3.heap.objs.size (closList X.env scope.names []) s3 H3 fp pins) ([] ++ pinsAt fp s7.heap) σ8 H8 s8 → Nx acc' σ8 H8 →
          ∃ m, m < n ∧ ∃ i acc σ' H', Inv (cxBlk X N scope s3.heap.objs.size (closList X.env scope.names []) s3 H3 fp pins) [] σ' H' s8 ∧ tn i s8.heap ∧ (∀ b ∈ fp, H' b = none) ∧ W i m acc σ' H' := fun {s8 acc' σ8 H8} I8 n8 => by
        obtain ⟨m', hm, w8⟩ := hN acc' σ8 H8 n8
        refine ⟨m', hm, i + 1, acc', σ8, H8, I8.unpinned, T.keep _ _ _ st7 fun b hb o e => (I8.pin (b, o) (List.mem_append_right _ (List.mem_append_right _ (mem_pinsAt hb e)))).1, fun b hb => ?_, w8⟩
        obtain ⟨o, e, d⟩ := T.obj _ _ st7 b hb
        exact (I8.pin (b, o) (List.mem_append_right _ (List.mem_append_right _ (mem_pinsAt hb e)))).2.1
      refine thn (hg _ _ _ _ _ _ _ s7 σ5 H7 x u _ I7' r7 (step x H7 y7)) fun _ s8 ⟨σ8, H8, I8, q8⟩ => ?_
      refine thn (ht _ _ _ _ _ _ _ s8 σ8 H8 _ I8 q8) fun b s9 ⟨H9, I9, q9⟩ => ?_
      cases b with
      | false =>
        rw [if_neg Bool.false_ne_true] at q9 ⊢
        exact again I9 q9
      | true =>
        rw [if_pos rfl] at q9 ⊢
        refine thn (he _ _ _ _ _ _ _ s9 σ8 H9 _ I9 q9) fun v s10 ⟨y, H10, I10, r10, q10, n10⟩ => ?_
        refine thn (mt_append _ s10 σ8 H10 (.ref l) [y] (.ref l) [v] (fun _ H' => Nx (acc ++ [y]) σ8 H') I10 rfl (.cons r10 .nil) ⟨l, acc, y, rfl, rfl, q10, hz, n10⟩) fun _ s11 ⟨_, H11, I11, _, q11⟩ => ?_
        exact again I11 q11
  exact codeAny_compStart_list loop (T.self _ 0 _ _ _ st4 loop)

/-- [elt for tg in iter if ..] -/
theorem pe_comp (hc : X.calm = true) (S : BlkOk X.N X.env.scope N scope mp) (hi : PI X tg iter wi)
    (hg : ∀ C cl s H fp pins, PG (cxBlk X N scope C cl s H fp pins) tg g) (ht : ∀ C cl s H fp pins, PIfs (cxBlk X N scope C cl s H fp pins) ifs tt) (he : ∀ C cl s H fp pins, PE (cxBlk X N scope C cl s H fp pins) elt te)
    (hs : ∀ x, foldedSetIterable iter X.env x = pure x := by intro _; rfl) : PE X (.ListComp elt [⟨tg, iter, ifs, 0⟩] scope pos) (tComp mp wi g tt te) := by
  intro pins s σ H Q I h
  rw [eval_ListComp]
  have hfree : ∀ y ∈ scope.names, y.2 = .free → ∃ c, X.env.cells.lookup y.1 = some c := fun y hy hf => I.ok.has y.1 (S.free y hy hf)
  refine wpAny_comprehension_free (use := none) rfl hs (closureFor_list hfree) S.kind (fun x hx e => nodup_lookup S.nd (by rw [← e]; exact hx)) ?_
  show wpAny _ _ (eval iter X.env) _ _ _
  refine thn (hi pins s σ H _ I h) fun v s1 h1 => thn h1 fun itv s2 h2 => ?_
  obtain ⟨it, fp, tn, J, H2, e, I2, T, st2, f2, k⟩ := h2
  subst e
  refine comp_block (RR := fun acc C => compPost (model X.prog X.w) X.A X.xe none (EP X pins σ Q) acc C) hc S I2 T st2 f2 hg ht he k ?_
  intro l C m s' H' I' hn hC h1 h2 h3 h4 q
  exact ⟨m, hn, fun h' hb => ⟨.ref l, H', I'.turned (t' := s'.toks) (it := C) (fun b o hbC e => hb.extBut b o hbC e) hC (Ne.symm (Ne.symm h1)) (.inr h2) h3 h4, rfl, q⟩⟩

/-- x = [elt for tg in iter if ..], x a local: the block's names go behind the store -/
theorem ps_setC {i : Nat} {x : Str} {pos' spos : Pos} (hN : X.N.Nodup) (hxi : X.N[i]? = some x) (hx : Loc X.env.scope x) (hc : X.calm = true) (S : BlkOk X.N X.env.scope N scope mp) (hi : PI X tg iter wi)
    (hg : ∀ C cl s H fp pins, PG (cxBlk X N scope C cl s H fp pins) tg g) (ht : ∀ C cl s H fp pins, PIfs (cxBlk X N scope C cl s H fp pins) ifs tt) (he : ∀ C cl s H fp pins, PE (cxBlk X N scope C cl s H fp pins) elt te)
    (hsw : swapsWith (.ListComp elt [⟨tg, iter, ifs, 0⟩] scope pos) (some (.Name x pos')) spos.line X.env = pure true)
    (hf : X.fn x = true ∨ X.env.scope.names.lookup x = some .local := by first | exact .inl rfl | exact .inr rfl | assumption)
    (hs : ∀ x, foldedSetIterable iter X.env x = pure x := by intro _; rfl) : PS X (.Assign [.Name x pos'] (.ListComp elt [⟨tg, iter, ifs, 0⟩] scope pos) spos) (tAsg (tComp mp wi g tt te) (gName i)) := by
  intro pins s σ H D I h
  have hfree : ∀ y ∈ scope.names, y.2 = .free → ∃ c, X.env.cells.lookup y.1 = some c := fun y hy hf => I.ok.has y.1 (S.free y hy hf)
  rw [exec_Assign_Name_used _ _ _ _ hsw]
  refine wpAny_bind (wpAny_standAt (wpAny_bind ?_))
  show wpAny _ _ (do let _ ← comprehension (.ListComp elt [⟨tg, iter, ifs, 0⟩] scope pos) scope X.env _ (newList []) false (eval iter X.env) (some (assign (.Name x pos') X.env))) _ _ s
  refine wpAny_bind (wpAny_mono (wpAny_comprehension_free (use := some (assign (.Name x pos') X.env)) (Q := fun _ s' => SP X pins D .next s') rfl hs (closureFor_list hfree) S.kind (fun x hx e => nodup_lookup S.nd (by rw [← e]; exact hx)) ?_) (fun _ s' hq => wpAny_pure (wpAny_pure hq)) fun _ _ e => e)
  refine thn (hi pins s σ H _ I h) fun v s1 h1 => thn h1 fun itv s2 h2 => ?_
  obtain ⟨it, fp, tn, J, H2, e, I2, T, st2, f2, k⟩ := h2
  subst e
  refine comp_block (Q := fun y H1 => gName i y σ H1 D.nx) (RR := fun acc C => compPost (model X.prog X.w) X.A X.xe (some (assign (.Name x pos') X.env)) (fun _ s' => SP X pins D .next s') acc C) hc S I2 T st2 f2 hg ht he k ?_
  intro l C m s' H' I' hn hC h1 h2 h3 h4 q
  show wpAny _ _ (assign (.Name x pos') X.env (.ref l)) _ _ _
  refine wpAny_assign_Name (store_ok2 I' hN hxi hx (v := .ref l) rfl (fun s'' I'' ⟨a, hsb, ha⟩ => ?_) hf)
  have hCa : C ≠ a := by
    rcases ha with z | z
    · rw [z]; exact h1
    · exact fun y => h3 x a z y.symm
  exact ⟨m, hn.sameBut hsb hCa, fun h' hb => ⟨_, H', I''.turned (t' := s''.toks) (it := C) (fun b o hbC e => hb.extBut b o hbC e) hC (Ne.symm (Ne.symm h1)) (.inr h2) h3 h4, q⟩⟩
end

/-! ### the forms one uses -/
section
variable {mp : List (Option Nat)} {g : TG} {tt : TT} {te : TE} {σ : St} {H : Hp} {Q : VK}
theorem comp_range {lo : Int} {n : Nat} (Pv : Addr → Nat → List V → St → Hp → Prop) (h0 : ∀ l, H l = none → Pv l 0 [] (liftSt mp σ) (upd H l (.lst [])))
    (hl : ∀ l i acc σ' H', H l = none → Pv l i acc σ' H' → acc.length ≤ i)
    (hs : ∀ l i acc σ' H', H l = none → i < n → Pv l i acc σ' H' → g (.int (lo + i)) σ' H' fun σ2 H3 => tt σ2 H3 fun b H4 => if b = true then te σ2 H4 fun v H5 => H5 l = some (.lst acc) ∧ Pv l (i + 1) (acc ++ [v]) σ2 (upd H5 l (.lst (acc ++ [v]))) else Pv l (i + 1) acc σ2 H4)
    (hd : ∀ l acc σ' H', H l = none → Pv l n acc σ' H' → Q (.ref l) H') (hz : n ≤ sizeLine) : tCompK mp g tt te (Itr lo n) σ H Q := by
  intro l hn
  refine ⟨fun i m acc σ H => m = n - i ∧ i ≤ n ∧ Pv l i acc σ H, ⟨n, by simp, Nat.zero_le _, h0 l hn⟩, ?_⟩
  rintro i m acc σ' H' ⟨rfl, hi, p⟩
  have ha := hl l i acc σ' H' hn p
  by_cases hlt : i < n
  · refine .inr ⟨hlt, by omega, Pv l (i + 1), fun acc' σ2 H2 p' => ⟨n - (i + 1), by omega, rfl, hlt, p'⟩, fun x H2 y => ?_⟩
    obtain ⟨e, y⟩ := y
    subst e y
    exact hs l i acc σ' _ hn hlt p
  · have e : i = n := by omega
    subst e
    exact .inl ⟨Nat.le_refl _, hd l acc σ' H' hn p⟩
end
end L2
/-! ### built-in functions and comparisons over lists -/
namespace L2
open PySem PySem.Spec PyProof.Rows
section
variable {X : Cx}
theorem call_isinst : CallR X (.builtin "isinstance") (fun xs H Q => ∃ x n t b, xs = [x, V.ty n] ∧ TyOf X.K H x t ∧ PySem.W.kitOne X.K t (.type n) = some b ∧ Q (.bl b) H) := by
  intro pins s σ H xs us Q I r h
  obtain ⟨x, n, t, b, rfl, ty, e, q⟩ := h
  obtain ⟨u, w', rfl, rx, ry⟩ := vals2 r
  have ry : w' = Value.type n := ry
  subst ry
  exact isinst_ok I rx ty e fun tk => ⟨.bl b, H, I.tok tk, rfl, q⟩
theorem call_all (hc : X.calm = true) : CallR X (.builtin "all") (fun xs H Q => ∃ (p : Addr) (bs : List Bool), xs = [.ref p] ∧ SqL X.K H p (bs.map V.bl) ∧ Q (.bl (bs.all id)) H) := by
  intro pins s σ H xs us Q I r h
  obtain ⟨p, bs, rfl, hS, q⟩ := h
  obtain ⟨u, rfl, ru⟩ := vals1 r
  cases ru
  obtain ⟨its, rv, pl, hz⟩ := I.list hS
  have hlt : p < s.heap.objs.size := by obtain ⟨_, e, _⟩ := pl.isList; exact Heap.lt_size e
  have hlen : its.length = bs.length := by rw [← rv.length, List.length_map]
  refine call_all_walk (wpAny_pyIter_list pl.isList ?_)
  refine ⟨s.heap.objs.size, _, _, _, _, _, fun i => (bs[i]?).getD true, rfl, Walks.list (A := X.A.in1) (I.ok.hd hc) _ p (Nat.ne_of_lt hlt) its.toArray, ⟨⟨_, Heap.get?_push_size _ rfl, rfl, rfl⟩, pl.isList.push _⟩, ?_, fun h' tk hk => ?_⟩
  · intro i v s' Q' E' hv hq
    have hv' : its[i]? = some v := by simpa using hv
    have hi : i < bs.length := by rw [← hlen]; exact (List.getElem?_eq_some_iff.mp hv').1
    have e1 : (bs.map V.bl)[i]? = some (V.bl bs[i]) := by simp [hi]
    obtain ⟨w', h1, h2⟩ := rv.get e1
    rw [hv'] at h1
    cases h1
    have h2 : v = Value.bool bs[i] := h2
    subst h2
    have e2 : (bs[i]?).getD true = bs[i] := by simp [hi]
    have hq : Q' ((bs[i]?).getD true) s' := hq
    rw [e2] at hq
    exact wpAny_truthy_bool hq
  · have e3 : ((List.range its.toArray.size).all fun i => (bs[i]?).getD true) = bs.all id := by
      rw [List.size_toArray, hlen]
      apply Bool.eq_iff_iff.mpr
      rw [List.all_eq_true, List.all_eq_true]
      constructor
      · intro hh b hb
        obtain ⟨i, hi, e⟩ := List.getElem_of_mem hb
        have := hh i (List.mem_range.mpr hi)
        simp [hi] at this
        rw [← e]
        simpa using this
      · intro hh i hi
        have hi' := List.mem_range.mp hi
        have := hh bs[i] (List.getElem_mem hi')
        simpa [hi'] using this
    rw [e3]
    exact ⟨.bl (bs.all id), H, I.kept fun b o e => hk b o (by simp; exact Nat.ne_of_lt (Heap.lt_size e)) (Heap.get?_push_of_some _ e), rfl, q⟩
noncomputable def CPowB (i j : Int) : Prop := 0 ≤ j ∧ (Builtin.Int.intBits i : Int) * j ≤ 2 ^ 27
end
end L2
/-! ### the operations by short names -/
namespace L2
open PySem PySem.Spec PyProof.Rows
noncomputable def oAdd : R2 := rI0 fun i j => .int (i + j)
noncomputable def oSub : R2 := rI0 fun i j => .int (i - j)
/-- far beyond all numbers here -/
noncomputable def HUGE : Int := 10 ^ 1000
theorem huge_log {i : Int} (h1 : -HUGE < i) (h2 : i < HUGE) : i.natAbs.log2 < 4000 := by
  have e : HUGE ≤ 2 ^ 4000 := by decide +kernel
  rcases Nat.eq_zero_or_pos i.natAbs with h0 | hp
  · rw [h0]; decide +kernel
  · refine (Nat.log2_lt (Nat.ne_of_gt hp)).mpr ?_
    have : (i.natAbs : Int) < 2 ^ 4000 := by omega
    exact_mod_cast this
theorem huge_bits {i : Int} (h1 : -HUGE < i) (h2 : i < HUGE) : Builtin.Int.intBits i ≤ 2 ^ 20 := by
  have h := huge_log h1 h2
  have e : (4001 : Nat) ≤ 2 ^ 20 := by decide
  unfold Builtin.Int.intBits
  split
  · exact Nat.zero_le _
  · omega
noncomputable def CMulA (i j : Int) : Prop := CMul i j ∨ ((-HUGE < i ∧ i < HUGE) ∧ -HUGE < j ∧ j < HUGE)
theorem CMulA.ok {i j : Int} (h : CMulA i j) : IntMulOk i j := h.elim CMul.ok fun h => .of_bits (huge_bits h.1.1 h.1.2) (huge_bits h.2.1 h.2.2)
noncomputable def CDivA (_ j : Int) : Prop := 0 < j ∧ j < HUGE
theorem huge_big : (1073741824 : Int) < HUGE := by decide +kernel
noncomputable def oMul : R2 := rI CMulA fun i j => .int (i * j)
noncomputable def oDiv : R2 := rI CDivA fun i j => .int (i / j)
noncomputable def oMod : R2 := rI (fun _ j => 0 < j) fun i j => .int (i % j)
noncomputable def CPowA (i j : Int) : Prop := CPow i j ∨ CPowB i j
noncomputable def oPow : R2 := rI CPowA fun i j => .int (i ^ j.toNat)
noncomputable def oLt : R2 := rI0 fun i j => .bl (decide (i < j))
noncomputable def oLe : R2 := rI0 fun i j => .bl (decide (i ≤ j))
noncomputable def oGt : R2 := rI0 fun i j => .bl (decide (j < i))
noncomputable def oGe : R2 := rI0 fun i j => .bl (decide (j ≤ i))
noncomputable def oNotN : R2 := fun x y H Q => y = .non ∧ Q (.bl (!decide (x = .non))) H
noncomputable def rLenL (K : PySem.W.Frag) : List V → Hp → VK → Prop := fun xs H Q => ∃ p ys, xs = [.ref p] ∧ (SqL K H p ys ∨ SqT K H p ys) ∧ Q (.int ys.length) H
noncomputable def rIsi (K : PySem.W.Frag) : List V → Hp → VK → Prop := fun xs H Q => ∃ x n t b, xs = [x, V.ty n] ∧ TyOf K H x t ∧ PySem.W.kitOne K t (.type n) = some b ∧ Q (.bl b) H
noncomputable def rAll (K : PySem.W.Frag) : List V → Hp → VK → Prop := fun xs H Q => ∃ (p : Addr) (bs : List Bool), xs = [.ref p] ∧ SqL K H p (bs.map V.bl) ∧ Q (.bl (bs.all id)) H
section
variable {X : Cx}
theorem op_addI : OpR X (binaryOp .Add) oAdd := op_add
theorem op_subI : OpR X (binaryOp .Sub) oSub := op_sub
theorem op_mulI : OpR X (binaryOp .Mult) oMul := opI fun _ _ _ _ _ _ _ hc q => mul_int q hc.ok
theorem op_divI : OpR X (binaryOp .FloorDiv) oDiv := opI fun i j _ _ _ _ _ hc q => by
  have h1 : (0 : Int) < j := hc.1
  have h2 : j < HUGE := hc.2
  have h3 : -HUGE < j := by have := huge_big; omega
  exact floordiv_int (by omega) (by rw [Int.fdiv_eq_ediv_of_nonneg i (by omega)]; exact q) (.inl (PyProof.noPylong_of_log2 (Nat.lt_trans (huge_log h3 h2) (by decide))))
theorem op_modI : OpR X (binaryOp .Mod) oMod := op_mod
theorem op_powI : OpR X (binaryOp .Pow) oPow := opI fun _ _ _ _ _ _ _ hc q => hc.elim (fun h => pow_int_small h.1 h.2.1 h.2.2 q) fun h => pow_int h.1 h.2 q
theorem op_ltI : OpR X (compareOp .Lt) oLt := op_lt
theorem op_leI : OpR X (compareOp .LtE) oLe := op_le
theorem op_gtI : OpR X (compareOp .Gt) oGt := op_gt
theorem op_geI : OpR X (compareOp .GtE) oGe := op_ge
end
/-- a name of the top that holds an int -/
structure KonIn (mg : Str → Option Value) (x : Str) (i : Int) : Prop where
  ex : ∃ t, mg x = some (.int i t)
theorem KonIn.pe {X : Cx} {x : Str} {i : Int} {pos : Pos} (k : KonIn X.mg x i) (hg : Gl X x) (hd : (x == ("__debug__" : Str)) = false := by decide) : PE X (.Name x pos) (tC (.int i)) := by
  obtain ⟨t, e⟩ := k.ex
  exact pe_glob hg e ⟨t, rfl⟩ hd
theorem kon_in {K : PySem.W.Frag} {mg : Str → Option Value} {h : Heap} {x : Str} {i : Int} {t : Tok} (X : K.In h) (G : h.Ns mainGlobals mg) (z : PySem.W.nsIn K mainGlobals x = some (some (.int i t))) : KonIn mg x i := ⟨t, PySem.W.mg_of X G z⟩
/-! ### readings -/
theorem Same.upd {H H' : Hp} (e : Same H H') {l : Addr} {o : HO} (h : H l = none) : Same H (upd H' l o) := fun b u q => by
  rw [upd_ne (ne_of_none q h)]
  exact e b u q
theorem Same.updN {H : Hp} {l : Addr} {o : HO} (h : H l = none) : Same H (L2.upd H l o) := fun b u q => by
  rw [upd_ne (ne_of_none q h)]
  exact q
theorem Same.seqT {K : PySem.W.Frag} {H H' : Hp} {a : Addr} {xs : List V} (e : Same H H') (h : SqT K H a xs) : SqT K H' a xs := by
  rcases h with (h | ⟨o, h⟩) | h
  · exact .inl (.inl (e _ _ h))
  · exact .inl (.inr ⟨o, e _ _ h⟩)
  · exact .inr h
end L2
/-! ### comprehensions whose elements leave all that is tracked as it is -/
namespace L2
open PySem PySem.Spec PyProof.Rows
section
variable {mp : List (Option Nat)} {te : TE} {tt : TT} {σ : St} {H : Hp} {Q : VK}
/-- [te for k in range(..)] -/
theorem comp_mapN {lo : Int} {n : Nat} (R : Nat → V → Prop) (caps : St) (hlift : liftSt mp σ = none :: caps) (hz : n ≤ sizeLine)
    (hel : ∀ i, i < n → ∀ (H' : Hp) (G : VK), Same H H' → (∀ v H'', R i v → Same H' H'' → G v H'') → te (some (.int (lo + i)) :: caps) H' G)
    (hd : ∀ l ys H', H l = none → Same H H' → H' l = some (.lst ys) → Paired R (List.range n) ys → Q (.ref l) H') : tCompK mp (gName 0) tYes te (Itr lo n) σ H Q := by
  refine comp_range (fun l i acc σ' H' => Same H H' ∧ H' l = some (.lst acc) ∧ Paired R (List.range i) acc ∧ acc.length ≤ i ∧ ∃ v, σ' = v :: caps) (fun l hl => ⟨Same.updN hl, upd_same, by simpa using Paired.nil, Nat.le_refl _, none, hlift⟩) ?_ ?_ ?_ hz
  · rintro l i acc σ' H' _ ⟨s, _, _, h, _⟩
    exact h
  · rintro l i acc σ' H' hl hi ⟨s, h1, h2, h3, v, rfl⟩
    simp only [gName, tYes, List.set_cons_zero]
    rw [if_pos trivial]
    refine hel i hi H' _ s fun v H'' r s' => ⟨s' _ _ h1, (s.trans s').upd hl, upd_same, ?_, ?_, some _, rfl⟩
    · rw [List.range_succ]
      exact h2.snoc r
    · rw [List.length_append, List.length_singleton]
      omega
  · rintro l acc σ' H' hl ⟨s, h1, h2, _⟩
    exact hd l acc H' hl s h1 h2
end
end L2
/-! ### the readings, a step at a time -/
namespace L2
open PySem PySem.Spec PyProof.Rows
section
variable {K : PySem.W.Frag} {D : Ends} {σ : St} {H : Hp} {Q : VK} {QB : Bool → Hp → Prop} {QA : List V → Hp → Prop} {t u : TS} {te ta tb tc : TE} {c d : TT} {tl : TA} {i j : Int} {k n : Nat} {v x y : V} {r r' : R2} {E : XK}
theorem r_seq (h : t { D with nx := u D } σ H) : tSeq t u D σ H := h
/-- what is wanted between two statements -/
theorem r_cut (P : St → Hp → Prop) (h1 : ∀ F : St → Hp → Prop, (∀ σ' H', P σ' H' → F σ' H') → t { D with nx := F } σ H) (h2 : ∀ σ' H', P σ' H' → u D σ' H') : tSeq t u D σ H := h1 _ h2
theorem r_asg (h : te σ H fun x H1 => D.nx (σ.set n (some x)) H1) : tAsg te (gName n) D σ H := h
theorem r_ifs (h : c σ H fun b H1 => if b = true then t D σ H1 else u D σ H1) : tIfS c t u D σ H := h
theorem r_ret (h : te σ H D.rt) : tRet te D σ H := h
theorem r_next (h : D.nx σ H) : tNext D σ H := h
theorem r_drop (h : te σ H fun _ H1 => D.nx σ H1) : tDrop te D σ H := h
theorem r_c (h : Q v H) : tC v σ H Q := h
theorem r_op (h : ta σ H fun x H1 => tb σ H1 fun y H2 => r x y H2 Q) : tOp r ta tb σ H Q := h
theorem r_un {q : V → Hp → VK → Prop} (h : ta σ H fun x H1 => q x H1 Q) : tUn q ta σ H Q := h
theorem r_neg (h : Q (.int (-i)) H) : rU (fun i => .int (-i)) (.int i) H Q := ⟨i, rfl, h⟩
theorem r_add (h : Q (.int (i + j)) H) : oAdd (.int i) (.int j) H Q := ⟨i, j, rfl, rfl, h⟩
theorem r_sub (h : Q (.int (i - j)) H) : oSub (.int i) (.int j) H Q := ⟨i, j, rfl, rfl, h⟩
theorem r_mulL (h1 : -(2 ^ 64) < i) (h2 : i < 2 ^ 64) (h : Q (.int (i * j)) H) : oMul (.int i) (.int j) H Q := ⟨i, j, rfl, rfl, .inl (.inl ⟨h1, h2⟩), h⟩
theorem r_mulR (h1 : -(2 ^ 64) < j) (h2 : j < 2 ^ 64) (h : Q (.int (i * j)) H) : oMul (.int i) (.int j) H Q := ⟨i, j, rfl, rfl, .inl (.inr ⟨h1, h2⟩), h⟩
theorem r_div (h1 : 0 < j) (h2 : j < 1073741824) (h : Q (.int (i / j)) H) : oDiv (.int i) (.int j) H Q := ⟨i, j, rfl, rfl, ⟨h1, Int.lt_trans h2 huge_big⟩, h⟩
theorem r_mod (h1 : 0 < j) (h : Q (.int (i % j)) H) : oMod (.int i) (.int j) H Q := ⟨i, j, rfl, rfl, h1, h⟩
theorem r_pow (h1 : 0 ≤ j) (h2 : j ≤ 1000000) (h3 : i.natAbs < 2 ^ 64) (h : Q (.int (i ^ j.toNat)) H) : oPow (.int i) (.int j) H Q := ⟨i, j, rfl, rfl, .inl ⟨h1, h2, h3⟩, h⟩
theorem r_lt (h : Q (.bl (decide (i < j))) H) : oLt (.int i) (.int j) H Q := ⟨i, j, rfl, rfl, h⟩
theorem r_le (h : Q (.bl (decide (i ≤ j))) H) : oLe (.int i) (.int j) H Q := ⟨i, j, rfl, rfl, h⟩
theorem r_gt (h : Q (.bl (decide (j < i))) H) : oGt (.int i) (.int j) H Q := ⟨i, j, rfl, rfl, h⟩
theorem r_ge (h : Q (.bl (decide (j ≤ i))) H) : oGe (.int i) (.int j) H Q := ⟨i, j, rfl, rfl, h⟩
theorem decInt : decide (V.int i = V.int j) = decide (i = j) := by
  by_cases h : i = j
  · subst h; simp
  · rw [decide_eq_false h, decide_eq_false fun z => h (V.int.inj z)]
theorem r_eq (h : Q (.bl (decide (i = j))) H) : rEq (.int i) (.int j) H Q := ⟨rfl, by rw [decInt]; exact h⟩
theorem r_notN (h : Q (.bl (!decide (x = .non))) H) : oNotN x .non H Q := ⟨rfl, h⟩
theorem r_test (h : te σ H fun x H' => ∃ k, x = .bl k ∧ QB k H') : tTest te σ H QB := h
theorem r_tB (h : te σ H fun x H1 => ∃ c, x = .bl c ∧ QB c H1) : tB te σ H QB := h
theorem r_bl {b : Bool} {P : Bool → Prop} (h : P b) : ∃ k, V.bl b = .bl k ∧ P k := ⟨b, rfl, h⟩
theorem r_and (h : c σ H fun b H1 => if b = true then d σ H1 QB else QB false H1) : tAnd c d σ H QB := h
theorem r_or (h : c σ H fun b H1 => if b = true then QB true H1 else d σ H1 QB) : tOr c d σ H QB := h
theorem r_not (h : c σ H fun b H1 => QB (!b) H1) : tNot c σ H QB := h
theorem r_notV (h : ta σ H fun x H1 => ∃ c, x = .bl c ∧ Q (.bl (!c)) H1) : tNotV ta σ H Q := h
theorem r_andV (h : ta σ H fun x H1 => ∃ c, x = .bl c ∧ if c = true then tb σ H1 Q else Q (.bl false) H1) : tAndV ta tb σ H Q := h
theorem r_nil (h : QA [] H) : tNil σ H QA := h
theorem r_cons (h : te σ H fun x H1 => tl σ H1 fun xs H2 => QA (x :: xs) H2) : tCons te tl σ H QA := h
theorem r_call {sp : Sp} (h : tl σ H fun vs H1 => sp vs H1 Q E) : tCall sp [] E tl σ H Q := by
  show tl σ H fun vs H1 => sp (vs ++ []) H1 Q E
  simpa only [List.append_nil] using h
theorem r_cb {q : List V → Hp → VK → Prop} (h : tl σ H fun vs H1 => q vs H1 Q) : tCB q tl σ H Q := h
theorem r_len {p : Addr} {ys : List V} (hs : SqL K H p ys) (h : Q (.int ys.length) H) : rLenL K [.ref p] H Q := ⟨p, ys, rfl, .inl hs, h⟩
theorem r_isiI {b : Bool} {nm : String} (e : PySem.W.kitOne K (.type "int") (.type nm) = some b) (h : Q (.bl b) H) : rIsi K [.int i, .ty nm] H Q := ⟨_, _, _, b, rfl, .int i, e, h⟩
theorem r_isiL {b : Bool} {p : Addr} {ys : List V} {nm : String} (hs : H p = some (.lst ys)) (e : PySem.W.kitOne K (.type "list") (.type nm) = some b) (h : Q (.bl b) H) : rIsi K [.ref p, .ty nm] H Q := ⟨_, _, _, b, rfl, .lst hs, e, h⟩
theorem r_ix {p : Addr} {xs : List V} (hs : SqL K H p xs) (ha : atI xs i = some v) (h : Q v H) : rIxL K (.ref p) (.int i) H Q := ⟨p, xs, i, v, rfl, rfl, hs, ha, h⟩
/-- a loop from here on -/
noncomputable def forGo (g : TG) (tb : TS) (D : Ends) (J : It) (σ : St) (H : Hp) : Prop := ∃ W : Nat → Nat → St → Hp → Prop, (∃ m, W 0 m σ H) ∧ ∀ i m σ H, W i m σ H →
  (J.stop i H ∧ D.nx σ H) ∨ (J.go i H ∧ ∃ N : St → Hp → Prop, (∀ σ' H', N σ' H' → ∃ m', m' < m ∧ W (i + 1) m' σ' H') ∧ ∀ x H', J.yld i H x H' → g x σ H' fun σ2 H2 => tb { D with nx := N, ct := N, bk := D.nx } σ2 H2)
theorem r_for {wi : TI} {g : TG} (h : wi σ H fun J H1 => forGo g t D J σ H1) : tFor wi g t D σ H := h
theorem r_rng1 {R : It → Hp → Prop} (h : tl σ H fun vs H1 => ∃ j : Int, vs = [.int j] ∧ -(2 ^ 62) ≤ j ∧ j < 2 ^ 62 ∧ R (Itr 0 j.toNat) H1) : iRng1 tl σ H R := h
theorem r_rng1' {P : Int → Prop} (h1 : -(2 ^ 62) ≤ i) (h2 : i < 2 ^ 62) (h : P i) : ∃ j : Int, ([.int i] : List V) = [.int j] ∧ -(2 ^ 62) ≤ j ∧ j < 2 ^ 62 ∧ P j := ⟨i, rfl, h1, h2, h⟩
theorem r_iList {R : It → Hp → Prop} (h : te σ H fun x H1 => ∃ a, x = .ref a ∧ (∃ xs, SqL K H1 a xs) ∧ R (Itl K a) H1) : iList K te σ H R := h
theorem r_iList' {P : Addr → Prop} {a : Addr} {xs : List V} (hs : SqL K H a xs) (h : P a) : ∃ b, V.ref a = .ref b ∧ (∃ xs, SqL K H b xs) ∧ P b := ⟨a, rfl, ⟨xs, hs⟩, h⟩
theorem r_sl {q : V → Option Int → Option Int → Hp → VK → Prop} {lo hi : TO} (h : te σ H fun x H1 => lo σ H1 fun l H2 => hi σ H2 fun u H3 => q x l u H3 Q) : tSl q te lo hi σ H Q := h
theorem r_part {R : Option Int → Hp → Prop} (h : te σ H fun x H1 => ∃ i, x = .int i ∧ R (some i) H1) : tPart te σ H R := h
theorem r_part' {P : Int → Prop} (h : P i) : ∃ j, V.int i = .int j ∧ P j := ⟨i, rfl, h⟩
theorem r_noPart {R : Option Int → Hp → Prop} (h : R none H) : tNoPart σ H R := h
theorem r_comp {mp : List (Option Nat)} {wi : TI} {g : TG} (h : wi σ H fun J H1 => tCompK mp g c te J σ H1 Q) : tComp mp wi g c te σ H Q := h
theorem r_bm {T : String} {q : V → List V → Hp → VK → Prop} (h : te σ H fun x H1 => tyV K T x H1 ∧ tl σ H1 fun xs H2 => q x xs H2 Q) : tBM K T q te tl σ H Q := h
theorem r_bm0 {T : String} {q : V → List V → Hp → VK → Prop} (h : te σ H fun x H1 => tyV K T x H1 ∧ q x [] H1 Q) : tBM0 K T q te σ H Q := h
theorem r_chain (h : ta σ H fun x H1 => tb σ H1 fun y H2 => r x y H2 fun z H3 => ∃ k, z = .bl k ∧ (if k = true then tc σ H3 fun w' H4 => r' y w' H4 Q else Q (.bl false) H3)) : tChain r r' ta tb tc σ H Q := h
end
end L2
namespace L2
theorem kit_ii {K : PySem.W.Frag} : PySem.W.kitOne K (.type "int") (.type "int") = some true := by rfl
theorem kit_ib {K : PySem.W.Frag} : PySem.W.kitOne K (.type "int") (.type "bool") = some false := by rfl
theorem kit_ll {K : PySem.W.Frag} : PySem.W.kitOne K (.type "list") (.type "list") = some true := by rfl
end L2
/-! ### range(a, b, c) -/
namespace L2
open PySem PySem.Spec PyProof.Rows
/-- lo, lo + step, .. (n of them) -/
noncomputable def ItrS (lo step : Int) (n : Nat) : It := ⟨fun i _ => i < n, fun i H x H' => H' = H ∧ x = .int (lo + i * step), fun i _ => n ≤ i⟩
section
variable {X : Cx} {tg : Expr}
end
theorem for_rangeS {lo step : Int} {n : Nat} {g : TG} {tb : TS} {D : Ends} {σ : St} {H : Hp} (Pv : Nat → St → Hp → Prop) (h0 : Pv 0 σ H)
    (hs : ∀ i σ H, i < n → Pv i σ H → g (.int (lo + i * step)) σ H fun σ2 H2 => tb { D with nx := Pv (i + 1), ct := Pv (i + 1), bk := D.nx } σ2 H2) (hd : ∀ σ H, Pv n σ H → D.nx σ H) : forGo g tb D (ItrS lo step n) σ H := by
  refine ⟨fun i m σ H => m = n - i ∧ i ≤ n ∧ Pv i σ H, ⟨n, by simp, Nat.zero_le _, h0⟩, ?_⟩
  rintro i m σ H ⟨rfl, hi, p⟩
  by_cases hlt : i < n
  · refine .inr ⟨hlt, Pv (i + 1), fun σ' H' p' => ⟨n - (i + 1), by omega, rfl, hlt, p'⟩, fun x H' y => ?_⟩
    obtain ⟨e, y⟩ := y
    subst e y
    exact hs i σ _ hlt p
  · have e : i = n := by omega
    subst e
    exact .inl ⟨Nat.le_refl _, hd σ H p⟩
end L2
/-! ### data as it lies: comparisons of nested lists -/
namespace L2
open PySem PySem.Spec PyProof.Rows
mutual
inductive DatIs (K : PySem.W.Frag) (H : Hp) : V → PyData → Prop
  | non : DatIs K H .non .none
  | bl (b : Bool) : DatIs K H (.bl b) (.bool b)
  | int (i : Int) : DatIs K H (.int i) (.int i)
  | str (x : Str) : DatIs K H (.str x) (.str x)
  | lst {a : Addr} {xs : List V} {ds : List PyData} : SqL K H a xs → DatAll K H xs ds → DatIs K H (.ref a) (.list ds)
  | tup {a : Addr} {xs : List V} {ds : List PyData} : SqT K H a xs → DatAll K H xs ds → DatIs K H (.ref a) (.tuple ds)
inductive DatAll (K : PySem.W.Frag) (H : Hp) : List V → List PyData → Prop
  | nil : DatAll K H [] []
  | cons {x : V} {xs : List V} {d : PyData} {ds : List PyData} : DatIs K H x d → DatAll K H xs ds → DatAll K H (x :: xs) (d :: ds)
end
section
variable {X : Cx} {pins : List (Addr × Obj)} {σ : St} {H : Hp} {s : Shared}
mutual
theorem reads_of (I : Inv X pins σ H s) : ∀ {x : V} {d : PyData} {u : Value}, DatIs X.K H x d → RelV x u → ∃ as, Reads s.heap u d as
  | _, _, _, .non, r => by cases r; exact ⟨_, .none⟩
  | _, _, _, .bl b, r => by cases r; exact ⟨_, .bool b⟩
  | _, _, _, .int i, r => by obtain ⟨t, rfl⟩ := r; exact ⟨_, .int i t⟩
  | _, _, _, .str x, r => by obtain ⟨t, rfl⟩ := r; exact ⟨_, .str x t⟩
  | _, _, _, .lst hS all, r => by
    cases r
    obtain ⟨its, rv, pl, _⟩ := I.list hS
    obtain ⟨o, ho, hc, n, hd⟩ := pl.isList
    obtain ⟨as, q⟩ := reads_all I all rv
    exact ⟨_, Reads.list ho hc hd (by simpa using q)⟩
  | _, _, _, .tup hS all, r => by
    cases r
    obtain ⟨its, rv, pl, _⟩ := I.tuple hS
    obtain ⟨o, ho, hc, n, hd⟩ := pl
    obtain ⟨as, q⟩ := reads_all I all rv
    exact ⟨_, Reads.tuple ho hc hd (by simpa using q)⟩
theorem reads_all (I : Inv X pins σ H s) : ∀ {xs : List V} {ds : List PyData} {us : List Value}, DatAll X.K H xs ds → Vals xs us → ∃ as, ReadsAll s.heap us ds as
  | _, _, _, .nil, r => by cases r; exact ⟨_, .nil⟩
  | _, _, _, .cons h t, r => by
    cases r with
    | cons r1 r2 =>
      obtain ⟨as, a⟩ := reads_of I h r1
      obtain ⟨bs, b⟩ := reads_all I t r2
      exact ⟨_, .cons a b⟩
end
end
noncomputable def rEqD (K : PySem.W.Frag) (neg : Bool) : R2 := fun x y H Q => ∃ d e, DatIs K H x d ∧ DatIs K H y e ∧ SeqAt.shaped d = true ∧ SeqAt.shaped e = true ∧ SeqAt.noMix d e = true ∧ Q (.bl (same d e != neg)) H
section
variable {X : Cx}
theorem op_eq_data (hu : X.A.units + 64 < cLine) : OpR X (compareOp .Eq) (rEqD X.K false) := by
  intro pins s σ H x y v u Q I rx ry h
  obtain ⟨d, e, h1, h2, h3, h4, h5, q⟩ := h
  obtain ⟨as, a⟩ := reads_of I h1 rx
  obtain ⟨bs, b⟩ := reads_of I h2 ry
  refine eq_dataH_same a b h3 h4 hu h5 ⟨.bl (same d e), H, I, rfl, ?_⟩
  rw [Bool.bne_false] at q
  exact q
theorem op_ne_data (hu : X.A.units + 64 < cLine) : OpR X (compareOp .NotEq) (rEqD X.K true) := by
  intro pins s σ H x y v u Q I rx ry h
  obtain ⟨d, e, h1, h2, h3, h4, h5, q⟩ := h
  obtain ⟨as, a⟩ := reads_of I h1 rx
  obtain ⟨bs, b⟩ := reads_of I h2 ry
  refine ne_dataH_same a b h3 h4 hu h5 ⟨.bl (!same d e), H, I, rfl, ?_⟩
  rw [Bool.bne_true] at q
  exact q
end
section
variable {K : PySem.W.Frag} {H : Hp} {Q : VK} {x y : V}
end
/-! ### insert -/
section
variable {X : Cx}
end
end L2

/-! ### enumerate -/
namespace L2
open PySem PySem.Spec PyProof.Rows
section
variable {X : Cx}
end
end L2
/-! ### zip; walks by their turns -/
namespace L2
open PySem PySem.Spec PyProof.Rows
section
variable {X : Cx}
end

/-- n turns; at turn i the target makes of the names f i; what is tracked stays, and more may come -/
structure Ys (J : It) (g : TG) (P : Hp → Prop) (n : Nat) (f : Nat → St → St) : Prop where
  go : ∀ i H, i < n → P H → J.go i H
  stop : ∀ H, P H → J.stop n H
  yld : ∀ i H x H' σ (Q : St → Hp → Prop), i < n → P H → J.yld i H x H' → (∀ H'', Same H H'' → Q (f i σ) H'') → g x σ H' Q
theorem ys_list {K : PySem.W.Frag} {a : Addr} {xs : List V} (p : Nat) : Ys (Itl K a) (gName p) (fun H => SqL K H a xs) xs.length (fun i σ => σ.set p (some (xs.getD i .non))) where
  go := fun i H hi h => ⟨xs, xs[i], h, by simp [hi]⟩
  stop := fun H h => ⟨xs, h, Nat.le_refl _⟩
  yld := fun i H x H' σ Q hi h y q => by
    obtain ⟨e, y⟩ := y
    subst e
    have e : xs.getD i .non = x := by simp [List.getD, y xs h]
    have := q _ (Same.refl _)
    rw [e] at this
    exact this
theorem ys_range {lo : Int} {n : Nat} (p : Nat) : Ys (Itr lo n) (gName p) (fun _ => True) n (fun i σ => σ.set p (some (.int (lo + i)))) where
  go := fun i H hi _ => hi
  stop := fun H _ => Nat.le_refl _
  yld := fun i H x H' σ Q hi _ y q => by
    obtain ⟨e, y⟩ := y
    subst e y
    exact q _ (Same.refl _)
theorem ys_list2 {K : PySem.W.Frag} {a : Addr} {ts : List Addr} {u v : Nat → V} (p r : Nat) :
    Ys (Itl K a) (gTup K 2 (gCons (gName p) (gCons (gName r) gNil))) (fun H => SqL K H a (ts.map V.ref) ∧ ∀ i b, ts[i]? = some b → SqT K H b [u i, v i]) ts.length (fun i σ => (σ.set p (some (u i))).set r (some (v i))) where
  go := fun i H hi h => ⟨_, .ref ts[i], h.1, by simp [hi]⟩
  stop := fun H h => ⟨_, h.1, by simp⟩
  yld := fun i H x H' σ Q hi h y q => by
    obtain ⟨e, y⟩ := y
    subst e
    have e : x = .ref ts[i] := by
      have := y _ h.1
      simp [hi] at this
      exact this.symm
    subst e
    exact ⟨ts[i], _, rfl, h.2 i _ (by simp [hi]), rfl, _, _, rfl, _, _, rfl, rfl, q _ (Same.refl _)⟩
theorem for_ys {J : It} {g : TG} {P : Hp → Prop} {n : Nat} {f : Nat → St → St} {tb : TS} {D : Ends} {σ : St} {H : Hp} (Y : Ys J g P n f) (Pv : Nat → St → Hp → Prop) (h0 : Pv 0 σ H) (hP : ∀ i σ H, Pv i σ H → P H)
    (hs : ∀ i σ H H', i < n → Pv i σ H → Same H H' → tb { D with nx := Pv (i + 1), ct := Pv (i + 1), bk := D.nx } (f i σ) H') (hd : ∀ σ H, Pv n σ H → D.nx σ H) : forGo g tb D J σ H := by
  refine ⟨fun i m σ H => m = n - i ∧ i ≤ n ∧ Pv i σ H, ⟨n, by simp, Nat.zero_le _, h0⟩, ?_⟩
  rintro i m σ H ⟨rfl, hi, p⟩
  by_cases hlt : i < n
  · exact .inr ⟨Y.go i H hlt (hP _ _ _ p), Pv (i + 1), fun σ' H' p' => ⟨n - (i + 1), by omega, rfl, hlt, p'⟩, fun x H' y => Y.yld i H x H' σ _ hlt (hP _ _ _ p) y fun H'' s => hs i σ H H'' hlt p s⟩
  · have e : i = n := by omega
    subst e
    exact .inl ⟨Y.stop H (hP _ _ _ p), hd σ H p⟩
section
variable {mp : List (Option Nat)} {g : TG} {tt : TT} {te : TE} {J : It} {P : Hp → Prop} {n : Nat} {f : Nat → St → St} {σ : St} {H : Hp} {Q : VK}
/-- all but what lies at l -/
noncomputable def SameX (l : Addr) (H H' : Hp) : Prop := ∀ b o, b ≠ l → H b = some o → H' b = some o
theorem Same.x {H H' : Hp} (s : Same H H') (l : Addr) : SameX l H H' := fun b o _ h => s b o h
theorem sameX_upd {H : Hp} {l : Addr} {o : HO} : SameX l H (upd H l o) := fun b u hb h => by rw [upd_ne hb]; exact h
/-- [te for .. in .. if tt]: fv i: the turn comes in; R: what its value is worth -/
theorem comp_genY (Y : Ys J g P n f) (st : Nat → St) (hf : ∀ i σ', (σ' = liftSt mp σ ∨ ∃ j, σ' = st j) → f i σ' = st i) (hP : ∀ H', Same H H' → P H') (hz : n ≤ sizeLine) (b : Nat → Bool) (R : Addr → Nat → V → Hp → Prop)
    (hR : ∀ l i v H1 H2, SameX l H1 H2 → R l i v H1 → R l i v H2)
    (ht : ∀ i, i < n → ∀ (H' : Hp) (G : Bool → Hp → Prop), Same H H' → (∀ H'', Same H' H'' → G (b i) H'') → tt (st i) H' G)
    (he : ∀ l i, i < n → b i = true → ∀ (H' : Hp) (G : VK), H l = none → (∃ o, H' l = some o) → Same H H' → (∀ v H'', R l i v H'' → Same H' H'' → G v H'') → te (st i) H' G)
    (hd : ∀ l ys H', H l = none → Same H H' → H' l = some (.lst ys) → Paired (fun i v => R l i v H') ((List.range n).filter b) ys → Q (.ref l) H') : tCompK mp g tt te J σ H Q := by
  intro l hl
  refine ⟨fun i m acc σ' H' => m = n - i ∧ i ≤ n ∧ acc.length ≤ i ∧ Same H H' ∧ H' l = some (.lst acc) ∧ Paired (fun i v => R l i v H') ((List.range i).filter b) acc ∧ (σ' = liftSt mp σ ∨ ∃ j, σ' = st j),
    ⟨n, by simp, Nat.zero_le _, Nat.le_refl _, Same.updN hl, upd_same, .nil, .inl rfl⟩, ?_⟩
  rintro i m acc σ' H' ⟨rfl, hi, ha, s, h1, h2, hσ⟩
  by_cases hlt : i < n
  · refine .inr ⟨Y.go i H' hlt (hP _ s), by omega, fun acc' σ2 H2 => i + 1 ≤ n ∧ acc'.length ≤ i + 1 ∧ Same H H2 ∧ H2 l = some (.lst acc') ∧ Paired (fun i v => R l i v H2) ((List.range (i + 1)).filter b) acc' ∧ (σ2 = liftSt mp σ ∨ ∃ j, σ2 = st j), fun acc' σ2 H2 p' => ⟨n - (i + 1), by omega, rfl, p'⟩, fun x H2 y => ?_⟩
    refine Y.yld i H' x H2 σ' _ hlt (hP _ s) y fun H3 s3 => ?_
    rw [hf i σ' hσ]
    refine ht i hlt H3 _ (s.trans s3) fun H4 s4 => ?_
    have s34 := s3.trans s4
    cases hb : b i with
    | false =>
      refine iteF ⟨hlt, by omega, s.trans s34, s34 _ _ h1, ?_, .inr ⟨i, rfl⟩⟩
      rw [List.range_succ, List.filter_append, List.filter_cons, hb]
      simp only [Bool.false_eq_true, if_false, List.filter_nil, List.append_nil]
      exact Paired.mapP h2 fun j v r => hR l j v _ _ (s34.x l) r
    | true =>
      refine iteT ?_
      refine he l i hlt hb H4 _ hl ⟨_, s34 _ _ h1⟩ (s.trans s34) fun v H5 r s5 => ?_
      have s35 := s34.trans s5
      refine ⟨s35 _ _ h1, hlt, ?_, (s.trans s35).upd hl, upd_same, ?_, .inr ⟨i, rfl⟩⟩
      · rw [List.length_append, List.length_singleton]; omega
      · rw [List.range_succ, List.filter_append, List.filter_cons, hb]
        simp only [if_true, List.filter_nil]
        exact (Paired.mapP h2 fun j v r => hR l j v _ _ sameX_upd (hR l j v _ _ (s35.x l) r)).snoc (hR l i v _ _ sameX_upd r)
  · have e : i = n := by omega
    subst e
    exact .inl ⟨Y.stop H' (hP _ s), hd l acc H' hl s h1 h2⟩
theorem paired_map {α : Type} {F : α → V} : ∀ {xs : List α} {ys : List V}, Paired (fun x v => v = F x) xs ys → ys = xs.map F
  | _, _, .nil => rfl
  | _, _, .cons e t => by rw [e, paired_map t]; rfl
/-- each value is F i -/
theorem comp_mapY (Y : Ys J g P n f) (st : Nat → St) (hf : ∀ i σ', (σ' = liftSt mp σ ∨ ∃ j, σ' = st j) → f i σ' = st i) (hP : ∀ H', Same H H' → P H') (hz : n ≤ sizeLine) (F : Nat → V)
    (he : ∀ i, i < n → ∀ (H' : Hp) (G : VK), Same H H' → (∀ H'', Same H' H'' → G (F i) H'') → te (st i) H' G)
    (hd : ∀ l H', H l = none → Same H H' → H' l = some (.lst ((List.range n).map F)) → Q (.ref l) H') : tCompK mp g tYes te J σ H Q := by
  refine comp_genY Y st hf hP hz (fun _ => true) (fun _ i v _ => v = F i) (fun _ _ _ _ _ _ h => h) (fun i hi H' G s k => k H' (Same.refl _)) (fun l i hi _ H' G _ _ s k => he i hi H' G s fun H'' s' => k _ H'' rfl s') fun l ys H' h0 s h1 pr => ?_
  have e := paired_map pr
  rw [List.filter_eq_self.mpr (fun _ _ => rfl)] at e
  subst e
  exact hd l H' h0 s h1
/-- .. where b i -/
theorem comp_filtY (Y : Ys J g P n f) (st : Nat → St) (hf : ∀ i σ', (σ' = liftSt mp σ ∨ ∃ j, σ' = st j) → f i σ' = st i) (hP : ∀ H', Same H H' → P H') (hz : n ≤ sizeLine) (b : Nat → Bool) (F : Nat → V)
    (ht : ∀ i, i < n → ∀ (H' : Hp) (G : Bool → Hp → Prop), Same H H' → (∀ H'', Same H' H'' → G (b i) H'') → tt (st i) H' G)
    (he : ∀ i, i < n → b i = true → ∀ (H' : Hp) (G : VK), Same H H' → (∀ H'', Same H' H'' → G (F i) H'') → te (st i) H' G)
    (hd : ∀ l H', H l = none → Same H H' → H' l = some (.lst (((List.range n).filter b).map F)) → Q (.ref l) H') : tCompK mp g tt te J σ H Q := by
  refine comp_genY Y st hf hP hz b (fun _ i v _ => v = F i) (fun _ _ _ _ _ _ h => h) ht (fun l i hi hb H' G _ _ s k => he i hi hb H' G s fun H'' s' => k _ H'' rfl s') fun l ys H' h0 s h1 pr => ?_
  have e := paired_map pr
  subst e
  exact hd l H' h0 s h1
theorem paired_refs {T : Addr → Nat → Prop} : ∀ {is : List Nat} {ys : List V}, Paired (fun i v => ∃ b, v = .ref b ∧ T b i) is ys → ∃ bs : List Addr, ys = bs.map V.ref ∧ Paired (fun i b => T b i) is bs
  | _, _, .nil => ⟨[], rfl, .nil⟩
  | _, _, .cons ⟨b, e, h⟩ t => by
    obtain ⟨bs, e', p⟩ := paired_refs t
    exact ⟨b :: bs, by rw [e, e']; rfl, .cons h p⟩
end
/-! ### list(reversed(xs)) -/
/-! ### ints in a list of ints -/
section
variable {K : PySem.W.Frag} {H : Hp} {Q : VK}
theorem r_all {p : Addr} {bs : List Bool} (hs : SqL K H p (bs.map V.bl)) (h : Q (.bl (bs.all id)) H) : rAll K [.ref p] H Q := ⟨p, bs, rfl, hs, h⟩
end
/-! ### rows of ints -/
end L2
/-! ### list(reversed(xs)) -/
namespace L2
open PySem PySem.Spec PyProof.Rows
section
variable {prog : Program} {w : World} {A : Around} {E : Value → Shared → Prop} {s : Shared}
end
end L2
/-! ### what is new by its facts -/
namespace L2
open PySem PySem.Spec PyProof.Rows
section
variable {K : PySem.W.Frag} {D : Ends} {σ : St} {H : Hp} {Q : VK} {te ta tb : TE} {tl : TA} {xs : List V} {i j : Int}
noncomputable def newL (xs : List V) (H : Hp) (Q : VK) : Prop := xs.length ≤ sizeLine ∧ ∀ p, H p = none → Q (.ref p) (upd H p (.lst xs))
noncomputable def newT (xs : List V) (H : Hp) (Q : VK) : Prop := xs.length ≤ sizeLine ∧ ∀ p, H p = none → Q (.ref p) (upd H p (.tup xs))
theorem r_lstN (h : tl σ H fun xs H1 => newL xs H1 Q) : tLst tl σ H Q := h
theorem r_tupN (h : tl σ H fun xs H1 => newT xs H1 Q) : tTup tl σ H Q := h
theorem r_newL (hz : xs.length ≤ sizeLine) (h : ∀ p H2, H p = none → Same H H2 → H2 p = some (.lst xs) → Q (.ref p) H2) : newL xs H Q := ⟨hz, fun p hp => h p _ hp (Same.updN hp) upd_same⟩
theorem r_newT (hz : xs.length ≤ sizeLine) (h : ∀ p H2, H p = none → Same H H2 → H2 p = some (.tup xs) → Q (.ref p) H2) : newT xs H Q := ⟨hz, fun p hp => h p _ hp (Same.updN hp) upd_same⟩
theorem r_slLN {a : Addr} {lo hi : Option Int} (hs : SqL K H a xs) (h : ∀ p H2, H p = none → Same H H2 → H2 p = some (.lst (cutV xs lo hi)) → Q (.ref p) H2) : rSlL K (.ref a) lo hi H Q := ⟨a, xs, rfl, hs, fun p hp => h p _ hp (Same.updN hp) upd_same⟩
theorem r_catN {l b : Addr} {ys : List V} (h1 : H l = some (.lst xs)) (h2 : H b = some (.lst ys)) (hz : xs.length + ys.length ≤ sizeLine) (h : ∀ p H2, H p = none → Same H H2 → H2 p = some (.lst (xs ++ ys)) → Q (.ref p) H2) : rCat (.ref l) (.ref b) H Q :=
  ⟨l, b, xs, ys, rfl, rfl, h1, h2, hz, fun p hp => h p _ hp (Same.updN hp) upd_same⟩
theorem r_appendN {l : Addr} {y : V} (hp : H l = some (.lst xs)) (hz : xs.length < sizeLine) (h : Q .non (upd H l (.lst (xs ++ [y])))) : rAppend (.ref l) [y] H Q := ⟨l, xs, y, rfl, rfl, hp, hz, h⟩
theorem tyL {p : Addr} (hp : H p = some (.lst xs)) : tyV K "list" (.ref p) H := .inl ⟨rfl, _, SqL.of hp⟩
end
section
variable {A B : Prop} {c : Prop} [Decidable c]
theorem iteN (hc : ¬ c) (h : B) : if decide c = true then A else B := by rw [decide_eq_false hc]; exact iteF h
theorem iteNT (h : B) : if (!true) = true then A else B := iteF h
theorem iteNF (h : A) : if (!false) = true then A else B := iteT h
theorem iteD (h1 : c → A) (h2 : ¬ c → B) : if decide c = true then A else B := ite2 (fun h => h1 (of_decide_eq_true h)) (fun h => h2 fun z => h (decide_eq_true z))
end
theorem cut_take (ns : List Int) (m : Nat) : cutV (ns.map V.int) none (some (m : Int)) = (ns.take m).map V.int := by
  unfold cutV
  rw [HT.sIx_none, HT.sIx_nat, List.length_map, Nat.sub_zero, List.drop_zero, List.map_take]
  rcases Nat.le_total m ns.length with h | h
  · rw [Nat.min_eq_left h]
  · rw [Nat.min_eq_right h, List.take_of_length_le (by simp), List.take_of_length_le (by simpa using h)]
theorem line64 : (1000 : Nat) ≤ sizeLine := Nat.le_of_lt (small1000 (Nat.le_refl _))
end L2
/-! ### data without truths and dicts: any two of them may be compared -/
namespace L2
open PySem PySem.Spec PyProof.Rows
mutual
noncomputable def nice : PyData → Bool
  | .none => true
  | .bool _ => false
  | .int _ => true
  | .str x => PyData.strOk x
  | .list xs => niceAll xs
  | .tuple xs => niceAll xs
  | .dict _ => false
noncomputable def niceAll : List PyData → Bool
  | [] => true
  | x :: xs => nice x && niceAll xs
end
mutual
theorem nice_lay : ∀ d : PyData, nice d = true → d.canLay0 = true
  | .none, _ => by simp [PyData.canLay0]
  | .bool _, h => by simp [nice] at h
  | .int _, _ => by simp [PyData.canLay0]
  | .str x, h => by rw [PyData.canLay0]; rw [nice] at h; exact h
  | .list xs, h => by rw [PyData.canLay0]; exact nice_layAll xs (by rw [nice] at h; exact h)
  | .tuple xs, h => by rw [PyData.canLay0]; exact nice_layAll xs (by rw [nice] at h; exact h)
  | .dict _, h => by simp [nice] at h
theorem nice_layAll : ∀ ds : List PyData, niceAll ds = true → PyData.canLayAll0 ds = true
  | [], _ => by simp [PyData.canLayAll0]
  | x :: xs, h => by
    rw [niceAll, Bool.and_eq_true] at h
    rw [PyData.canLayAll0, nice_lay x h.1, nice_layAll xs h.2]
    rfl
end
mutual
theorem nice_mix : ∀ d e : PyData, nice d = true → nice e = true → SeqAt.noMix d e = true
  | .list xs, .list ys, h, h' => by rw [SeqAt.noMix]; exact nice_mixAll xs ys (by rw [nice] at h; exact h) (by rw [nice] at h'; exact h')
  | .tuple xs, .tuple ys, h, h' => by rw [SeqAt.noMix]; exact nice_mixAll xs ys (by rw [nice] at h; exact h) (by rw [nice] at h'; exact h')
  | .bool _, _, h, _ => by simp [nice] at h
  | .dict _, _, h, _ => by simp [nice] at h
  | .none, .none, _, _ | .none, .int _, _, _ | .none, .str _, _, _ | .none, .list _, _, _ | .none, .tuple _, _, _ => by simp [SeqAt.noMix]
  | .int _, .none, _, _ | .int _, .int _, _, _ | .int _, .str _, _, _ | .int _, .list _, _, _ | .int _, .tuple _, _, _ => by simp [SeqAt.noMix]
  | .str _, .none, _, _ | .str _, .int _, _, _ | .str _, .str _, _, _ | .str _, .list _, _, _ | .str _, .tuple _, _, _ => by simp [SeqAt.noMix]
  | .none, .bool _, _, h' | .none, .dict _, _, h' | .int _, .bool _, _, h' | .int _, .dict _, _, h' | .str _, .bool _, _, h' | .str _, .dict _, _, h' => by simp [nice] at h'
  | .list _, .none, _, _ | .list _, .int _, _, _ | .list _, .str _, _, _ | .list _, .tuple _, _, _ => by simp [SeqAt.noMix]
  | .list _, .bool _, _, h' | .list _, .dict _, _, h' => by simp [nice] at h'
  | .tuple _, .none, _, _ | .tuple _, .int _, _, _ | .tuple _, .str _, _, _ | .tuple _, .list _, _, _ => by simp [SeqAt.noMix]
  | .tuple _, .bool _, _, h' | .tuple _, .dict _, _, h' => by simp [nice] at h'
theorem nice_mixAll : ∀ ds es : List PyData, niceAll ds = true → niceAll es = true → SeqAt.noMixAll ds es = true
  | [], [], _, _ => by simp [SeqAt.noMixAll]
  | [], _ :: _, _, _ => by simp [SeqAt.noMixAll]
  | _ :: _, [], _, _ => by simp [SeqAt.noMixAll]
  | x :: xs, y :: ys, h, h' => by
    rw [niceAll, Bool.and_eq_true] at h h'
    rw [SeqAt.noMixAll, nice_mix x y h.1 h'.1, nice_mixAll xs ys h.2 h'.2]
    rfl
end
/-- nice, and at most n deep -/
noncomputable def niceD (n : Nat) (d : PyData) : Prop := nice d = true ∧ d.depth ≤ n
theorem niceD.shaped {n : Nat} {d : PyData} (h : niceD n d) (hn : n ≤ 64) : SeqAt.shaped d = true := by
  unfold SeqAt.shaped
  rw [nice_lay d h.1, decide_eq_true (show d.depth ≤ 64 by have := h.2; omega)]
  rfl
theorem niceD.mono {n m : Nat} {d : PyData} (h : niceD n d) (hm : n ≤ m) : niceD m d := ⟨h.1, Nat.le_trans h.2 hm⟩
theorem nd_all {n : Nat} : ∀ {ds : List PyData}, (∀ d ∈ ds, niceD n d) → niceAll ds = true ∧ PyData.depthAll ds ≤ n
  | [], _ => by simp [niceAll, PyData.depthAll]
  | x :: xs, h => by
    obtain ⟨h1, h2⟩ := h x List.mem_cons_self
    obtain ⟨h3, h4⟩ := nd_all fun y hy => h y (List.mem_cons_of_mem _ hy)
    rw [niceAll, h1, h3, PyData.depthAll]
    exact ⟨rfl, by omega⟩
theorem nd_list {n : Nat} {ds : List PyData} (h : ∀ d ∈ ds, niceD n d) : niceD (n + 1) (.list ds) := by
  obtain ⟨h1, h2⟩ := nd_all h
  exact ⟨by rw [nice]; exact h1, by rw [PyData.depth]; omega⟩
theorem nd_tuple {n : Nat} {ds : List PyData} (h : ∀ d ∈ ds, niceD n d) : niceD (n + 1) (.tuple ds) := by
  obtain ⟨h1, h2⟩ := nd_all h
  exact ⟨by rw [nice]; exact h1, by rw [PyData.depth]; omega⟩
theorem nd_int {n : Nat} (i : Int) : niceD n (.int i) := ⟨by simp [nice], by simp [PyData.depth]⟩
theorem same_ff {d e : PyData} (h : d ≠ e) : same d e = false := by
  cases z : same d e with
  | false => rfl
  | true => exact absurd (same_iff.mp z) h
section
variable {K : PySem.W.Frag} {H : Hp} {Q : VK} {x y : V} {d e : PyData} {n : Nat}
theorem r_eqDD (h1 : DatIs K H x d) (h2 : DatIs K H y e) (hd : niceD n d) (he : niceD n e) (hn : n ≤ 64) (h : Q (.bl (same d e)) H) : rEqD K false x y H Q :=
  ⟨d, e, h1, h2, hd.shaped hn, he.shaped hn, nice_mix d e hd.1 he.1, by rw [Bool.bne_false]; exact h⟩
theorem r_neDD (h1 : DatIs K H x d) (h2 : DatIs K H y e) (hd : niceD n d) (he : niceD n e) (hn : n ≤ 64) (h : Q (.bl (!same d e)) H) : rEqD K true x y H Q :=
  ⟨d, e, h1, h2, hd.shaped hn, he.shaped hn, nice_mix d e hd.1 he.1, by rw [Bool.bne_true]; exact h⟩
/-- both are the same -/
theorem r_eqS (h1 : DatIs K H x d) (h2 : DatIs K H y d) (hd : niceD n d) (hn : n ≤ 64) (h : Q (.bl true) H) : rEqD K false x y H Q := r_eqDD h1 h2 hd hd hn (by rw [same_self]; exact h)
theorem r_neS (h1 : DatIs K H x d) (h2 : DatIs K H y d) (hd : niceD n d) (hn : n ≤ 64) (h : Q (.bl false) H) : rEqD K true x y H Q := r_neDD h1 h2 hd hd hn (by rw [same_self]; exact h)
end
/-! ### xs[::-1] -/
section
variable {X : Cx}
end
end L2
/-! ### list.index of an int that is there -/
namespace L2
open PySem PySem.Spec PyProof.Rows
section
variable {X : Cx}
end
end L2
/-! ### dead ends; tuples walked; the list of a range; zip of three -/
namespace L2
open PySem PySem.Spec PyProof.Rows
section
variable {X : Cx}
noncomputable def tDead : TS := fun _ _ _ => False
theorem ps_dead {st : Stmt} : PS X st tDead := fun _ _ _ _ _ _ h => h.elim
end
end L2
/-! ### zip of three lists -/
namespace L2
open PySem PySem.Spec PyProof.Rows
section
variable {prog : Program} {w : World} {A : Around} {E : Value → Shared → Prop} {s : Shared}
end
section
variable {prog : Program} {w : World} {A : Around} {E : Value → Shared → Prop} {s : Shared}
end
section
variable {X : Cx}
end
end L2
/-! ### min of a list of tuples of whole numbers: one of them -/
namespace L2
open PySem PySem.Spec PyProof.Rows
section
variable {prog : Program} {w : World} {A : Around} {R : Result → Shared → Prop} {I : Addr} {fp wr : List Addr} {n : Nat} {P : Nat → Value → Prop} {St : Nat → Heap → Prop}
end
section
variable {prog : Program} {w : World} {A : Around} {E : Value → Shared → Prop} {s : Shared}
end
section
variable {X : Cx}
end
end L2
/-! ### defs by name, their promises -/
namespace L2
open PySem PySem.Spec PyProof.Rows
/-- a def of the text may be called by its name, with this promise -/
structure Cal (P : Program) (w : World) (K : PySem.W.Frag) (mg : Str → Option Value) (base : Heap) (k : Nat) (x : Str) (ps : List Str) (sp : Sp) : Prop where
  ex : ∃ a fd, mg x = some (.ref a) ∧ PySem.W.keepIn K (.ref a) = true ∧ Binds K fd ps [] ∧ FnOk P w K mg base CX0 k a fd ps sp
/-- a def of the text stands under its name -/
structure FunIn (K : PySem.W.Frag) (mg : Str → Option Value) (x : Str) (st : Stmt) (ps : List Str) : Prop where
  ex : ∃ a fd, mg x = some (.ref a) ∧ Fun K x x st a fd ∧ ∀ us : List Value, us.length = ps.length → bindArgs fd ⟨us, []⟩ = pure (ps.zip us)
section
variable {P : Program} {w : World} {K : PySem.W.Frag} {mg : Str → Option Value} {base : Heap}
theorem FunIn.cal {x : Str} {st : Stmt} {ps N : List Str} {rd : TS} {k : Nat} {sp : Sp} (F : FunIn K mg x st ps) (S : FnScope N ps (defScope st)) (len : ∀ vs H Q E, sp vs H Q E → vs.length = ps.length)
    (hb : ∀ (f : Addr) (cdv : Value) (A : Around) (outer : List Env) (s : Shared) (H : Hp) (E : XK), Room k (A.deeper (envOfC x (defScope st) s.heap.objs.size f cdv)) → PSs (cxOf CX0 P w K mg base N x (defScope st) f cdv A outer s H E).nox (defBody st) rd)
    (hr : ∀ vs H Q E, sp vs H Q E → rd { nx := fun _ H' => Q .non H', rt := Q } (start N vs) H) : Cal P w K mg base (k + 1) x ps sp := by
  obtain ⟨a, fd, hm, hF, hbd⟩ := F.ex
  exact ⟨a, fd, hm, hF.kp, .all hbd, hF.ok S len fun cdv A outer s H vs Q E room h => ⟨rd, hb a cdv A outer s H E room, hr vs H Q E h⟩⟩
/-- the law's own def, at the address that the head gives -/
theorem FunIn.law {x : Str} {st : Stmt} {N : List Str} {y : Str} {rd : TS} {k : Nat} {sp : Sp} {fa : Addr} (F : FunIn K mg x st [y]) (hfa : mg x = some (.ref fa)) (S : FnScope N [y] (defScope st)) (len : ∀ vs H Q E, sp vs H Q E → vs.length = 1)
    (hb : ∀ (base : Heap) (f : Addr) (cdv : Value) (A : Around) (outer : List Env) (s : Shared) (H : Hp) (E : XK), Room k (A.deeper (envOfC x (defScope st) s.heap.objs.size f cdv)) → PSs (cxOf CX0 P w K mg base N x (defScope st) f cdv A outer s H E).nox (defBody st) rd)
    (hr : ∀ vs H Q E, sp vs H Q E → rd { nx := fun _ H' => Q .non H', rt := Q } (start N vs) H) :
    ∃ fd : FuncData, (∀ (s : Shared) (u : Value), BindsTo s fd ⟨[u], []⟩ [(y, u)]) ∧ ∀ base : Heap, FnOk P w K mg base CX0 (k + 1) fa fd [y] sp := by
  obtain ⟨a, fd, hm, hF, hbd⟩ := F.ex
  have e := hfa.symm.trans hm
  cases e
  exact ⟨fd, fun s u => .of_eq (hbd [u] rfl), fun base => hF.ok S len fun cdv A outer s H vs Q E room h => ⟨rd, hb base fa cdv A outer s H E room, hr vs H Q E h⟩⟩
theorem fun_in {h : Heap} {x : Str} {st : Stmt} {ps : List Str} {f : Addr} {oc : Value} {od an : Option Addr} {osl : Array (Option Value)} {kV doc pm cdv ct : Value} (X : K.In h) (G : h.Ns mainGlobals mg)
    (a4 : PySem.W.nsIn K mainGlobals x = some (some (.ref f))) (l4 : K.lookup f = some ⟨oc, od, .func (PySem.W.fnOf x x (defArgs st) (defBody st) (defScope st) .none kV doc pm an cdv ct), osl⟩)
    (c4 : PySem.W.codeIn K cdv x = true) (k4 : PySem.W.keepIn K (.ref f) = true)
    (hb : ∀ (kV doc pm : Value) (an : Option Addr) (cdv ct : Value) (us : List Value), us.length = ps.length → bindArgs (PySem.W.fnOf x x (defArgs st) (defBody st) (defScope st) .none kV doc pm an cdv ct) ⟨us, []⟩ = pure (ps.zip us)) : FunIn K mg x st ps :=
  ⟨f, _, PySem.W.mg_of X G a4, fun_mk l4 c4 k4, hb kV doc pm an cdv ct⟩
end
section
variable {X : Cx} {k : Nat} {ps : List Str} {sp : Sp} {x : Str} {p pos : Pos} {e : Expr} {es : List Expr} {t : TA}
/-- f(e, ..) -/
theorem pe_cal (C : Cal X.prog X.w X.K X.mg X.base k x ps sp) (hr : Room k X.A) (ha : PA X (e :: es) t) (hg : Gl X x := by rfl) (hdb : (x == ("__debug__" : Str)) = false := by decide)
    (he : starEach (e :: es) X.env = (false, eval e X.env) :: starEach es X.env := by rfl) (hpl : (backTo pos (starEach es X.env)).any (·.1) = false := by rfl) : PE X (.Call (.Name x p) (e :: es) [] pos) (tCall sp [] E0 t) := by
  obtain ⟨a, fd, hm, hk, hb, F⟩ := C.ex
  exact pe_call F hr hg hm hk hb .nil pass0 ha hdb he hpl
/-- len of a list -/
theorem mg_name {K : PySem.W.Frag} {mg : Str → Option Value} {h : Heap} {x : Str} (X : K.In h) (G : h.Ns mainGlobals mg) (z : PySem.W.nsIn K mainGlobals x = some none) : mg x = none := PySem.W.mg_none_of X G z
end
/-- a promise: so many arguments, and R -/
noncomputable def spOf (n : Nat) (R : List V → Hp → VK → Prop) : Sp := fun vs H Q _ => vs.length = n ∧ R vs H Q
theorem spOf_len {n : Nat} {R : List V → Hp → VK → Prop} {m : Nat} (e : n = m) : ∀ vs H Q E, spOf n R vs H Q E → vs.length = m := fun _ _ _ _ h => h.1.trans e
/-- law's promise: a list of at most 63 ints is handed in, True comes out -/
noncomputable def sp_law (K : PySem.W.Frag) : Sp := spOf 1 fun vs H Q => ∃ (a : Addr) (ns : List Int), vs = [.ref a] ∧ SqL K H a (ns.map V.int) ∧ ns.length ≤ 63 ∧ ∀ H', Q (.bl true) H'
theorem walk_law {l : PySem.W.OpenLaw} {k : Nat} {q : Program} {loose : List Str} {XP : (Str → Option Value) → Heap → Prop} {YP : World → Heap → Prop} {d : DefRec} {K : Params → PySem.W.Frag} (hn : l.most = some 63) (hdf : d.params.defaults = []) (hr : Room k callerA)
    (hY : ∀ (w : World) (h : Heap), YP w h → (K w.params).In h)
    (F : ∀ (w : World) (mg : Str → Option Value) (fa : Addr) (h : Heap), (K w.params).In h → h.Ns mainGlobals mg → mg d.name = some (.ref fa) →
      ∃ fd : FuncData, (∀ (s : Shared) (u : Value), BindsTo s fd ⟨[u], []⟩ [("script", u)]) ∧ ∀ base : Heap, FnOk l.prog w (K w.params) mg base CX0 k fa fd ["script"] (sp_law (K w.params))) :
    PySem.W.WalkO q loose XP YP l.row.toRowW d [] (fun f vs => PySem.call f vs) :=
  walk_of (n := 63) (k := k) (x := "script") (CX := fun _ => CX0) (sp := fun w => sp_law (K w.params)) hn (by decide) hdf hr hY
    (fun w mg fa h KX G e => let ⟨fd, h1, h2⟩ := F w mg fa h KX G e; ⟨fd, h1, fun base _ _ => h2 base⟩) (fun _ _ a ns hl _ hS => ⟨rfl, a, ns, rfl, hS, hl, fun _ => rfl⟩) fun _ _ _ _ _ z => z
end L2

/-! ### exceptions that leave a def: what the leaving changes -/
namespace L2
open PySem PySem.Spec PyProof.Rows
section
variable {M : Model} {A : Around} {E : Value → Shared → Prop} {s : Shared}
end
section
variable {X : Cx} {pins : List (Addr × Obj)} {σ : St} {H : Hp} {s : Shared} {h' : Heap}
end
section
variable {X : Cx} {pins : List (Addr × Obj)} {σ : St} {H H' : Hp} {s : Shared} {ch : List Addr}
end
section
variable {P : Program} {w : World} {K : PySem.W.Frag} {mg : Str → Option Value} {base : Heap} {N : List Str} {qual : Str} {scope : Scope} {f : Addr} {cd : Value} {A : Around} {outer : List Env} {s0 s : Shared} {H0 H : Hp} {E : XK} {pins : List (Addr × Obj)} {σ : St}
end
/-! ### caught -/
section
variable {M : Model} {A : Around} {E : Value → Shared → Prop} {s : Shared}
end
section
variable {X : Cx} {pins : List (Addr × Obj)} {σ : St} {H : Hp} {s : Shared}
end
/-! ### try: one call, caught by one clause with a name -/
section
variable {X : Cx} {k : Nat} {f : Addr} {fd : FuncData} {ps : List Str} {sp : Sp} {dvs : List V} {ds : List Value} {E : XK} {x : Str} {p pos : Pos} {e : Expr} {es : List Expr} {t : TA}
end
section
variable {X : Cx} {x n : Str} {C : Value} {i : Nat} {t : XK → TE} {tb : TS} {e : Expr} {b₀ : Stmt} {suite : List Stmt} {pos epos hpos np : Pos}
end
/-! ### isinstance of an exception -/
section
open PySem.W
section
variable {prog : Program} {w : World} {A : Around} {E : Value → Shared → Prop} {h : Heap} {g : Array GenState} {d : Drawn} {t : Nat} {os : OsState} {a C : Addr} {o : Obj} {K : Frag}
end
section
variable {X : Cx} {pins : List (Addr × Obj)} {σ : St} {H : Hp} {s : Shared} {A : Around} {E : Value → Shared → Prop} {Q : Value → Shared → Prop} {c : Value} {b : Bool}
end
end
/-! ### raise -/
section
variable {P : Program} {w : World} {K : PySem.W.Frag} {mg : Str → Option Value} {base : Heap} {N : List Str} {qual : Str} {scope : Scope} {f C : Addr} {cd : Value} {A : Around} {outer : List Env} {s0 : Shared} {H0 : Hp} {E : XK} {x : Str} {np cpos pos : Pos} {e : Expr} {es : List Expr} {t : TA} {B Bn newId nid initId inN : String} {bm bmN : List Value}
end
/-! ### isinstance(e, C), isinstance(e, (C, D)), f-strings -/
section
variable {X : Cx}
end
/-! ### defs that may raise, by name -/
section
variable {P : Program} {w : World} {K : PySem.W.Frag} {mg : Str → Option Value} {base : Heap}
end
section
variable {X : Cx} {k : Nat} {ps : List Str} {sp : Sp} {x : Str} {p pos : Pos} {e : Expr} {es : List Expr} {t : TA}
end
section
variable {P : Program} {w : World} {K : PySem.W.Frag} {mg : Str → Option Value} {base : Heap} {N : List Str} {qual : Str} {scope : Scope} {f : Addr} {cd : Value} {A : Around} {outer : List Env} {s0 : Shared} {H0 : Hp} {E : XK} {k : Nat} {ps : List Str} {sp : Sp} {x : Str} {p pos : Pos} {e : Expr} {es : List Expr} {t : TA}
end
/-! ### a def that may raise, where it doesn't -/
section
variable {X : Cx} {k : Nat} {x : Str} {ps : List Str} {sp : Sp} {e : Expr} {es : List Expr} {t : TA} {p pos : Pos}
end
/-! ### the text's own exception classes -/
/-- the address under a class's name -/
noncomputable def clsA (K : PySem.W.Frag) (x : Str) : Addr := match PySem.W.nsIn K mainGlobals x with
  | some (some (.ref C)) => C
  | _ => 0
theorem clsA_of {K : PySem.W.Frag} {x : Str} {C : Addr} (e : PySem.W.nsIn K mainGlobals x = some (some (.ref C))) : clsA K x = C := by
  unfold clsA; rw [e]
section
variable {K : PySem.W.Frag} {mg : Str → Option Value} {h : Heap} {x : Str} {C N : Addr} {nm q : Str} {bs bm : List Value} {hdct : Bool} {sn : List Str} {sub : List Value} {ab : Bool} {col : Option Bool} {dd : Option Addr} {k0 k1 k2 k3 k5 : Option Value}
  {c : Value} {d : Option Addr} {es : Array DictEntry} {ep : Nat} {sl : Array (Option Value)} {cdat : ClassData}
end
section
variable {K : PySem.W.Frag} {x y : Str} {C D : Addr} {cd : ClassData} {r : Bool} {T : String}
end
section
variable {P : Program} {w : World} {K : PySem.W.Frag} {mg : Str → Option Value} {base : Heap} {N : List Str} {qual : Str} {scope : Scope} {f : Addr} {cd : Value} {A : Around} {outer : List Env} {s0 : Shared} {H0 : Hp} {E : XK} {x : Str} {np cpos pos : Pos} {e : Expr} {es : List Expr} {t : TA}
end
end L2

/-! ### texts: split, join, startswith -/
namespace L2
open PySem PySem.Spec PyProof.Rows PySem.Builtin PySem.Builtin.Str
section
variable {X : Cx}
theorem strs_of : ∀ {xs : List Str} {us : List Value}, Vals (xs.map V.str) us → ∃ l : List (Str × Tok), us = strValues l ∧ l.map (·.1) = xs
  | [], _, .nil => ⟨[], rfl, rfl⟩
  | x :: xs, _, .cons ⟨t, e⟩ r => by
    obtain ⟨l, h1, h2⟩ := strs_of r
    exact ⟨(x, t) :: l, by rw [e, h1]; rfl, by rw [List.map_cons, h2]⟩
/-- sep.join(texts) -/
noncomputable def rJoin (K : PySem.W.Frag) : V → List V → Hp → VK → Prop := fun x vs H Q => ∃ (sep : Str) (p : Addr) (xs : List Str), x = .str sep ∧ vs = [.ref p] ∧ SqL K H p (xs.map V.str) ∧ tooLong (xs.toArray.foldl (· + ·.length + sep.length) 0) = false ∧ (glued sep xs).length ≤ sizeLine ∧ Q (.str (glued sep xs)) H
theorem mt_join : MtM X "str.join" (rJoin X.K) := by
  intro pins s σ H x vs v us Q I rx rv h
  obtain ⟨sep, p, xs, rfl, rfl, hS, hl, hz2, q⟩ := h
  obtain ⟨t, rfl⟩ := rx
  obtain ⟨u, rfl, ru⟩ := rv.one
  cases ru
  obtain ⟨its, rvs, pl, hz⟩ := I.list hS
  obtain ⟨l, rfl, hx⟩ := strs_of rvs
  refine call_meets F.slot_str_join (typeIs_str _ _ _) F.entry_str_join (F.args_str_join_2 _ _) (meets_str_join_list sep t p l (by rw [hx]; exact hl)) ⟨pl.isList, ?_⟩
  have fin : ∀ (t' : Tok) (tk : Nat), EP X pins σ Q (.str (glued sep xs) t') { s with toks := tk } := fun t' tk => ⟨.str (glued sep xs), H, I.tok tk, ⟨t', rfl⟩, q⟩
  rcases l with _ | ⟨p1, _ | ⟨p2, l⟩⟩
  · subst hx
    exact ⟨hz2, fin _ _⟩
  · subst hx
    have e : glued sep [p1.1] = p1.1 := by first | rfl | simp [glued]
    have := fin p1.2 s.toks
    rw [show (List.map (·.1) [p1]) = [p1.1] from rfl, e] at this
    exact this
  · subst hx
    exact ⟨hz2, fin _ _⟩
/-- text[lo:hi] -/
noncomputable def rSlS : V → Option Int → Option Int → Hp → VK → Prop := fun x lo hi H Q => ∃ z : Str, x = .str z ∧ z.length ≤ sizeLine ∧ Q (.str (PySem.Txt.slice z lo hi)) H
theorem sl_str : SlR X rSlS := by
  intro pins s σ H x v vl vu lo hi sl Q I rx hs pl pu h
  obtain ⟨z, rfl, hz, q⟩ := h
  obtain ⟨t, rfl⟩ := rx
  refine ⟨"str", _, F.slot_str_getitem.lookup, typeIs_str _ _ _, ?_⟩
  have fin : ∀ (t' : Tok) (k : Nat), EP X pins σ Q (.str (PySem.Txt.slice z lo hi) t') { s with toks := k } := fun t' k => ⟨.str (PySem.Txt.slice z lo hi), H, I.tok k, ⟨t', rfl⟩, q⟩
  have hle := Nat.le_trans (PySem.Txt.slice_le z lo hi) hz
  cases pl with
  | none =>
    cases pu with
    | none => exact wpAny_getItem_str_slice (l := none) (u := none) (st := none) hs rfl (post_val_or_str ⟨hle, fin⟩)
    | int j uj => exact wpAny_getItem_str_slice (l := none) (u := some (j, uj)) (st := none) hs rfl (post_val_or_str ⟨hle, fin⟩)
  | int i ui =>
    cases pu with
    | none => exact wpAny_getItem_str_slice (l := some (i, ui)) (u := none) (st := none) hs rfl (post_val_or_str ⟨hle, fin⟩)
    | int j uj => exact wpAny_getItem_str_slice (l := some (i, ui)) (u := some (j, uj)) (st := none) hs rfl (post_val_or_str ⟨hle, fin⟩)
end
end L2
/-! ### a text, walked sign by sign -/
namespace L2
open PySem PySem.Spec PyProof.Rows
noncomputable def Itx (x : Str) : It := ⟨fun i _ => i < x.cps.size, fun i H v H' => H' = H ∧ v = .str ⟨#[x.cps.getD i 0]⟩, fun i _ => x.cps.size ≤ i⟩
theorem turn_text {P : Program} {w : World} {K : PySem.W.Frag} {tg : Expr} (it : Addr) (x : Str) (t : Tok) : Turn P w K tg (Itx x) [it] it (fun i h => h.IsStrIter it "str_ascii_iterator" x t i) where
  mem := by simp
  obj := fun i h st b hb => by
    have e : b = it := by simpa using hb
    subst e
    obtain ⟨o, e, c, d⟩ := st
    exact ⟨o, e, fun v z => by rw [d] at z; cases z⟩
  keep := fun i h h' st k => by
    obtain ⟨o, e, r⟩ := st
    exact ⟨o, k it (by simp) o e, r⟩
  item := by
    intro X hP hw hK hc i pins s σ H E I hf st hg
    subst hP hw hK
    obtain ⟨f0, f1, f2, f3, f4, f5⟩ := hf it (by simp)
    have hg : i < x.cps.size := hg
    refine wpAny_pyNext_ascii_item st (c := x.cps[i]) (by simp [hg]) fun h' st' sb => ?_
    have I1 : Inv X pins σ H { s with heap := h', toks := s.toks + 1 } := I.turned (t' := s.toks + 1) (fun b o hb e => (sb.2 b hb).trans e) f0 f1 f3 f4 f5
    obtain ⟨o, e, c, d⟩ := id st'
    have ex : x.cps.getD i 0 = x.cps[i] := by simp [Array.getD, hg]
    exact ⟨_, rfl, go_of (s := { s with heap := h', toks := s.toks + 1 }) e c d (by decide) ⟨.str ⟨#[x.cps[i]]⟩, H, I1, ⟨_, rfl⟩, ⟨rfl, by rw [ex]⟩, st', fun b hb => (hf b hb).1⟩⟩
  done := by
    intro X hP hw hK hc i pins s σ H E I hf st hg
    subst hP hw hK
    obtain ⟨f0, f1, f2, f3, f4, f5⟩ := hf it (by simp)
    have hg : x.cps.size ≤ i := hg
    exact wpAny_pyNext_ascii_end (I.ok.hd hc) st (by simp; omega) fun h' eb => ⟨rfl, I.turned (t' := s.toks) (fun b o hb e => eb b o hb e) f0 f1 f3 f4 f5⟩
  self := fun _ _ _ _ _ st h => wpAny_pyIter_striter_ascii st h
section
variable {X : Cx} {tg : Expr}
noncomputable def iText (tl : TE) : TI := fun σ H R => tl σ H fun v H1 => ∃ x : Str, v = .str x ∧ x.cps.all (· < 128) = true ∧ R (Itx x) H1
theorem pi_text {l : Expr} {tl : TE} (hl : PE X l tl) : PI X tg l (iText tl) := by
  intro pins s σ H R I h
  refine thn (hl pins s σ H _ I h) fun v s1 ⟨y, H1, I1, r1, q1⟩ => ?_
  obtain ⟨x, e, ha, q⟩ := q1
  subst e
  obtain ⟨t, rfl⟩ := r1
  refine wpAny_pyIter_ascii ha ?_
  refine ⟨s1.heap.objs.size, [s1.heap.objs.size], _, _, H1, rfl, I1.kept (t' := s1.toks) fun b o e => Heap.get?_push_of_some _ e, turn_text _ x t, ⟨_, Heap.get?_push_size _ rfl, rfl, rfl⟩, fun b hb => ?_, q⟩
  have e : b = s1.heap.objs.size := by simpa using hb
  subst e
  exact I1.fpOk (Nat.le_refl _) (I1.hok.fresh (Nat.le_refl _))
end
theorem ys_text {x : Str} (p : Nat) : Ys (Itx x) (gName p) (fun _ => True) x.cps.size (fun i σ => σ.set p (some (.str ⟨#[x.cps.getD i 0]⟩))) where
  go := fun i H hi _ => hi
  stop := fun H _ => Nat.le_refl _
  yld := fun i H v H' σ Q hi _ y q => by
    obtain ⟨e, y⟩ := y
    subst e y
    exact q _ (Same.refl _)
section
variable {X : Cx}
end
end L2

/-! ### try with an assignment; text constants -/
namespace L2
open PySem PySem.Spec PyProof.Rows
section
variable {X : Cx} {x n y : Str} {j : Nat} {py : Pos} {C : Value} {i : Nat} {t : XK → TE} {tb : TS} {e : Expr} {b₀ : Stmt} {suite : List Stmt} {pos epos hpos np : Pos}
end
structure KonS (mg : Str → Option Value) (x : Str) (i : Str) : Prop where
  ex : ∃ t, mg x = some (.str i t)
theorem KonS.pe {X : Cx} {x : Str} {i : Str} {pos : Pos} (k : KonS X.mg x i) (hg : Gl X x) (hd : (x == ("__debug__" : Str)) = false := by decide) : PE X (.Name x pos) (tC (.str i)) := by
  obtain ⟨t, e⟩ := k.ex
  exact pe_glob hg e ⟨t, rfl⟩ hd
theorem konS_in {K : PySem.W.Frag} {mg : Str → Option Value} {h : Heap} {x : Str} {i : Str} {t : Tok} (X : K.In h) (G : h.Ns mainGlobals mg) (z : PySem.W.nsIn K mainGlobals x = some (some (.str i t))) : KonS mg x i := ⟨t, PySem.W.mg_of X G z⟩
/-! names of the layer's rules of texts -/
noncomputable def rAddS : R2 := fun x y H Q => ∃ i j, x = .str i ∧ y = .str j ∧ i.length + j.length ≤ sizeLine ∧ Q (.str (i ++ j)) H
noncomputable def rInS : R2 := fun x y H Q => ∃ i j, x = .str i ∧ y = .str j ∧ Q (.bl (!(Builtin.Str.occurrences j i 0 j.length 1).isEmpty)) H
noncomputable def rLenT : List V → Hp → VK → Prop := fun xs H Q => ∃ z : Str, xs = [.str z] ∧ z.length ≤ sizeLine ∧ Q (.int z.length) H
section
variable {X : Cx}
theorem op_addS : OpR X (binaryOp .Add) rAddS := op_add_str
theorem op_inS : OpR X (compareOp .In) rInS := op_in_str
theorem call_lenT : CallR X (.builtin "len") rLenT := call_len_str
end
end L2

/-! ### classes of the text: methods, making -/
namespace L2
open PySem PySem.Spec PyProof.Rows
/-- a method of the class under the name c -/
structure MethIn (K : PySem.W.Frag) (c m qual : Str) (st : Stmt) (ps : List Str) : Prop where
  ex : ∃ f fd, Meth K (clsA K c) m f ∧ Fun K m qual st f fd ∧ ∀ us : List Value, us.length = ps.length → bindArgs fd ⟨us, []⟩ = pure (ps.zip us)
/-- .. and its promise -/
structure CalM (CX : CXT) (P : Program) (w : World) (K : PySem.W.Frag) (mg : Str → Option Value) (base : Heap) (k : Nat) (c m : Str) (ps : List Str) (sp : Sp) : Prop where
  ex : ∃ f fd, Meth K (clsA K c) m f ∧ Binds K fd ps [] ∧ FnOk P w K mg base CX k f fd ps sp
/-- a class under its name -/
structure ClsIn (K : PySem.W.Frag) (mg : Str → Option Value) (c : Str) : Prop where
  bound : mg c = some (.ref (clsA K c))
  cls : Cls K (clsA K c)
  makes : PySem.W.makesIn K (clsA K c) = true
  kp : PySem.W.keepIn K (.ref (clsA K c)) = true
section
variable {P : Program} {w : World} {K : PySem.W.Frag} {mg : Str → Option Value} {base : Heap}
theorem MethIn.cal {c m qual : Str} {st : Stmt} {ps N : List Str} {rd : TS} {k : Nat} {sp : Sp} (F : MethIn K c m qual st ps) (S : FnScope N ps (defScope st)) (len : ∀ vs H Q E, sp vs H Q E → vs.length = ps.length)
    (hb : ∀ (f : Addr) (cdv : Value) (A : Around) (outer : List Env) (s : Shared) (H : Hp) (E : XK), Room k (A.deeper (envOfC qual (defScope st) s.heap.objs.size f cdv)) → PSs (cxOf CX0 P w K mg base N qual (defScope st) f cdv A outer s H E).nox (defBody st) rd)
    (hr : ∀ vs H Q E, sp vs H Q E → rd { nx := fun _ H' => Q .non H', rt := Q } (start N vs) H) : CalM CX0 P w K mg base (k + 1) c m ps sp := by
  obtain ⟨a, fd, hm, hF, hbd⟩ := F.ex
  exact ⟨a, fd, hm, .all hbd, hF.ok S len fun cdv A outer s H vs Q E room h => ⟨rd, hb a cdv A outer s H E room, hr vs H Q E h⟩⟩
theorem meth_in {h : Heap} {c m qual : Str} {st : Stmt} {ps : List Str} {C f : Addr} {oc : Value} {od an : Option Addr} {osl : Array (Option Value)} {kV doc pm cdv ct : Value}
    (a : PySem.W.nsIn K mainGlobals c = some (some (.ref C))) (a4 : PySem.W.findIn K (.ref C) m = some (some (.ref f))) (fn : PySem.W.isFn K (.ref f) = true) (l4 : K.lookup f = some ⟨oc, od, .func (PySem.W.fnOf m qual (defArgs st) (defBody st) (defScope st) .none kV doc pm an cdv ct), osl⟩)
    (c4 : PySem.W.codeIn K cdv qual = true) (k4 : PySem.W.keepIn K (.ref f) = true)
    (hb : ∀ (kV doc pm : Value) (an : Option Addr) (cdv ct : Value) (us : List Value), us.length = ps.length → bindArgs (PySem.W.fnOf m qual (defArgs st) (defBody st) (defScope st) .none kV doc pm an cdv ct) ⟨us, []⟩ = pure (ps.zip us)) : MethIn K c m qual st ps :=
  ⟨f, _, by rw [clsA_of a]; exact ⟨a4, fn, k4⟩, fun_mk l4 c4 k4, hb kV doc pm an cdv ct⟩
theorem cls_in {h : Heap} {c : Str} {C : Addr} (X : K.In h) (G : h.Ns mainGlobals mg) (a : PySem.W.nsIn K mainGlobals c = some (some (.ref C))) (pg : PySem.W.plainGet K C Str.empty = true) (hd : PySem.W.hasDictIn K C = true) (po : PySem.W.plainOver K C = true)
    (sa : PySem.W.findIn K (.ref C) "__setattr__" = some (some (.builtin "object.__setattr__"))) (mk : PySem.W.makesIn K C = true) (kp : PySem.W.keepIn K (.ref C) = true) : ClsIn K mg c := by
  have e := clsA_of a
  exact ⟨by rw [e]; exact PySem.W.mg_of X G a, by rw [e]; exact ⟨pg, hd, po, sa⟩, by rw [e]; exact mk, by rw [e]; exact kp⟩
theorem noattr_in {c f : Str} {C : Addr} (a : PySem.W.nsIn K mainGlobals c = some (some (.ref C))) (n : PySem.W.findIn K (.ref C) f = some none) : NoAttr K (clsA K c) f := by
  rw [clsA_of a]; exact n
end
section
variable {X : Cx} {k : Nat} {c m : Str} {ps : List Str} {sp : Sp} {o e : Expr} {es : List Expr} {ta : TE} {t : TA} {apos pos p : Pos} {pl : Sem Bool}
/-- o.m(e, ..), a method that doesn't raise -/
theorem pe_mcal (M : CalM CX0 X.prog X.w X.K X.mg X.base k c m ps sp) (C : ClsIn X.K X.mg c) (hr : Room k X.A) (he : PE X o ta) (ha : PA X (e :: es) t)
    (hst : starEach (e :: es) X.env = (false, eval e X.env) :: starEach es X.env := by rfl) (hpl : (backTo pos (starEach es X.env)).any (·.1) = false := by rfl)
    (ht : eval (.Call (.Attribute o m apos) (e :: es) [] pos) X.env = (do
      let ov ← eval o X.env
      standAt apos.atName
      let (f, first) ← holding [ov] (getMethod ov m pl)
      callWith pos f first (backTo pos (starEach (e :: es) X.env)) (backToKw pos (keywordEach [] X.env))) := by rfl) : PE X (.Call (.Attribute o m apos) (e :: es) [] pos) (tMeth (clsA X.K c) m sp [] E0 ta t) := by
  obtain ⟨f, fd, hm, hb, F⟩ := M.ex
  exact pe_meth he C.cls hm F hr hb .nil pass0 ha hst hpl ht
theorem pe_mcal0 (M : CalM CX0 X.prog X.w X.K X.mg X.base k c m ps sp) (C : ClsIn X.K X.mg c) (hr : Room k X.A) (he : PE X o ta)
    (ht : eval (.Call (.Attribute o m apos) [] [] pos) X.env = (do
      let ov ← eval o X.env
      standAt apos.atName
      let (f, first) ← holding [ov] (getMethod ov m pl)
      callWith pos f first (backTo pos (starEach [] X.env)) (backToKw pos (keywordEach [] X.env))) := by rfl) : PE X (.Call (.Attribute o m apos) [] [] pos) (tMeth (clsA X.K c) m sp [] E0 ta tNil) := by
  obtain ⟨f, fd, hm, hb, F⟩ := M.ex
  exact pe_meth0 he C.cls hm F hr hb .nil pass0 ht
/-- C(): a new instance -/
theorem pe_mkcal0 (M : CalM CX0 X.prog X.w X.K X.mg X.base k c "__init__" ps sp) (C : ClsIn X.K X.mg c) (hr : Room (k + 1) X.A) (hg : Gl X c := by rfl) (hdb : (c == ("__debug__" : Str)) = false := by decide) : PE X (.Call (.Name c p) [] [] pos) (tMake (clsA X.K c) sp [] E0 tNil) := by
  obtain ⟨f, fd, hm, hb, F⟩ := M.ex
  exact pe_make0 ⟨C.makes, hm.at_, hm.fn, C.kp⟩ F hr hg C.bound hb .nil pass0 hdb
end
section
variable {P : Program} {w : World} {K : PySem.W.Frag} {mg : Str → Option Value} {base : Heap} {N : List Str} {qual : Str} {scope : Scope} {f : Addr} {cd : Value} {A : Around} {outer : List Env} {s0 : Shared} {H0 : Hp} {E : XK} {k : Nat} {ps : List Str} {sp : Sp} {c m : Str} {apos pos : Pos} {o e : Expr} {es : List Expr} {ta : TE} {t : TA} {pl : Sem Bool}
end
end L2

namespace L2
open PySem PySem.Spec PyProof.Rows
/-! ### lists of pairs as tables -/
section
variable {κ : Type} [DecidableEq κ]
noncomputable def valV (kvs : List (κ × V)) (k : κ) : Option V := (kvs.find? fun kv => decide (kv.1 = k)).map (·.2)
/-- in its place, or at the end -/
noncomputable def putK (kvs : List (κ × V)) (k : κ) (v : V) : List (κ × V) :=
  if (kvs.any fun kv => decide (kv.1 = k)) = true then kvs.map (fun kv => if kv.1 = k then (kv.1, v) else kv) else kvs ++ [(k, v)]
noncomputable def dropK (kvs : List (κ × V)) (k : κ) : List (κ × V) := kvs.filter fun kv => decide (kv.1 ≠ k)

theorem valV_pos {p : κ × V} {r : List (κ × V)} {k : κ} (e : p.1 = k) : valV (p :: r) k = some p.2 := by simp [valV, List.find?_cons, e]
theorem valV_neg {p : κ × V} {r : List (κ × V)} {k : κ} (e : ¬ p.1 = k) : valV (p :: r) k = valV r k := by simp [valV, List.find?_cons, e]
theorem valV_any (k : κ) : ∀ kvs : List (κ × V), (kvs.any fun kv => decide (kv.1 = k)) = (valV kvs k).isSome
  | [] => rfl
  | p :: r => by
    rw [List.any_cons]
    by_cases e : p.1 = k
    · simp only [valV_pos e, decide_eq_true e, Bool.true_or, Option.isSome_some]
    · rw [valV_neg e, decide_eq_false e, Bool.false_or]; exact valV_any k r
theorem length_putK (kvs : List (κ × V)) (k : κ) (v : V) : (putK kvs k v).length ≤ kvs.length + 1 := by
  unfold putK
  split
  · rw [List.length_map]; omega
  · rw [List.length_append, List.length_cons, List.length_nil]; omega
theorem putK_new {kvs : List (κ × V)} {k : κ} (v : V) (h : valV kvs k = none) : putK kvs k v = kvs ++ [(k, v)] := by
  unfold putK
  rw [valV_any, h]
  exact if_neg (by decide)

theorem RelO.isSome_eq {o : Option V} {u : Option Value} (r : RelO o u) : o.isSome = u.isSome := by
  cases o with
  | none => cases u with
    | none => rfl
    | some _ => exact (show False from r).elim
  | some _ => cases u with
    | none => exact (show False from r).elim
    | some _ => rfl

/-- raw tables of the same keys -/
theorem KV.val {kvs : List (κ × V)} {vs : List (κ × Value)} (r : KV kvs vs) (k : κ) : RelO (valV kvs k) (valueAt vs k) := by
  unfold KV at r
  induction r with
  | nil => exact True.intro
  | @cons p q ps qs h t ih =>
    obtain ⟨h1, h2⟩ := h
    by_cases e : p.1 = k
    · have e' : q.1 = k := h1.symm.trans e
      have b : valueAt (q :: qs) k = some q.2 := by simp [valueAt, List.find?_cons, e']
      rw [valV_pos e, b]; exact h2
    · have e' : ¬ q.1 = k := fun z => e (h1.trans z)
      have b : valueAt (q :: qs) k = valueAt qs k := by simp [valueAt, List.find?_cons, e']
      rw [valV_neg e, b]; exact ih
theorem KV.any {kvs : List (κ × V)} {vs : List (κ × Value)} (r : KV kvs vs) (k : κ) : (kvs.any fun kv => decide (kv.1 = k)) = vs.any fun kv => decide (kv.1 = k) := by
  unfold KV at r
  induction r with
  | nil => rfl
  | cons h t ih => rw [List.any_cons, List.any_cons, ih, h.1]
theorem KV.repl {kvs : List (κ × V)} {vs : List (κ × Value)} (r : KV kvs vs) (k : κ) {y : V} {u : Value} (ry : RelV y u) :
    KV (kvs.map fun kv => if kv.1 = k then (kv.1, y) else kv) (vs.map fun kv => if kv.1 = k then (kv.1, u) else kv) := by
  unfold KV at r ⊢
  induction r with
  | nil => exact .nil
  | @cons p q ps qs h t ih =>
    rw [List.map_cons, List.map_cons]
    refine .cons ?_ ih
    obtain ⟨h1, h2⟩ := h
    by_cases e : p.1 = k
    · rw [if_pos e, if_pos (h1.symm.trans e)]; exact ⟨h1, ry⟩
    · rw [if_neg e, if_neg (fun z => e (h1.trans z))]; exact ⟨h1, h2⟩
theorem KV.put {kvs : List (κ × V)} {vs : List (κ × Value)} (r : KV kvs vs) (k : κ) {y : V} {u : Value} (ry : RelV y u) : KV (putK kvs k y) (stored vs k u) := by
  unfold putK stored
  rw [r.any k]
  by_cases e : (vs.any fun kv => decide (kv.1 = k)) = true
  · rw [if_pos e, if_pos e]; exact r.repl k ry
  · rw [if_neg e, if_neg e]; exact Paired.snoc r ⟨rfl, ry⟩
theorem KV.drop {kvs : List (κ × V)} {vs : List (κ × Value)} (r : KV kvs vs) (k : κ) : KV (dropK kvs k) (without vs k) := by
  unfold KV at r ⊢
  unfold dropK without
  induction r with
  | nil => exact .nil
  | @cons p q ps qs h t ih =>
    obtain ⟨h1, h2⟩ := h
    rw [List.filter_cons, List.filter_cons]
    by_cases e : p.1 = k
    · have a : ¬ decide (p.1 ≠ k) = true := by simp [e]
      have b : ¬ decide (q.1 ≠ k) = true := by simp [h1.symm.trans e]
      rw [if_neg a, if_neg b]; exact ih
    · have e' : ¬ q.1 = k := fun z => e (h1.trans z)
      have a : decide (p.1 ≠ k) = true := by simp [e]
      have b : decide (q.1 ≠ k) = true := by simp [e']
      rw [if_pos a, if_pos b]; exact .cons ⟨h1, h2⟩ ih
theorem KV.length {kvs : List (κ × V)} {vs : List (κ × Value)} (r : KV kvs vs) : kvs.length = vs.length := Paired.length r
theorem dropK_le (kvs : List (κ × V)) (k : κ) : (dropK kvs k).length ≤ kvs.length := List.length_filter_le _ _
end


/-! ### a tracked dict, its keys ints and texts or tuples of these -/
theorem kV_is {P : Program} {w : World} {k : Key} {u : Value} (r : RelV (kV k) u) : (mixKind P w).is k u = true := by
  cases k with
  | inl i => obtain ⟨t, e⟩ := (show ∃ t, u = Value.int i t from r); subst e; exact mixKind_int P w i t
  | inr x => obtain ⟨t, e⟩ := (show ∃ t, u = Value.str x t from r); subst e; exact mixKind_str P w x t
theorem items_are {P : Program} {w : World} : ∀ {ks : List Key} {us : List Value}, Vals (ks.map kV) us → ItemsAre (mixKind P w) ks us
  | [], _, r => by rw [List.map_nil] at r; cases r; exact .nil
  | k :: ks, _, r => by
    rw [List.map_cons] at r
    cases r with
    | cons h t => exact .cons (kV_is h) (items_are t)

/-- raw entries of a dict with tuple keys -/
noncomputable abbrev KT (H : Hp) : List (List Key × V) → List (List Key × Addr × Value) → Prop := Paired fun p q => p.1 = q.1 ∧ H q.2.1 = some (.tup (p.1.map kV)) ∧ RelV p.2 q.2.2
theorem KT.val {H : Hp} {kvs : List (List Key × V)} {xs : List (List Key × Addr × Value)} (r : KT H kvs xs) (k : List Key) : RelO (valV kvs k) ((atKey xs k).map (·.2)) := by
  induction r with
  | nil => exact True.intro
  | @cons p q ps qs h t ih =>
    obtain ⟨h1, _, h2⟩ := h
    by_cases e : p.1 = k
    · have e' : q.1 = k := h1.symm.trans e
      have b : atKey (q :: qs) k = some q.2 := by simp [atKey, List.find?_cons, e']
      rw [valV_pos e, b]; exact h2
    · have e' : ¬ q.1 = k := fun z => e (h1.trans z)
      have b : atKey (q :: qs) k = atKey qs k := by simp [atKey, List.find?_cons, e']
      rw [valV_neg e, b]; exact ih
theorem KT.repl {H : Hp} {kvs : List (List Key × V)} {xs : List (List Key × Addr × Value)} (r : KT H kvs xs) (k : List Key) {y : V} {u : Value} (ry : RelV y u) :
    KT H (kvs.map fun kv => if kv.1 = k then (kv.1, y) else kv) (xs.map (putAt k u)) := by
  induction r with
  | nil => exact .nil
  | @cons p q ps qs h t ih =>
    rw [List.map_cons, List.map_cons]
    refine .cons ?_ ih
    obtain ⟨h1, h2, h3⟩ := h
    unfold putAt
    by_cases e : p.1 = k
    · rw [if_pos e, if_pos (h1.symm.trans e)]; exact ⟨h1, h2, ry⟩
    · rw [if_neg e, if_neg (fun z => e (h1.trans z))]; exact ⟨h1, h2, h3⟩
theorem KT.put {H : Hp} {kvs : List (List Key × V)} {xs : List (List Key × Addr × Value)} (r : KT H kvs xs) (k : List Key) {b : Addr} {y : V} {u : Value} (hb : H b = some (.tup (k.map kV))) (ry : RelV y u) :
    KT H (putK kvs k y) (storedH xs k b u) := by
  have e : (kvs.any fun kv => decide (kv.1 = k)) = (atKey xs k).isSome := by
    rw [valV_any, (r.val k).isSome_eq, Option.isSome_map]
  unfold putK storedH
  rw [e]
  by_cases q : (atKey xs k).isSome = true
  · rw [if_pos q, if_pos q]; exact r.repl k ry
  · rw [if_neg q, if_neg q]; exact Paired.snoc r ⟨rfl, hb, ry⟩
theorem KT.keeps {H H' : Hp} {kvs : List (List Key × V)} {xs : List (List Key × Addr × Value)} (r : KT H kvs xs) (ht : ∀ b ys, H b = some (.tup ys) → H' b = some (.tup ys)) : KT H' kvs xs :=
  Paired.mapP r fun _ _ z => ⟨z.1, ht _ _ z.2.1, z.2.2⟩

section
variable {P : Program} {w : World} {H : Hp} {h : Heap} {a : Addr}
theorem rd_of {u : HO} (ok : HOk P w H h) (e : Rd H a u) : ObjOk P w H h a u := e.ok ok
theorem dk_rd {kvs : List (Key × V)} (ok : HOk P w H h) (e : Rd H a (.dK kvs)) : kvs.length ≤ sizeLine ∧ (a == sysModules) = false ∧ ∃ vs, KV kvs vs ∧ h.DictOf (mixKind P w) a vs :=
  show ObjOk P w H h a (.dK kvs) from rd_of ok e
theorem dk_of {kvs : List (Key × V)} (ok : HOk P w H h) (e : H a = some (.dK kvs)) : kvs.length ≤ sizeLine ∧ (a == sysModules) = false ∧ ∃ vs, KV kvs vs ∧ h.DictOf (mixKind P w) a vs := dk_rd ok (.inl e)
/-- a tracked tuple of ints and texts is a key -/
theorem key_of {ks : List Key} (ok : HOk P w H h) (e : H a = some (.tup (ks.map kV))) : (tupleKind (mixKind P w)).is h ks a := by
  obtain ⟨_, its, r, o, h1, h2, n, h3⟩ := (show ObjOk P w H h a (.tup (ks.map kV)) from ok a _ e)
  exact ⟨o, its.toArray, n, h1, h2, h3, by simpa using items_are r⟩
theorem dt_rd {kvs : List (List Key × V)} (ok : HOk P w H h) (e : Rd H a (.dT kvs)) : kvs.length ≤ sizeLine ∧ (a == sysModules) = false ∧
    ∃ xs, KT H kvs xs ∧ h.DictOfH (tupleKind (mixKind P w)) a xs := by
  obtain ⟨z, y, xs, r, o, es, ep, h1, h2, h3, h4, h5⟩ := (show ObjOk P w H h a (.dT kvs) from rd_of ok e)
  refine ⟨z, y, xs, r, o, es, ep, h1, h2, h3, h4, fun x hx => ?_, h5⟩
  have all : ∀ {l : List (List Key × V)} {m : List (List Key × Addr × Value)}, KT H l m → ∀ x ∈ m, (tupleKind (mixKind P w)).is h x.1 x.2.1 := by
    intro l m q
    induction q with
    | nil => intro x hx; exact nomatch hx
    | @cons p q ps qs hq t ih =>
      intro x hx
      rcases List.mem_cons.mp hx with e | hx
      · subst e
        exact key_of ok (by rw [← hq.1]; exact hq.2.1)
      · exact ih x hx
  exact all r x hx
theorem dt_of {kvs : List (List Key × V)} (ok : HOk P w H h) (e : H a = some (.dT kvs)) : kvs.length ≤ sizeLine ∧ (a == sysModules) = false ∧
    ∃ xs, KT H kvs xs ∧ h.DictOfH (tupleKind (mixKind P w)) a xs := dt_rd ok (.inl e)
end

/-- what the dict at a holds at the key y -/
noncomputable def DGet (H : Hp) (a : Addr) (y : V) (r : Option V) : Prop :=
  (∃ kvs k, Rd H a (.dK kvs) ∧ y = kV k ∧ r = valV kvs k) ∨ ∃ kvs k b, Rd H a (.dT kvs) ∧ y = .ref b ∧ H b = some (.tup (k.map kV)) ∧ r = valV kvs k
/-- the heap behind a[y] = v -/
noncomputable def DPut (H : Hp) (a : Addr) (y v : V) (H' : Hp) : Prop :=
  (∃ kvs k, H a = some (.dK kvs) ∧ y = kV k ∧ kvs.length < sizeLine ∧ H' = upd H a (.dK (putK kvs k v))) ∨
  ∃ kvs k b, H a = some (.dT kvs) ∧ y = .ref b ∧ H b = some (.tup (k.map kV)) ∧ kvs.length < sizeLine ∧ H' = upd H a (.dT (putK kvs k v))
theorem DGet.k {H : Hp} {a : Addr} {kvs : List (Key × V)} {k : Key} (e : H a = some (.dK kvs)) : DGet H a (kV k) (valV kvs k) := .inl ⟨kvs, k, .inl e, rfl, rfl⟩
theorem DPut.k {H : Hp} {a : Addr} {kvs : List (Key × V)} {k : Key} {v : V} (e : H a = some (.dK kvs)) (hl : kvs.length < sizeLine) : DPut H a (kV k) v (upd H a (.dK (putK kvs k v))) := .inl ⟨kvs, k, e, rfl, hl, rfl⟩


section
variable {X : Cx} {pins : List (Addr × Obj)} {σ : St} {H : Hp} {s : Shared} {a : Addr} {y v : V} {u r : Value} {o : Option V} {A : Around} {E : Value → Shared → Prop}

theorem Inv.big (I : Inv X pins σ H s) : sysModules < s.heap.objs.size := by
  have h : mainGlobals < s.heap.objs.size := (I.mod.glob.keeps I.bk).lt
  exact Nat.lt_trans (by decide) h

/-- y in d -/
theorem d_in {Q : Value → Shared → Prop} (hu : A.units + 1 < cLine) (I : Inv X pins σ H s) (g : DGet H a y o) (ry : RelV y u) (h : ∀ s', Inv X pins σ H s' → Q (.bool o.isSome) s') :
    wpAny (model X.prog X.w) A (compareOp .In u (.ref a)) Q E s := by
  rcases g with ⟨kvs, k, e, ey, l⟩ | ⟨kvs, k, b, e, ey, eb, l⟩
  · subst ey
    obtain ⟨z, hd, vs, rel, dd⟩ := dk_rd I.hok e
    refine wpAny_in_of (kV_is ry) hd dd.mapOf ?_
    rw [← (rel.val k).isSome_eq, ← l]
    exact h _ (I.tok _)
  · subst ey
    cases (show u = Value.ref b from ry)
    obtain ⟨z, hd, xs, rel, dd⟩ := dt_rd I.hok e
    refine wpAny_in_heap (tupleKind_room_in1 hu) (key_of I.hok eb) hd dd ?_
    have q := (rel.val k).isSome_eq
    rw [Option.isSome_map] at q
    rw [← q, ← l]
    exact h _ (I.tok _)
theorem d_notIn {Q : Value → Shared → Prop} (hu : A.units + 1 < cLine) (I : Inv X pins σ H s) (g : DGet H a y o) (ry : RelV y u) (h : ∀ s', Inv X pins σ H s' → Q (.bool (!o.isSome)) s') :
    wpAny (model X.prog X.w) A (compareOp .NotIn u (.ref a)) Q E s := by
  rcases g with ⟨kvs, k, e, ey, l⟩ | ⟨kvs, k, b, e, ey, eb, l⟩
  · subst ey
    obtain ⟨z, hd, vs, rel, dd⟩ := dk_rd I.hok e
    refine wpAny_notIn_of (kV_is ry) hd dd.mapOf ?_
    rw [← (rel.val k).isSome_eq, ← l]
    exact h _ (I.tok _)
  · subst ey
    cases (show u = Value.ref b from ry)
    obtain ⟨z, hd, xs, rel, dd⟩ := dt_rd I.hok e
    refine wpAny_notIn_heap (tupleKind_room_in1 hu) (key_of I.hok eb) hd dd ?_
    have q := (rel.val k).isSome_eq
    rw [Option.isSome_map] at q
    rw [← q, ← l]
    exact h _ (I.tok _)
/-- a dict's object is replaced -/
theorem d_write {h' : Heap} {t' : Nat} {ob : HO} (I : Inv X pins σ H s) (mu : Mut (H a)) (hs : Heap.SameBut a s.heap h') (he : ∃ q, h'.get? a = some q) (new : ObjOk X.prog X.w (upd H a ob) h' a ob) :
    Inv X pins σ (upd H a ob) { s with heap := h', toks := t' } :=
  I.write (x := a) (e := a) mu (.inl rfl) (fun b q hb z => (hs.2 b hb).trans z) he new
theorem dk_new {P : Program} {w : World} {H' : Hp} {h' : Heap} {kvs : List (Key × V)} {vs : List (Key × Value)} (z : kvs.length ≤ sizeLine) (hd : (a == sysModules) = false) (rel : KV kvs vs) (dd : h'.DictOf (mixKind P w) a vs) :
    ObjOk P w H' h' a (.dK kvs) := ⟨z, hd, vs, rel, dd⟩
/-- d[y] = v -/
theorem d_setItem {H' : Hp} {Q : Unit → Shared → Prop} (hu : A.units + 1 < cLine) (I : Inv X pins σ H s) (g : DPut H a y v H') (ry : RelV y u) (rv : RelV v r) (h : ∀ s', Inv X pins σ H' s' → Q () s') :
    wpAny (model X.prog X.w) A (setItem (.ref a) u r) Q E s := by
  rcases g with ⟨kvs, k, e, ey, l, eH⟩ | ⟨kvs, k, b, e, ey, eb, l, eH⟩
  · subst ey eH
    obtain ⟨z, hd, vs, rel, dd⟩ := dk_of I.hok e
    have hz : vs.length ≤ sizeLine := by rw [← rel.length]; exact z
    have hl : (putK kvs k v).length ≤ sizeLine := by have := length_putK kvs k v; omega
    refine wpAny_setItem_pairs (hsz := hz) (kV_is ry) dd fun h' dd' hs => h _ ?_
    have he : ∃ q, h'.get? a = some q := let ⟨q, _, _, hq, _⟩ := dd'; ⟨q, hq⟩
    exact d_write I (by rw [e]; exact True.intro) hs he (dk_new hl hd (rel.put k rv) dd')
  · subst ey eH
    cases (show u = Value.ref b from ry)
    obtain ⟨z, hd, xs, rel, dd⟩ := dt_of I.hok e
    have hz : xs.length ≤ sizeLine := by rw [← Paired.length rel]; exact z
    have hl : (putK kvs k v).length ≤ sizeLine := by have := length_putK kvs k v; omega
    refine wpAny_setItem_heap (hsz := hz) (tupleKind_room_in1 hu) (key_of I.hok eb) dd fun h' dd' hs => h _ ?_
    obtain ⟨q, es, ep, hq, h2, h3, h4, _, h5⟩ := dd'
    refine d_write I (by rw [e]; exact True.intro) hs ⟨q, hq⟩ ⟨hl, hd, _, (rel.put k eb rv).keeps fun c ys ec => ?_, q, es, ep, hq, h2, h3, h4, h5⟩
    rw [upd_ne (ne_of ec e (fun z => nomatch z))]
    exact ec
end

section
variable {X : Cx} {pins : List (Addr × Obj)} {σ : St} {H : Hp} {s : Shared} {a : Addr} {kvs : List (Key × V)} {k : Key} {u : Value} {A : Around} {E : Value → Shared → Prop}
/-- del d[k] -/
theorem d_delItem {Q : Unit → Shared → Prop} (I : Inv X pins σ H s) (e : H a = some (.dK kvs)) (ry : RelV (kV k) u) (l : (valV kvs k).isSome = true) (h : ∀ s', Inv X pins σ (upd H a (.dK (dropK kvs k))) s' → Q () s') :
    wpAny (model X.prog X.w) A (delItem (.ref a) u) Q E s := by
  obtain ⟨z, hd, vs, rel, dd⟩ := dk_of I.hok e
  refine wpAny_delItem_slot dd.typeIs (by decide) PySem.F.slot_dict_delitem
    (call_meetsIn PySem.F.slot_dict_delitem dd.typeIs PySem.F.entry_dict_delitem (PySem.F.args_dict_delitem_2 _ _) (meets_dict_delitem_pairs (mixKind X.prog X.w) a (kV_is ry)) ⟨vs, dd, by rw [← rel.length]; exact z, by rw [← (rel.val k).isSome_eq]; exact l, fun h' dd' hs => h _ ?_⟩)
  have he : ∃ q, h'.get? a = some q := let ⟨q, _, _, hq, _⟩ := dd'; ⟨q, hq⟩
  exact d_write I (by rw [e]; exact True.intro) hs he (dk_new (Nat.le_trans (dropK_le kvs k) z) hd (rel.drop k) dd')
/-- d.pop(k[, x]), there -/
theorem d_pop {v : V} {more : List Value} {Q : Value → Shared → Prop} (I : Inv X pins σ H s) (e : H a = some (.dK kvs)) (ry : RelV (kV k) u) (l : valV kvs k = some v) (hm : more = [] ∨ ∃ x, more = [x])
    (h : ∀ w' s', Inv X pins σ (upd H a (.dK (dropK kvs k))) s' → RelV v w' → Q w' s') : wpAny (model X.prog X.w) A (call (.builtin "dict.pop") (.ref a :: u :: more)) Q E s := by
  obtain ⟨z, hd, vs, rel, dd⟩ := dk_of I.hok e
  obtain ⟨w', hw, rw'⟩ := RelO.some_of (v := v) (o := valueAt vs k) (by rw [← l]; exact rel.val k)
  have hp : (keyPart u).isSome = true := by
    cases k with
    | inl i => obtain ⟨t, q⟩ := (show ∃ t, u = Value.int i t from ry); subst q; rfl
    | inr x => obtain ⟨t, q⟩ := (show ∃ t, u = Value.str x t from ry); subst q; rfl
  have ha : argsOk "dict.pop" ⟨.ref a :: u :: more, []⟩ := by
    rcases hm with q | ⟨x, q⟩
    · subst q; exact PySem.F.args_dict_pop_2 _ _
    · subst q; exact PySem.F.args_dict_pop_3 _ _ _
  refine call_meetsIn PySem.F.slot_dict_pop dd.typeIs PySem.F.entry_dict_pop ha (meets_dict_pop_there (mixKind X.prog X.w) a (kV_is ry) more hm hp)
    ⟨vs, w', dd, by rw [← rel.length]; exact z, hw, fun h' dd' hs => h w' _ ?_ rw'⟩
  have he : ∃ q, h'.get? a = some q := let ⟨q, _, _, hq, _⟩ := dd'; ⟨q, hq⟩
  exact d_write I (by rw [e]; exact True.intro) hs he (dk_new (Nat.le_trans (dropK_le kvs k) z) hd (rel.drop k) dd')
/-- len(d) -/
theorem d_len {Q : Value → Shared → Prop} (I : Inv X pins σ H s) (e : Rd H a (.dK kvs)) (h : ∀ t s', Inv X pins σ H s' → Q (.int kvs.length t) s') : wpAny (model X.prog X.w) A (call (.builtin "len") [.ref a]) Q E s := by
  obtain ⟨z, hd, vs, rel, dd⟩ := dk_rd I.hok e
  refine call_len_dict hd dd (by rw [← rel.length]; rw [sizeLine_eq] at z; omega) ?_
  rw [← rel.length]
  exact h _ _ (I.tok _)
end


/-! ### readings and rules -/


/-- y in d, y not in d -/
noncomputable def tDIn (ty td : TE) : TE := fun σ H Q => ty σ H fun y H1 => td σ H1 fun x H2 => ∃ a o, x = .ref a ∧ DGet H2 a y o ∧ Q (.bl o.isSome) H2
noncomputable def tDNotIn (ty td : TE) : TE := fun σ H Q => ty σ H fun y H1 => td σ H1 fun x H2 => ∃ a o, x = .ref a ∧ DGet H2 a y o ∧ Q (.bl (!o.isSome)) H2
/-- d[y] = v -/
noncomputable def sDPut (td ty tv : TE) : TS := fun D σ H => tv σ H fun v H1 => td σ H1 fun x H2 => ty σ H2 fun y H3 => ∃ a H4, x = .ref a ∧ DPut H3 a y v H4 ∧ D.nx σ H4

section
variable {X : Cx} {o i e value : Expr} {pos pos' tpos : Pos} {td ty tv : TE}
theorem pc_din (hu : X.A.units + 1 < cLine) (hi : PE X i ty) (ho : PE X o td) : PC X .In i o (tDIn ty td) := by
  intro pins s σ H Q I h
  refine thn (hi pins s σ H _ I h) fun iv s1 ⟨y, H1, I1, ry, q1⟩ => thn (ho pins s1 σ H1 _ I1 q1) fun u s2 ⟨x, H2, I2, rx, a, ov, ex, g, q2⟩ => ?_
  subst ex
  obtain rfl : u = Value.ref a := rx
  exact d_in hu I2 g ry fun s3 I3 => ⟨.bl ov.isSome, H2, I3, rfl, q2⟩
theorem pc_dnotin (hu : X.A.units + 1 < cLine) (hi : PE X i ty) (ho : PE X o td) : PC X .NotIn i o (tDNotIn ty td) := by
  intro pins s σ H Q I h
  refine thn (hi pins s σ H _ I h) fun iv s1 ⟨y, H1, I1, ry, q1⟩ => thn (ho pins s1 σ H1 _ I1 q1) fun u s2 ⟨x, H2, I2, rx, a, ov, ex, g, q2⟩ => ?_
  subst ex
  obtain rfl : u = Value.ref a := rx
  exact d_notIn hu I2 g ry fun s3 I3 => ⟨.bl (!ov.isSome), H2, I3, rfl, q2⟩
theorem ps_dput (hu : X.A.units + 1 < cLine) (ho : PE X o td) (hi : PE X i ty) (hv : PE X value tv) (hs : swapsWith value (some (.Subscript o i pos')) pos.line X.env = pure false) :
    PS X (.Assign [.Subscript o i pos'] value pos) (sDPut td ty tv) := by
  intro pins s σ H D I h
  refine wpAny_Assign_Subscript (thn (hv pins s σ H _ I h) fun r s1 ⟨v, H1, I1, rv, q1⟩ => thn (ho pins s1 σ H1 _ I1 q1) fun u s2 ⟨x, H2, I2, rx, q2⟩ => thn (hi pins s2 σ H2 _ I2 q2) fun iv s3 ⟨y, H3, I3, ry, a, H4, ex, g, q3⟩ => ?_) hs
  subst ex
  obtain rfl : u = Value.ref a := rx
  exact d_setItem hu I3 g ry rv fun s4 I4 => ⟨σ, H4, I4, q3⟩
end


/-! ### displays -/
theorem dk_empty {P : Program} {w : World} {H : Hp} (h : Heap) (hb : sysModules < h.objs.size) : ObjOk P w H (h.push { cls := .type "dict", data := .dict #[] }) h.objs.size (.dK []) :=
  ⟨Nat.zero_le _, beq_eq_false_iff_ne.mpr (Ne.symm (Nat.ne_of_lt hb)), [], .nil, Heap.DictOf.new h⟩
/-- {}, to be a dict of the kind that is wanted -/
noncomputable def tDNewK : TE := fun _ H Q => ∀ p, H p = none → Q (.ref p) (upd H p (.dK []))
section
variable {X : Cx} {pos : Pos}
theorem pe_dnewK : PE X (.Dict [] [] pos) tDNewK := fun pins s σ H Q I h =>
  wpAny_Dict_empty ⟨.ref s.heap.objs.size, _, I.laid (a := s.heap.objs.size) (o := .dK []) (t' := s.toks) (fun _ _ q => Heap.get?_push_of_some _ q) (Nat.le_refl _) (dk_empty s.heap I.big), rfl, h _ (I.hok.fresh (Nat.le_refl _))⟩
end




/-! ### methods -/
/-- a method call o.m(e) of a built-in, with one argument: what must be seen of the text -/
structure M1 (X : Cx) (o : Expr) (m : Str) (apos : Pos) (e : Expr) (cpos : Pos) : Prop where
  base : attributeBase o m X.env (eval o X.env) = eval o X.env
  few : ((backTo cpos (starEach [e] X.env)).all (fun x => !x.1) && (backToKw cpos (keywordEach [] X.env)).all (fun x => x.1.isSome)
    && decide (([e] : List Expr).length + ([] : List Keyword).length + (if ([] : List Keyword).isEmpty then 0 else 1) < 30)) = true
  line : (apos.endLine == cpos.line) = true
  trees : backTo cpos (starEach [e] X.env) = [(false, eval e X.env)]

/-- a is a dict, whatever its keys -/
noncomputable def IsD (H : Hp) (a : Addr) : Prop := (∃ kvs, Rd H a (.dK kvs)) ∨ ∃ kvs, Rd H a (.dT kvs)
theorem isD_at {X : Cx} {pins : List (Addr × Obj)} {σ : St} {H : Hp} {s : Shared} {a : Addr} (I : Inv X pins σ H s) (d : IsD H a) :
    s.TypeIs (.ref a) "dict" ∧ (∀ b, Value.ref a = .ref b → ∃ ob, s.heap.get? b = some ob ∧ ob.dict = none) ∧ (a == sysModules) = false := by
  rcases d with ⟨kvs, e⟩ | ⟨kvs, e⟩
  · obtain ⟨_, hd, vs, _, dd⟩ := dk_rd I.hok e
    refine ⟨dd.typeIs, fun b q => ?_, hd⟩
    cases q
    obtain ⟨ob, _, _, h1, h2, _⟩ := dd
    exact ⟨ob, h1, h2.2.1⟩
  · obtain ⟨_, hd, xs, _, dd⟩ := dt_rd I.hok e
    refine ⟨dd.typeIs, fun b q => ?_, hd⟩
    cases q
    obtain ⟨ob, _, _, h1, h2, _⟩ := dd
    exact ⟨ob, h1, h2.2.1⟩

section
variable {X : Cx} {pins : List (Addr × Obj)} {σ : St} {H : Hp} {s : Shared} {a : Addr} {y d : V} {u r : Value} {o : Option V} {A : Around} {E : Value → Shared → Prop}
end

/-- d.pop(k): there; d.pop(k, x): there or not -/
noncomputable def tDPop1 (td ty : TE) : TE := fun σ H Q => td σ H fun x H1 => ∃ a, x = .ref a ∧ IsD H1 a ∧ ty σ H1 fun y H2 => ∃ kvs k v, H2 a = some (.dK kvs) ∧ y = kV k ∧ valV kvs k = some v ∧ Q v (upd H2 a (.dK (dropK kvs k)))
section
variable {X : Cx} {o e f : Expr} {apos cpos : Pos} {td ty tx : TE}
theorem pe_dpop1 (ho : PE X o td) (he : PE X e ty) (m : M1 X o "pop" apos e cpos) : PE X (.Call (.Attribute o "pop" apos) [e] [] cpos) (tDPop1 td ty) := by
  intro pins s σ H Q I h
  refine wpAny_Call_method m.base m.few m.line PySem.F.plainAttrs_dict PySem.F.slot_dict_pop PySem.F.type_dict_pop (thn (ho pins s σ H _ I h) fun u s1 ⟨x, H1, I1, rx, a, ex, d, q1⟩ => ?_)
  subst ex
  obtain rfl : u = Value.ref a := rx
  obtain ⟨t1, t2, _⟩ := isD_at I1 d
  refine ⟨t1, t2, ?_⟩
  rw [m.trees]
  refine Calls.callWith_builtin rfl (Calls.evalArgs_plain (Calls.spliced_cons (thn (he pins s1 σ H1 _ I1 q1) fun iv s2 ⟨y, H2, I2, ry, kvs, k, v, ea, ey, l, q2⟩ => Calls.spliced_nil ?_)))
  subst ey
  exact d_pop I2 ea ry l (.inl rfl) fun w' s3 I3 rw' => ⟨v, _, I3, rw', q2⟩
end

/-! ### dict(d): a copy -/
section
variable {X : Cx} {pins : List (Addr × Obj)} {σ : St} {H : Hp} {s : Shared} {a : Addr} {kvs : List (Key × V)} {A : Around} {E : Value → Shared → Prop}
end


section
variable {X : Cx} {pins : List (Addr × Obj)} {σ : St} {H : Hp} {s : Shared} {a : Addr} {y : V} {u : Value} {A : Around} {E : Value → Shared → Prop}
end
section
variable {X : Cx}
/-- len of a dict -/
theorem call_lenD : CallR X (.builtin "len") (fun xs H Q => ∃ a kvs, xs = [V.ref a] ∧ H a = some (.dK kvs) ∧ Q (.int kvs.length) H) := by
  intro pins s σ H xs us Q I r h
  obtain ⟨a, kvs, rfl, ha, q⟩ := h
  obtain ⟨u, rfl, ru⟩ := vals1 r
  cases ru
  exact d_len I (.inl ha) fun t s' I' => ⟨.int kvs.length, H, I', ⟨t, rfl⟩, q⟩
end
/-! ### a dict's pairs: keys that differ -/
section
variable {κ : Type} [DecidableEq κ]
theorem nd_snoc : ∀ {l : List κ} {k : κ}, l.Nodup → ¬ k ∈ l → (l ++ [k]).Nodup
  | [], k, _, _ => by simp
  | a :: r, k, h, hk => by
    obtain ⟨h1, h2⟩ := List.nodup_cons.mp h
    show (a :: (r ++ [k])).Nodup
    refine List.nodup_cons.mpr ⟨fun m => ?_, nd_snoc h2 fun m => hk (List.mem_cons.mpr (Or.inr m))⟩
    rcases List.mem_append.mp m with q | q
    · exact h1 q
    · exact hk (List.mem_cons.mpr (Or.inl (List.mem_singleton.mp q).symm))
end
end L2

/-! ### dicts: their pairs as a list, a dict made of pairs -/
namespace L2
open PySem PySem.Spec PyProof.Rows PySem.W
section
variable {X : Cx} {pins : List (Addr × Obj)} {σ : List (Option V)} {H H' : Hp} {s : Shared} {h' : Heap}
/-- several new objects at once -/
theorem Inv.many {t' : Nat} (I : Inv X pins σ H s) (k : ∀ b u, s.heap.get? b = some u → h'.get? b = some u) (sub : ∀ b o, H b = some o → H' b = some o) (new : ∀ b o, H' b = some o → H b = some o ∨ (s.heap.objs.size ≤ b ∧ ObjOk X.prog X.w H' h' b o)) :
    Inv X pins σ H' { s with heap := h', toks := t' } := by
  refine I.un (t' := t') ⟨fun b o q _ _ _ => k b o q, fun b o q _ _ _ => ⟨o.slots, k b o q⟩, fun b o q n _ => ?_, fun b o q _ => ⟨o, k b o q⟩, fun b xs q => sub b _ q, fun b o u q => sub b _ q, fun b ps q => ⟨#[], by simpa using sub b _ q⟩⟩ fun b o e => ?_
  · cases e : H' b with
    | none => rfl
    | some u =>
      rcases new b u e with z | ⟨z, _⟩
      · rw [n] at z; cases z
      · exact absurd (Heap.lt_size q) (Nat.not_lt.mpr z)
  · rcases new b o e with z | ⟨_, z⟩
    · exact (I.hok b o z).stay (fun c u _ q => k c u q) (fun c q => sub c _ q) fun c xs q => sub c _ q
    · exact z
/-- the view of a dict's pairs -/
noncomputable def ViewO (v d : Addr) : HO := .ext fun h => h.IsItemsView v d
noncomputable def rItems : V → List V → Hp → VK → Prop := fun x vs H Q => ∃ (d : Addr) (kvs : List (Key × V)), x = .ref d ∧ vs = [] ∧ H d = some (.dK kvs) ∧ ∀ v, H v = none → Q (.ref v) (upd H v (ViewO v d))
theorem mt_items : MtR X "dict.items" rItems := by
  intro pins s σ H x xs v us Q I rx r h
  obtain ⟨d, kvs, rfl, rfl, e, q⟩ := h
  cases r
  cases (show v = Value.ref d from rx)
  obtain ⟨z, hd, vs, rel, dd⟩ := dk_rd I.hok (.inl e)
  refine call_meetsIn PySem.F.slot_dict_items dd.typeIs PySem.F.entry_dict_items (PySem.F.args_dict_items_1 _) (meets_dict_items (mixKind X.prog X.w) d hd) ⟨⟨vs, dd⟩, ?_⟩
  refine ⟨.ref s.heap.objs.size, upd H s.heap.objs.size (ViewO s.heap.objs.size d), I.laid (t' := s.toks) (fun b u e => Heap.get?_push_of_some _ e) (Nat.le_refl _) ⟨⟨_, Heap.get?_push_size _ rfl, rfl, rfl⟩, ⟨_, Heap.get?_push_size _ rfl⟩, fun h1 h2 x k => ?_⟩, rfl, q _ (I.hok.fresh (Nat.le_refl _))⟩
  obtain ⟨o, ho, r⟩ := x
  exact ⟨o, k o ho, r⟩
/-- list(d.items()): new pairs, in their order -/
noncomputable def rListV : List V → Hp → VK → Prop := fun xs H Q => ∃ (v d : Addr) (kvs : List (Key × V)), xs = [.ref v] ∧ H v = some (ViewO v d) ∧ H d = some (.dK kvs) ∧
  ∀ (l : Addr) (ts : List Addr) (H' : Hp), H l = none → Same H H' → H' l = some (.lst (ts.map V.ref)) → Paired (fun (p : Key × V) t => H t = none ∧ t ≠ l ∧ H' t = some (.tup [kV p.1, p.2])) kvs ts → Q (.ref l) H'
theorem kV_rel {k : Key} {u : Value} {prog : Program} {w : World} (h : (mixKind prog w).is k u = true) : RelV (kV k) u := by
  rcases keyIs_shape (show keyIs k u = true from h) with ⟨i, t, rfl, rfl⟩ | ⟨x, t, rfl, rfl⟩
  · exact ⟨t, rfl⟩
  · exact ⟨t, rfl⟩
theorem kv_get {κ : Type} : ∀ {kvs : List (κ × V)} {vs : List (κ × Value)}, KV kvs vs → ∀ (i : Nat) (p : κ × Value), vs[i]? = some p → ∃ q, kvs[i]? = some q ∧ q.1 = p.1 ∧ RelV q.2 p.2
  | _, _, .nil, i, p, h => by simp at h
  | q :: _, _, .cons hq _, 0, p, h => by
    simp at h
    subst h
    exact ⟨q, rfl, hq.1, hq.2⟩
  | _, _, .cons _ t, i + 1, p, h => by
    obtain ⟨q, h1, h2⟩ := kv_get t i p (by simpa using h)
    exact ⟨q, by simpa using h1, h2⟩
/-- the objects at as are the pairs -/
noncomputable def pairsH (H : Hp) (kvs : List (Key × V)) (as : List Addr) : Hp := fun b => match as.findIdx? (· == b) with
  | some i => (kvs[i]?).map fun q => .tup [kV q.1, q.2]
  | none => H b
theorem pairsH_in {H : Hp} {kvs : List (Key × V)} {as : List Addr} (nd : as.Pairwise (· < ·)) {i : Nat} {a : Addr} (h : as[i]? = some a) : pairsH H kvs as a = (kvs[i]?).map fun q => .tup [kV q.1, q.2] := by
  unfold pairsH
  obtain ⟨hi, e⟩ := List.getElem?_eq_some_iff.mp h
  have : as.findIdx? (· == a) = some i := by
    rw [List.findIdx?_eq_some_iff_getElem]
    refine ⟨hi, by simpa using e, fun j hj => ?_⟩
    have := List.pairwise_iff_getElem.mp nd j i (by omega) hi hj
    rw [e] at this
    have : as[j] ≠ a := Nat.ne_of_lt this
    simpa using this
  rw [this]
theorem pairsH_out {H : Hp} {kvs : List (Key × V)} {as : List Addr} {b : Addr} (h : b ∉ as) : pairsH H kvs as b = H b := by
  unfold pairsH
  have : as.findIdx? (· == b) = none := by
    rw [List.findIdx?_eq_none_iff]
    intro x hx
    have : x ≠ b := fun z => h (z ▸ hx)
    simpa using this
  rw [this]
theorem call_listV (hc : X.calm = true) : CallR X (.type "list") rListV := by
  intro pins s σ H xs us Q I r h
  obtain ⟨v, d, kvs, rfl, hv, hd, q⟩ := h
  obtain ⟨u, rfl, ru⟩ := vals1 r
  cases ru
  obtain ⟨z, hdS, vs, rel, dd⟩ := dk_rd I.hok (.inl hd)
  obtain ⟨ep, hat⟩ := dd.dictAt
  have hvw : s.heap.IsItemsView v d := (show ObjOk X.prog X.w H s.heap v (ViewO v d) from I.hok v _ hv).1
  have hlen : kvs.length = vs.length := Paired.length rel
  refine kdx_call (knd := mixKind X.prog X.w) (I.ok.hd hc) hvw hat (by rw [← hlen]; exact z) fun h' tk acc c as hk hS hl G hacc => ?_
  have hfr : ∀ a ∈ as, s.heap.objs.size < a := G.above
  let l := s.heap.objs.size
  let Hp2 : Hp := upd (pairsH H kvs as) l (.lst (as.map V.ref))
  have hla : l ∉ as := fun z => Nat.lt_irrefl _ (hfr l z)
  have hsub : ∀ b o, H b = some o → Hp2 b = some o := fun b o e => by
    have hb : b < s.heap.objs.size := I.hok.lt e
    show upd (pairsH H kvs as) l _ b = _
    rw [upd_ne (Nat.ne_of_lt hb), pairsH_out fun z => Nat.lt_asymm hb (hfr b z)]
    exact e
  have hpair : ∀ (j : Nat) (a : Addr), as[j]? = some a → ∃ p, kvs[j]? = some p ∧ Hp2 a = some (.tup [kV p.1, p.2]) ∧ ∃ key x, h'.get? a = some { cls := .type "tuple", data := .seq #[key, x] } ∧ RelV (kV p.1) key ∧ RelV p.2 x := fun j a e => by
    obtain ⟨key, k, x, e1, e2, e3⟩ := G.pairs j a e
    obtain ⟨p, p1, p2, p3⟩ := kv_get rel j (k, x) e1
    refine ⟨p, p1, ?_, key, x, e3, by rw [p2]; exact kV_rel e2, p3⟩
    show upd (pairsH H kvs as) l _ a = _
    rw [upd_ne (fun z => hla (by rw [← z]; exact List.mem_of_getElem? e)), pairsH_in G.rise e, p1]
    rfl
  have I2 : Inv X pins σ Hp2 { s with heap := h', toks := tk } := by
    refine I.many (t' := tk) hk hsub fun b o e => ?_
    by_cases hb : b = l
    · subst hb
      have e' : some (HO.lst (as.map V.ref)) = some o := by rw [← e]; exact upd_same.symm
      cases e'
      refine .inr ⟨Nat.le_refl _, ?_, as.map Value.ref, c, ?_, ?_⟩
      · rw [List.length_map, hl, ← hlen]; exact z
      · clear hpair e hsub hla hfr G hacc hl
        induction as with
        | nil => exact .nil
        | cons a as ih => exact .cons rfl ih
      · have e1 : (as.map Value.ref).toArray = acc := by rw [← hacc]
        rw [e1]; exact hS
    · by_cases hba : b ∈ as
      · obtain ⟨j, hj, ej⟩ := List.getElem_of_mem hba
        obtain ⟨p, p1, p2, key, x, p3, p4, p5⟩ := hpair j b (by rw [List.getElem?_eq_getElem hj, ej])
        rw [p2] at e
        cases e
        exact .inr ⟨Nat.le_of_lt (hfr b hba), by show 2 ≤ sizeLine; decide, [key, x], .cons p4 (.cons p5 .nil), ⟨_, p3, rfl, _, rfl⟩⟩
      · refine .inl ?_
        have e' : upd (pairsH H kvs as) l (.lst (as.map V.ref)) b = some o := e
        rw [upd_ne hb, pairsH_out hba] at e'
        exact e'
  refine ⟨.ref l, Hp2, I2, rfl, q l as Hp2 (I.hok.fresh (Nat.le_refl _)) hsub upd_same ?_⟩
  have hl' : as.length = kvs.length := by rw [hl, hlen]
  have go : ∀ (ks : List (Key × V)) (bs : List Addr), bs.length = ks.length → (∀ (j : Nat) (a : Addr), bs[j]? = some a → ∃ p, ks[j]? = some p ∧ H a = none ∧ a ≠ l ∧ Hp2 a = some (.tup [kV p.1, p.2])) → Paired (fun (p : Key × V) t => H t = none ∧ t ≠ l ∧ Hp2 t = some (.tup [kV p.1, p.2])) ks bs := by
    intro ks
    induction ks with
    | nil => intro bs hb _; rw [List.eq_nil_of_length_eq_zero hb]; exact .nil
    | cons p ks ih =>
      intro bs hb hj
      cases bs with
      | nil => simp at hb
      | cons a bs =>
        obtain ⟨p', e1, e2⟩ := hj 0 a rfl
        simp at e1
        subst e1
        exact .cons e2 (ih bs (by simpa using hb) fun j a e => by simpa using hj (j + 1) a (by simpa using e))
  refine go kvs as hl' fun j a e => ?_
  obtain ⟨p, p1, p2, _⟩ := hpair j a e
  have hm := List.mem_of_getElem? e
  exact ⟨p, p1, I.hok.fresh (Nat.le_of_lt (hfr a hm)), fun z => hla (z ▸ hm), p2⟩
end
end L2
namespace L2
open PySem PySem.Spec PyProof.Rows PySem.W
section
variable {prog : Program} {w : World} {A : Around} {E : Value → Shared → Prop} {s : Shared}
end
section
variable {prog : Program} {w : World} {K : Type} [DecidableEq K] {knd : KeyKind prog w K} {A : Around} {R : Result → Shared → Prop} {I : Addr} {fp wr : List Addr} {G : Array GenState → Array GenState → Prop} {n : Nat} {P : Nat → Value → Prop} {St : Nat → Shared → Prop}
end
end L2
namespace L2
open PySem PySem.Spec PyProof.Rows PySem.W
section
variable {prog : Program} {w : World} {K : Type} [DecidableEq K] {knd : KeyKind prog w K} {A : Around} {E : Value → Shared → Prop} {s : Shared}
end
section
variable {X : Cx}
end
end L2

/-! ### a dict is walked: its object is known while it is so -/
namespace L2
open PySem PySem.Spec PyProof.Rows PySem.W
section
variable {X : Cx} {pins pins0 : List (Addr × Obj)} {σ σ0 : List (Option V)} {H H0 : Hp} {s s0 : Shared} {d : Addr} {u u' u0 : HO} {o : Obj}
/-- what stands at d is told otherwise -/
theorem Inv.retag (I : Inv X pins σ H s) (hd : H d = some u) (h1 : ∀ a, u ≠ .own a) (h2 : ∀ xs, u ≠ .tup xs) (b1 : ∀ xs, X.H₀ d ≠ some (.tup xs)) (b2 : ∀ o v, X.H₀ d ≠ some (.frz o v)) (b3 : ∀ ps, X.H₀ d ≠ some (.tbl ps))
    (new : ObjOk X.prog X.w (upd H d u') s.heap d u') : Inv X pins σ (upd H d u') s := by
  have ne : ∀ {b : Addr}, H b = none → b ≠ d := fun h z => by rw [z, hd] at h; cases h
  refine ⟨I.ok, I.os, I.bare, ⟨I.base.keep, I.base.slot, fun b ob q n hx => ?_, I.base.there, fun b xs q => ?_, fun b ob w q => ?_, fun b ps q => ?_⟩, I.loc, I.cell, ?_, fun x c e => ?_, fun p hp => ?_, fun b w q => ?_, I.len⟩
  · have := I.base.free b ob q n hx
    rw [upd_ne (ne this)]; exact this
  · rw [upd_ne (fun z => b1 xs (by rw [← z]; exact q))]; exact I.base.tups b xs q
  · rw [upd_ne (fun z => b2 ob w (by rw [← z]; exact q))]; exact I.base.frzs b ob w q
  · rw [upd_ne (fun z => b3 ps (by rw [← z]; exact q))]; exact I.base.tbls b ps q
  · rw [upd_ne (ne I.free)]; exact I.free
  · rw [upd_ne (ne (I.freeC x c e))]; exact I.freeC x c e
  · obtain ⟨a1, a2, a3⟩ := I.pin p hp
    exact ⟨a1, by rw [upd_ne (ne a2)]; exact a2, a3⟩
  · by_cases hb : b = d
    · subst hb
      rw [upd_same] at q
      cases q
      exact new
    · rw [upd_ne hb] at q
      refine (I.hok b w q).stay (fun c v _ q' => q') (fun c q' => ?_) fun c xs q' => ?_
      · rw [upd_ne (fun z => by rw [z, hd] at q'; exact h1 b (Option.some.inj q'))]; exact q'
      · rw [upd_ne (fun z => by rw [z, hd] at q'; exact h2 xs (Option.some.inj q'))]; exact q'
theorem Inv.base_dK {kvs : List (Key × V)} (I : Inv X pins σ H s) (hd : H d = some (.dK kvs)) : (∀ xs, X.H₀ d ≠ some (.tup xs)) ∧ (∀ o v, X.H₀ d ≠ some (.frz o v)) ∧ ∀ ps, X.H₀ d ≠ some (.tbl ps) := by
  refine ⟨fun xs z => ?_, fun o v z => ?_, fun ps z => ?_⟩
  · have := I.base.tups d xs z; rw [hd] at this; cases this
  · have := I.base.frzs d o v z; rw [hd] at this; cases this
  · obtain ⟨m, this⟩ := I.base.tbls d ps z; rw [hd] at this; cases this
theorem Inv.freeze {kvs : List (Key × V)} (I : Inv X pins σ H s) (hd : H d = some (.dK kvs)) (ho : s.heap.get? d = some o) : Inv X pins σ (upd H d (.frz o (.dK kvs))) s := by
  obtain ⟨b1, b2, b3⟩ := I.base_dK hd
  exact I.retag hd (fun a z => nomatch z) (fun xs z => nomatch z) b1 b2 b3 ⟨ho, (show ObjOk X.prog X.w H s.heap d (.dK kvs) from I.hok d _ hd)⟩
theorem Inv.thaw {kvs kvs0 : List (Key × V)} (I0 : Inv X pins0 σ0 H0 s0) (h0 : H0 d = some (.dK kvs0)) (I : Inv X pins σ H s) (hd : H d = some (.frz o (.dK kvs))) : Inv X pins σ (upd H d (.dK kvs)) s := by
  obtain ⟨b1, b2, b3⟩ := I0.base_dK h0
  exact I.retag hd (fun a z => nomatch z) (fun xs z => nomatch z) b1 b2 b3 (show ObjOk X.prog X.w H s.heap d (.frz o (.dK kvs)) from I.hok d _ hd).2
end
/-- (k0, v0), (k1, v1), ..: a new tuple each time -/
noncomputable def Itd (d : Addr) (o : Obj) (kvs : List (Key × V)) : It :=
  ⟨fun i H => H d = some (.frz o (.dK kvs)) ∧ i < kvs.length, fun i H x H' => ∃ T p, x = .ref T ∧ H T = none ∧ kvs[i]? = some p ∧ H' = upd H T (.tup [kV p.1, p.2]), fun i H => H d = some (.frz o (.dK kvs)) ∧ kvs.length ≤ i⟩
theorem frz_at {X : Cx} {pins : List (Addr × Obj)} {σ : List (Option V)} {H : Hp} {s : Shared} {d : Addr} {o : Obj} {kvs : List (Key × V)} {es : Array DictEntry} {ep : Nat} (I : Inv X pins σ H s) (hd : H d = some (.frz o (.dK kvs))) (ho : o.data = .dict es ep) :
    ∃ vs, KV kvs vs ∧ s.heap.DictAt (mixKind X.prog X.w) d vs ep := by
  obtain ⟨hg, _, _, vs, rel, o', es', ep', h1, h2, h3, h4⟩ := (show ObjOk X.prog X.w H s.heap d (.frz o (.dK kvs)) from I.hok d _ hd)
  rw [hg] at h1
  cases h1
  rw [ho] at h3
  cases h3
  exact ⟨vs, rel, o, es, hg, h2, ho, h4⟩
theorem turn_items {P : Program} {w : World} {K : PySem.W.Frag} {elts : List Expr} {x1} {pos : Pos} (d it : Addr) (o : Obj) (es : Array DictEntry) (ep : Nat) (ho : o.data = .dict es ep) (kvs : List (Key × V)) (hne : d ≠ it) :
    Turn P w K (.Tuple elts x1 pos) (Itd d o kvs) [it] it (fun i h => ∃ ok ov, IsItemIter h it d i kvs.length ep ok ov) where
  mem := by simp
  obj := fun i h st b hb => by
    obtain ⟨ok, ov, he⟩ := st
    have z : b = it := by simpa using hb
    subst z
    exact ⟨_, he, fun v z => by
      have z' : Data.fields _ = Data.cell v := z
      cases z'⟩
  keep := fun i h h' st k => by
    obtain ⟨ok, ov, he⟩ := st
    exact ⟨ok, ov, k it (by simp) _ he⟩
  item := by
    intro X hP hw hK hc i pins s σ H E I hf st hg
    subst hP hw hK
    obtain ⟨ok, ov, he⟩ := st
    obtain ⟨hd, hi⟩ := hg
    obtain ⟨vs, rel, hat⟩ := frz_at I hd ho
    have hlen : kvs.length = vs.length := Paired.length rel
    obtain ⟨g0, g1, g2, g3, g4, g5⟩ := hf it (by simp)
    have fT : H s.heap.objs.size = none := I.fresh
    have hvi : vs[i]? = some vs[i] := List.getElem?_eq_getElem (by omega)
    obtain ⟨p, hp1, hp2, hp3⟩ := kv_get rel i _ hvi
    rw [hlen] at he
    refine wpAny_pyNext_items_item (k := (vs[i]).1) (v := (vs[i]).2) he hat hvi fun key h' hkey heo ht hsz hk => ⟨_, rfl, ?_⟩
    refine wpAny_letOwnedTupleGo_items heo fun h2 he2 hs2 => ?_
    have hs2 : Heap.SameBut it h' h2 := hs2
    have heT : it ≠ s.heap.objs.size := Nat.ne_of_lt (Heap.lt_size he)
    have oldK : ∀ b o, b ≠ it → s.heap.get? b = some o → h2.get? b = some o := fun b o h1 q => hs2.extBut b o h1 (hk b o h1 q)
    have hT2 : h2.get? s.heap.objs.size = some { cls := .type "tuple", data := .seq #[key, (vs[i]).2] } := hs2.extBut _ _ (Ne.symm heT) ht
    have neT : ∀ b o, s.heap.get? b = some o → b ≠ s.heap.objs.size := fun b o q => Nat.ne_of_lt (Heap.lt_size q)
    have nH : ∀ b w', H b = some w' → b ≠ it := fun b w' q z => by rw [z, g0] at q; cases q
    have I2 : Inv X pins σ (upd H s.heap.objs.size (.tup [kV p.1, p.2])) { s with heap := h2, toks := s.toks } := by
      refine I.step (g' := s.gens) (d' := s.drawn) (t' := s.toks) (ch := [it]) (fun b hb => ?_) (fun b o _ _ hb q _ => ?_) (fun b o _ _ hb q _ => ?_) (fun b o _ q n => ?_) (fun b o hb q => ?_)
        (fun b ys q => ?_) (fun b o w' q => ?_) (fun b ps q => ?_) (fun m hm => ?_) (fun b w' q => ?_) I.bare
      · have z : b = it := by simpa using hb
        subst z; exact ⟨g3, g1, g4, g5⟩
      · exact oldK b o (fun z => hb (by simp [z])) q
      · exact ⟨o.slots, oldK b o (fun z => hb (by simp [z])) q⟩
      · rw [upd_ne (neT b o q)]; exact n
      · exact ⟨o, oldK b o (fun z => hb (by simp [z])) q⟩
      · rw [upd_ne (ne_of_none q fT)]; exact q
      · rw [upd_ne (ne_of_none q fT)]; exact q
      · exact ⟨#[], by rw [upd_ne (ne_of_none q fT), q]; simp⟩
      · obtain ⟨o, es, ep, ho, r⟩ := hm
        exact ⟨o, es, ep, oldK _ o (Ne.symm g1) ho, r⟩
      · by_cases hb : b = s.heap.objs.size
        · subst hb
          rw [upd_same] at q
          cases q
          exact ⟨by show 2 ≤ sizeLine; decide, [key, (vs[i]).2], .cons (by rw [hp2]; exact kV_rel hkey) (.cons hp3 .nil), _, hT2, rfl, _, rfl⟩
        · rw [upd_ne hb] at q
          refine (I.hok b w' q).stay (fun c v hc q' => oldK c v ?_ q') (fun c q' => ?_) fun c ys q' => ?_
          · rcases hc with z | z
            · rw [z]; exact nH b w' q
            · exact nH c _ z
          · rw [upd_ne (ne_of_none q' fT)]; exact q'
          · rw [upd_ne (ne_of_none q' fT)]; exact q'
    refine ⟨.ref s.heap.objs.size, _, I2, rfl, ⟨s.heap.objs.size, p, rfl, fT, hp1, rfl⟩, ⟨key, (vs[i]).2, ?_⟩, fun b hb => ?_⟩
    · rw [hlen]; exact he2
    · have z : b = it := by simpa using hb
      rw [z, upd_ne heT]; exact g0
  done := by
    intro X hP hw hK hc i pins s σ H E I hf st hg
    subst hP hw hK
    obtain ⟨ok, ov, he⟩ := st
    obtain ⟨hd, hi⟩ := hg
    obtain ⟨vs, rel, hat⟩ := frz_at I hd ho
    have hlen : kvs.length = vs.length := Paired.length rel
    obtain ⟨g0, g1, g2, g3, g4, g5⟩ := hf it (by simp)
    rw [hlen] at he
    refine wpAny_pyNext_items_end (I.ok.hd hc) he hat (List.getElem?_eq_none (by omega)) fun h' eb => ⟨rfl, I.turned (t' := s.toks) (fun b o hb e' => eb b o hb e') g0 g1 g3 g4 g5⟩
  self := fun A i s Q E st h => by
    obtain ⟨ok, ov, he⟩ := st
    have hT : s.TypeIs (.ref it) "dict_itemiterator" := ⟨_, he, rfl⟩
    refine wpAny_pyIter_slot hT PySem.F.slot_dict_itemiterator_iter (wpAny_call_entry PySem.F.slot_dict_itemiterator_iter hT kcp_entry ?_ (PySem.F.args_dict_itemiterator_iter_1 _))
    show wpAny _ _ (ret (.ref it)) _ _ s
    exact wpAny_pure ⟨_, rfl, "dict_itemiterator", _, hT, PySem.F.slot_dict_itemiterator_next.lookup, h⟩
section
variable {X : Cx}
/-- .. in d.items(): the dict's object is known from then on -/
noncomputable def iItems (td : TE) : TI := fun σ H R => td σ H fun x H1 => ∃ (d : Addr) (kvs : List (Key × V)), x = .ref d ∧ H1 d = some (.dK kvs) ∧ ∀ (o : Obj) (v : Addr), H1 v = none → v ≠ d → R (Itd d o kvs) (upd (upd H1 v (ViewO v d)) d (.frz o (.dK kvs)))
theorem pi_items {e : Expr} {td : TE} {elts : List Expr} {x1} {apos cpos pt : Pos} (he : PE X e td)
    (hbase : attributeBase e "items" X.env (eval e X.env) = eval e X.env := by rfl) (hline : (apos.endLine == cpos.line) = true := by rfl) :
    PI X (.Tuple elts x1 pt) (.Call (.Attribute e "items" apos) [] [] cpos) (iItems td) := by
  intro pins s σ H R I h
  refine wpAny_Call_method0_late hbase hline (thn (he pins s σ H _ I h) fun v s1 ⟨x, H1, I1, r1, d, kvs, ex, hd, q1⟩ => ?_)
  subst ex
  cases (show v = Value.ref d from r1)
  obtain ⟨z, hdS, vs, rel, dd⟩ := dk_rd I1.hok (.inl hd)
  have hlen : kvs.length = vs.length := Paired.length rel
  have h2 : ∀ a, Value.ref d = .ref a → ∃ ob, s1.heap.get? a = some ob ∧ ob.dict = none := fun a e => by
    cases e
    obtain ⟨o, _, _, ho, hex, _⟩ := id dd
    exact ⟨o, ho, hex.2.1⟩
  refine ⟨"dict", "dict.items", PySem.F.plainAttrs_dict, PySem.F.slot_dict_items, PySem.F.type_dict_items, dd.typeIs, h2, Calls.callWith_builtin rfl (PySem.evalArgs_none ?_)⟩
  refine call_meetsIn PySem.F.slot_dict_items dd.typeIs PySem.F.entry_dict_items (PySem.F.args_dict_items_1 _) (meets_dict_items (mixKind X.prog X.w) d hdS) ⟨⟨vs, dd⟩, ?_⟩
  have fV : H1 s1.heap.objs.size = none := I1.hok.fresh (Nat.le_refl _)
  have hdlt : d < s1.heap.objs.size := I1.hok.lt hd
  have IV : Inv X pins σ (upd H1 s1.heap.objs.size (ViewO s1.heap.objs.size d)) { s1 with heap := s1.heap.push { cls := .type "dict_items", data := .fields #[.ref d] }, toks := s1.toks } :=
    I1.laid (t' := s1.toks) (fun b u e => Heap.get?_push_of_some _ e) (Nat.le_refl _) ⟨⟨_, Heap.get?_push_size _ rfl, rfl, rfl⟩, ⟨_, Heap.get?_push_size _ rfl⟩, fun h1 h2 x k => by
      obtain ⟨o, ho, r⟩ := x
      exact ⟨o, k o ho, r⟩⟩
  have hd' : upd H1 s1.heap.objs.size (ViewO s1.heap.objs.size d) d = some (.dK kvs) := by rw [upd_ne (Nat.ne_of_lt hdlt)]; exact hd
  obtain ⟨o, es, ep, ho, hex, hdat, r⟩ := id dd
  have ho1 : (s1.heap.push { cls := .type "dict_items", data := .fields #[.ref d] }).get? d = some o := Heap.get?_push_of_some _ ho
  have IF := IV.freeze hd' ho1
  have hat : (s1.heap.push { cls := .type "dict_items", data := .fields #[.ref d] }).DictAt (mixKind X.prog X.w) d vs ep := ⟨o, es, ho1, hex, hdat, r⟩
  show wpAny _ _ (pyIter (.ref s1.heap.objs.size)) _ _ _
  refine wpAny_pyIter_items (knd := mixKind X.prog X.w) (d := d) ⟨_, Heap.get?_push_size _ rfl, rfl, rfl⟩ hat ?_
  have hsz : s1.heap.objs.size < (s1.heap.push { cls := .type "dict_items", data := .fields #[.ref d] }).objs.size := by rw [Heap.size_push]; exact Nat.lt_succ_self _
  refine ⟨_, [_], _, Itd d o kvs, _, rfl, IF.kept (t' := s1.toks) (fun b u e => Heap.get?_push_of_some _ e), turn_items d _ o es ep hdat kvs (Nat.ne_of_lt (Nat.lt_trans hdlt hsz)), ⟨.none, .none, ?_⟩, fun b hb => ?_, q1 o _ fV (Nat.ne_of_gt hdlt)⟩
  · rw [hlen]
    exact Heap.get?_push_size _ rfl
  · have zb : b = (s1.heap.push { cls := .type "dict_items", data := .fields #[.ref d] }).objs.size := by simpa using hb
    subst zb
    exact IF.fpOk (Nat.le_refl _) (IF.hok.fresh (Nat.le_refl _))
/-- .. and let go behind the expression -/
noncomputable def tThaw (te : TE) : TE := fun σ H Q => ∃ (d : Addr) (kvs0 : List (Key × V)), H d = some (.dK kvs0) ∧ te σ H fun v H' => ∃ o kvs, H' d = some (.frz o (.dK kvs)) ∧ Q v (upd H' d (.dK kvs))
theorem pe_thaw {e : Expr} {te : TE} (he : PE X e te) : PE X e (tThaw te) := by
  intro pins s σ H Q I h
  obtain ⟨d, kvs0, hd, q⟩ := h
  refine thn (he pins s σ H _ I q) fun v s1 ⟨x, H1, I1, r1, o, kvs, hf, q1⟩ => ?_
  exact ⟨x, _, Inv.thaw I hd I1 hf, r1, q1⟩
end
end L2

/-! ### objects and dicts: readings step by step -/
namespace L2
open PySem PySem.Spec PyProof.Rows PySem.W
section
variable {X : Cx}
noncomputable def rLenD : List V → Hp → VK → Prop := fun xs H Q => ∃ a kvs, xs = [V.ref a] ∧ H a = some (.dK kvs) ∧ Q (.int kvs.length) H
theorem call_lenDk : CallR X (.builtin "len") rLenD := call_lenD
end
section
variable {K : PySem.W.Frag} {σ : St} {H : Hp} {Q : VK} {D : Ends} {R : Hp → Prop} {ta td ty tv : TE} {t : TA} {f m n : Str} {sp : Sp} {E : XK} {C c d dx : Addr} {fs : List (Str × V)} {v y : V} {kvs : List (Key × V)}
noncomputable def fldK (K : PySem.W.Frag) (f : Str) (Q : VK) : VK := fun x H1 => ∃ a C dx fs v, x = .ref a ∧ H1 a = some (.ins C dx fs) ∧ Cls K C ∧ NoAttr K C f ∧ fs.lookup f = some v ∧ Q v H1
theorem r_fld (h : ta σ H (fldK K f Q)) : tFld K ta f σ H Q := h
theorem k_fld (h : H c = some (.ins C dx fs)) (cl : Cls K C) (na : NoAttr K C f) (l : fs.lookup f = some v) (q : Q v H) : fldK K f Q (.ref c) H := ⟨c, C, dx, fs, v, rfl, h, cl, na, l, q⟩
noncomputable def stoK (K : PySem.W.Frag) (f : Str) (y : V) (R : Hp → Prop) : VK := fun x H2 => ∃ a C dx fs, x = .ref a ∧ H2 a = some (.ins C dx fs) ∧ Cls K C ∧ NoAttr K C f ∧ fs.length < 1000 ∧ R (upd H2 a (.ins C dx (putF f y fs)))
theorem r_sfld (h : tv σ H fun y H1 => ta σ H1 (stoK K f y (D.nx σ))) : sFld K ta tv f D σ H := h
theorem k_sto (h : H c = some (.ins C dx fs)) (cl : Cls K C) (na : NoAttr K C f) (l : fs.length < 1000) (q : R (upd H c (.ins C dx (putF f y fs)))) : stoK K f y R (.ref c) H := ⟨c, C, dx, fs, rfl, h, cl, na, l, q⟩
noncomputable def augK (K : PySem.W.Frag) (f : Str) (tv : TE) (rd : V → V → Hp → VK → Prop) (σ : St) (R : Hp → Prop) : VK := fun x H1 => ∃ a C dx fs v, x = .ref a ∧ H1 a = some (.ins C dx fs) ∧ Cls K C ∧ NoAttr K C f ∧ fs.lookup f = some v ∧
  tv σ H1 fun y H2 => rd v y H2 fun z H3 => ∃ dx' fs', H3 a = some (.ins C dx' fs') ∧ fs'.length < 1000 ∧ R (upd H3 a (.ins C dx' (putF f z fs')))
theorem r_faug {rd : V → V → Hp → VK → Prop} (h : ta σ H (augK K f tv rd σ (D.nx σ))) : sFldAug K ta tv rd f D σ H := h
theorem k_aug {rd : V → V → Hp → VK → Prop} (h : H c = some (.ins C dx fs)) (cl : Cls K C) (na : NoAttr K C f) (l : fs.lookup f = some v)
    (q : tv σ H fun y H2 => rd v y H2 fun z H3 => ∃ dx' fs', H3 c = some (.ins C dx' fs') ∧ fs'.length < 1000 ∧ R (upd H3 c (.ins C dx' (putF f z fs')))) : augK K f tv rd σ R (.ref c) H := ⟨c, C, dx, fs, v, rfl, h, cl, na, l, q⟩
noncomputable def mthK (C : Addr) (m : Str) (sp : Sp) (E : XK) (t : TA) (σ : St) (Q : VK) : VK := fun x H1 => ∃ a dx fs, x = .ref a ∧ H1 a = some (.ins C dx fs) ∧ fs.lookup m = none ∧ t σ H1 fun vs H2 => sp (x :: vs) H2 Q E
theorem r_meth (h : ta σ H (mthK C m sp E t σ Q)) : tMeth C m sp [] E ta t σ H Q := by
  have e : (fun x H1 => ∃ a dx fs, x = V.ref a ∧ H1 a = some (HO.ins C dx fs) ∧ fs.lookup m = none ∧ t σ H1 fun vs H2 => sp (x :: (vs ++ [])) H2 Q E) = mthK C m sp E t σ Q := by
    unfold mthK
    simp only [List.append_nil]
  show ta σ H (fun x H1 => ∃ a dx fs, x = V.ref a ∧ H1 a = some (HO.ins C dx fs) ∧ fs.lookup m = none ∧ t σ H1 fun vs H2 => sp (x :: (vs ++ [])) H2 Q E)
  rw [e]
  exact h
theorem k_meth (h : H c = some (.ins C dx fs)) (l : fs.lookup m = none) (q : t σ H fun vs H2 => sp (.ref c :: vs) H2 Q E) : mthK C m sp E t σ Q (.ref c) H := ⟨c, dx, fs, rfl, h, l, q⟩
theorem r_make (h : ∀ x dx, H x = none → H dx = none → dx ≠ x → sp [.ref x] (upd (upd H dx (.own x)) x (.ins C dx [])) (fun v H2 => v = .non ∧ Q (.ref x) H2) E) : tMake C sp [] E tNil σ H Q := h
noncomputable def dpK (v : V) (R : Hp → Prop) (x y : V) (H : Hp) : Prop := ∃ a H4, x = .ref a ∧ DPut H a y v H4 ∧ R H4
theorem r_dput (h : tv σ H fun v H1 => td σ H1 fun x H2 => ty σ H2 fun y H3 => dpK v (D.nx σ) x y H3) : sDPut td ty tv D σ H := h
theorem k_dput (h : H d = some (.dK kvs)) (l : kvs.length < sizeLine) (q : R (upd H d (.dK (putK kvs (.inr n) v)))) : dpK v R (.ref d) (.str n) H := ⟨d, _, rfl, DPut.k (k := .inr n) h l, q⟩
noncomputable def diK (Q : VK) (neg : Bool) (y x : V) (H : Hp) : Prop := ∃ a o, x = .ref a ∧ DGet H a y o ∧ Q (.bl (o.isSome != neg)) H
theorem r_din (h : ty σ H fun y H1 => td σ H1 fun x H2 => diK Q false y x H2) : tDIn ty td σ H Q := by
  have e : (fun y H1 => td σ H1 fun x H2 => diK Q false y x H2) = fun y H1 => td σ H1 fun x H2 => ∃ a o, x = .ref a ∧ DGet H2 a y o ∧ Q (.bl o.isSome) H2 := by
    unfold diK
    simp only [Bool.bne_false]
  rw [e] at h
  exact h
theorem r_dnin (h : ty σ H fun y H1 => td σ H1 fun x H2 => diK Q true y x H2) : tDNotIn ty td σ H Q := by
  have e : (fun y H1 => td σ H1 fun x H2 => diK Q true y x H2) = fun y H1 => td σ H1 fun x H2 => ∃ a o, x = .ref a ∧ DGet H2 a y o ∧ Q (.bl (!o.isSome)) H2 := by
    unfold diK
    simp only [Bool.bne_true]
  rw [e] at h
  exact h
theorem k_din {neg : Bool} (h : H d = some (.dK kvs)) (q : Q (.bl ((valV kvs (.inr n)).isSome != neg)) H) : diK Q neg (.str n) (.ref d) H := ⟨d, _, rfl, DGet.k (k := .inr n) h, q⟩
noncomputable def popK (ty : TE) (σ : St) (Q : VK) : VK := fun x H1 => ∃ a, x = .ref a ∧ IsD H1 a ∧ ty σ H1 fun y H2 => ∃ kvs k v, H2 a = some (.dK kvs) ∧ y = kV k ∧ valV kvs k = some v ∧ Q v (upd H2 a (.dK (dropK kvs k)))
theorem r_pop (h : td σ H (popK ty σ Q)) : tDPop1 td ty σ H Q := h
theorem k_lenD (h : H d = some (.dK kvs)) (q : Q (.int kvs.length) H) : rLenD [.ref d] H Q := ⟨d, kvs, rfl, h, q⟩
theorem k_items (h : H d = some (.dK kvs)) (q : ∀ v H1, H v = none → Same H H1 → H1 v = some (ViewO v d) → Q (.ref v) H1) : tyV K "dict" (.ref d) H ∧ rItems (.ref d) [] H Q :=
  ⟨.inr (.inr (.inl ⟨rfl, .inl ⟨kvs, h⟩⟩)), d, kvs, rfl, rfl, h, fun v hv => q v _ hv (Same.updN hv) upd_same⟩
theorem r_dnew (h : ∀ p H1, H p = none → Same H H1 → H1 p = some (.dK []) → Q (.ref p) H1) : tDNewK σ H Q := fun p hp => h p _ hp (Same.updN hp) upd_same
theorem r_isiT {b : Bool} {p : Addr} {ys : List V} {nm : String} (hs : H p = some (.tup ys)) (e : PySem.W.kitOne K (.type "tuple") (.type nm) = some b) (h : Q (.bl b) H) : rIsi K [.ref p, .ty nm] H Q := ⟨_, _, _, b, rfl, .tup hs, e, h⟩
end
theorem kit_tt {K : PySem.W.Frag} : PySem.W.kitOne K (.type "tuple") (.type "tuple") = some true := by rfl
theorem paired_mapR {α β γ : Type} {F : β → γ → Prop} {f : α → β} : ∀ {xs : List α} {ys : List γ}, Paired (fun x y => F (f x) y) xs ys → Paired F (xs.map f) ys
  | _, _, .nil => .nil
  | _, _, .cons h t => .cons h (paired_mapR t)
theorem pair_get {α β : Type} {F : α → β → Prop} : ∀ {l₁ : List α} {l₂ : List β} {i : Nat} {a : α}, Paired F l₁ l₂ → l₁[i]? = some a → ∃ b, l₂[i]? = some b ∧ F a b
  | _, _, _, _, .nil, e => by simp at e
  | _, _, 0, _, .cons r _, e => by simp at e; subst e; exact ⟨_, rfl, r⟩
  | _, _, i + 1, x, .cons _ t, e => by
    obtain ⟨u, h1, h2⟩ := pair_get (i := i) (a := x) t (by simpa using e)
    exact ⟨u, by simpa using h1, h2⟩
/-! ### new tuples, item by item -/
section
variable {mp : List (Option Nat)} {g : TG} {tt : TT} {te : TE} {J : It} {P : Hp → Prop} {n : Nat} {f : Nat → St → St} {σ : St} {H : Hp} {Q : VK}
theorem comp_tupsVY (Y : Ys J g P n f) (st : Nat → St) (hf : ∀ i σ', (σ' = liftSt mp σ ∨ ∃ j, σ' = st j) → f i σ' = st i) (hP : ∀ H', Same H H' → P H') (hz : n ≤ sizeLine) (b : Nat → Bool) (row : Nat → List V)
    (ht : ∀ i, i < n → ∀ (H' : Hp) (G : Bool → Hp → Prop), Same H H' → (∀ H'', Same H' H'' → G (b i) H'') → tt (st i) H' G)
    (he : ∀ i, i < n → b i = true → ∀ (H' : Hp) (G : VK), Same H H' → (∀ a H'', H' a = none → Same H' H'' → H'' a = some (.tup (row i)) → G (.ref a) H'') → te (st i) H' G)
    (hd : ∀ l bs H', H l = none → Same H H' → H' l = some (.lst (bs.map V.ref)) → Paired (fun i a => H' a = some (.tup (row i))) ((List.range n).filter b) bs → Q (.ref l) H') : tCompK mp g tt te J σ H Q := by
  refine comp_genY Y st hf hP hz b (fun l i v H' => ∃ a, v = .ref a ∧ a ≠ l ∧ H' a = some (.tup (row i))) (fun l i v H1 H2 s ⟨a, e, hl, h1⟩ => ⟨a, e, hl, s a _ hl h1⟩) ht
    (fun l i hi hb H' G hl ⟨o, ho⟩ s k => he i hi hb H' G s fun a H'' h0 s' h1 => k _ H'' ⟨a, rfl, (fun e => by rw [e, ho] at h0; cases h0), h1⟩ s') fun l ys H' h0 s h1 pr => ?_
  obtain ⟨bs, rfl, pr'⟩ := paired_refs (T := fun a i => a ≠ l ∧ H' a = some (.tup (row i))) pr
  exact hd l bs H' h0 s h1 (Paired.mapP pr' fun _ _ q => q.2)
end
theorem ys_items {K : PySem.W.Frag} {d : Addr} {o : Obj} {kvs : List (Key × V)} (p r : Nat) (u v : Nat → V) (hu : ∀ i q, kvs[i]? = some q → kV q.1 = u i ∧ q.2 = v i) :
    Ys (Itd d o kvs) (gTup K 2 (gCons (gName p) (gCons (gName r) gNil))) (fun H => H d = some (.frz o (.dK kvs))) kvs.length (fun i σ => (σ.set p (some (u i))).set r (some (v i))) where
  go := fun i H hi h => ⟨h, hi⟩
  stop := fun H h => ⟨h, Nat.le_refl _⟩
  yld := fun i H x H' σ Q hi h y q => by
    obtain ⟨T, w, rfl, hT, hw, rfl⟩ := y
    obtain ⟨e1, e2⟩ := hu i w hw
    refine ⟨T, _, rfl, SqT.of upd_same, rfl, _, _, rfl, _, _, rfl, rfl, ?_⟩
    have := q _ (Same.updN hT (o := .tup [kV w.1, w.2]))
    rw [← e1, ← e2] at this
    exact this
section
variable {K : PySem.W.Frag} {mp : List (Option Nat)} {te td : TE} {σ : St} {H : Hp} {Q : VK} {d : Addr} {kvs : List (Key × V)}
end
end L2

/-! ### a dict walked by its keys -/
namespace L2
open PySem PySem.Spec PyProof.Rows PySem.W
noncomputable def Itk (d : Addr) (o : Obj) (kvs : List (Key × V)) : It :=
  ⟨fun i H => H d = some (.frz o (.dK kvs)) ∧ i < kvs.length, fun i H x H' => H' = H ∧ ∃ p, kvs[i]? = some p ∧ x = kV p.1, fun i H => H d = some (.frz o (.dK kvs)) ∧ kvs.length ≤ i⟩
theorem turn_keys {P : Program} {w : World} {K : PySem.W.Frag} {tg : Expr} (d it : Addr) (o : Obj) (es : Array DictEntry) (ep : Nat) (ho : o.data = .dict es ep) (kvs : List (Key × V)) :
    Turn P w K tg (Itk d o kvs) [it] it (fun i h => h.IsKeyIter it d i kvs.length ep) where
  mem := by simp
  obj := fun i h st b hb => by
    have z : b = it := by simpa using hb
    subst z
    obtain ⟨io, e, c, dt⟩ := st
    exact ⟨io, e, fun v z => by rw [dt] at z; cases z⟩
  keep := fun i h h' st k => by
    obtain ⟨io, e, r⟩ := st
    exact ⟨io, k it (by simp) io e, r⟩
  item := by
    intro X hP hw hK hc i pins s σ H E I hf st hg
    subst hP hw hK
    obtain ⟨hd, hi⟩ := hg
    obtain ⟨vs, rel, hat⟩ := frz_at I hd ho
    have hlen : kvs.length = vs.length := Paired.length rel
    obtain ⟨f0, f1, f2, f3, f4, f5⟩ := hf it (by simp)
    have hvi : vs[i]? = some vs[i] := List.getElem?_eq_getElem (by omega)
    obtain ⟨p, hp1, hp2, hp3⟩ := kv_get rel i _ hvi
    have st' : s.heap.IsKeyIter it d i vs.length ep := by rw [← hlen]; exact st
    refine wpAny_pyNext_dict_item (knd := mixKind X.prog X.w) (k := (vs[i]).1) (v := (vs[i]).2) st' hat hvi fun key h' hkey hit' sb => ?_
    have I1 : Inv X pins σ H { s with heap := h', toks := s.toks } := I.turned (t' := s.toks) (fun b o hb e => (sb.2 b hb).trans e) f0 f1 f3 f4 f5
    obtain ⟨io, e, c, dt⟩ := id hit'
    refine ⟨_, rfl, go_of (s := { s with heap := h' }) e c dt (by decide) ⟨kV p.1, H, I1, by rw [hp2]; exact kV_rel hkey, ⟨rfl, p, hp1, rfl⟩, by rw [hlen]; exact hit', fun b hb => (hf b hb).1⟩⟩
  done := by
    intro X hP hw hK hc i pins s σ H E I hf st hg
    subst hP hw hK
    obtain ⟨hd, hi⟩ := hg
    obtain ⟨vs, rel, hat⟩ := frz_at I hd ho
    have hlen : kvs.length = vs.length := Paired.length rel
    obtain ⟨f0, f1, f2, f3, f4, f5⟩ := hf it (by simp)
    have st' : s.heap.IsKeyIter it d i vs.length ep := by rw [← hlen]; exact st
    exact wpAny_pyNext_dict_end (knd := mixKind X.prog X.w) (I.ok.hd hc) st' hat (List.getElem?_eq_none (by omega)) fun h' eb => ⟨rfl, I.turned (t' := s.toks) (fun b o hb e' => eb b o hb e') f0 f1 f3 f4 f5⟩
  self := fun _ _ _ _ _ st h => wpAny_pyIter_keyiter st h
section
variable {X : Cx} {tg : Expr}
/-- .. in d: the dict's object is known from then on -/
noncomputable def iKeys (td : TE) : TI := fun σ H R => td σ H fun x H1 => ∃ (d : Addr) (kvs : List (Key × V)), x = .ref d ∧ H1 d = some (.dK kvs) ∧ ∀ (o : Obj), R (Itk d o kvs) (upd H1 d (.frz o (.dK kvs)))
theorem pi_keys {l : Expr} {tl : TE} (hl : PE X l tl) : PI X tg l (iKeys tl) := by
  intro pins s σ H R I h
  refine thn (hl pins s σ H _ I h) fun v s1 ⟨x, H1, I1, r1, d, kvs, ex, hd, q1⟩ => ?_
  subst ex
  cases (show v = Value.ref d from r1)
  obtain ⟨z, hdS, vs, rel, dd⟩ := dk_rd I1.hok (.inl hd)
  have hlen : kvs.length = vs.length := Paired.length rel
  obtain ⟨o, es, ep, ho, hex, hdat, r⟩ := id dd
  have IF := I1.freeze hd ho
  have hat : s1.heap.DictAt (mixKind X.prog X.w) d vs ep := ⟨o, es, ho, hex, hdat, r⟩
  refine wpAny_pyIter_dict (knd := mixKind X.prog X.w) hdS hat ?_
  refine ⟨_, [_], _, Itk d o kvs, _, rfl, IF.kept (t' := s1.toks) (fun b u e => Heap.get?_push_of_some _ e), turn_keys d _ o es ep hdat kvs, ⟨_, Heap.get?_push_size _ rfl, rfl, by rw [hlen]; rfl⟩, fun b hb => ?_, q1 o⟩
  have zb : b = s1.heap.objs.size := by simpa using hb
  subst zb
  exact IF.fpOk (Nat.le_refl _) (IF.hok.fresh (Nat.le_refl _))
end
theorem ys_keys {d : Addr} {o : Obj} {kvs : List (Key × V)} (p : Nat) (u : Nat → V) (hu : ∀ i q, kvs[i]? = some q → kV q.1 = u i) :
    Ys (Itk d o kvs) (gName p) (fun H => H d = some (.frz o (.dK kvs))) kvs.length (fun i σ => σ.set p (some (u i))) where
  go := fun i H hi h => ⟨h, hi⟩
  stop := fun H h => ⟨h, Nat.le_refl _⟩
  yld := fun i H x H' σ Q hi h y q => by
    obtain ⟨e, w, hw, ex⟩ := y
    subst e ex
    rw [hu i w hw]
    exact q _ (Same.refl _)
section
variable {K : PySem.W.Frag} {mp : List (Option Nat)} {tt : TT} {te td : TE} {σ : St} {H : Hp} {Q : VK} {d : Addr} {kvs : List (Key × V)}
/-- [.. for k in d if ..]: F i where b i; d itself stands frozen the while -/
theorem comp_keys (htd : ∀ k : VK, k (.ref d) H → td σ H k) (hd : H d = some (.dK kvs)) (hz : kvs.length ≤ sizeLine) (u : Nat → V) (hu : ∀ i q, kvs[i]? = some q → kV q.1 = u i)
    (st : Nat → St) (hf : ∀ i σ', (σ' = liftSt mp σ ∨ ∃ j, σ' = st j) → σ'.set 0 (some (u i)) = st i) (b : Nat → Bool) (F : Nat → V)
    (ht : ∀ i, i < kvs.length → ∀ (H' : Hp) (G : Bool → Hp → Prop), SameX d H H' → (∀ H'', Same H' H'' → G (b i) H'') → tt (st i) H' G)
    (he : ∀ i, i < kvs.length → b i = true → ∀ (H' : Hp) (G : VK), SameX d H H' → (∀ H'', Same H' H'' → G (F i) H'') → te (st i) H' G)
    (hq : ∀ l H2, H l = none → Same H H2 → H2 l = some (.lst (((List.range kvs.length).filter b).map F)) → Q (.ref l) H2) :
    tThaw (tComp mp (iKeys td) (gName 0) tt te) σ H Q := by
  refine ⟨d, kvs, hd, ?_⟩
  refine r_comp ?_
  refine htd _ ⟨d, kvs, rfl, hd, fun o => ?_⟩
  have hl0 : ∀ a, upd H d (.frz o (.dK kvs)) a = none → H a = none := fun a ha => by
    by_cases h1 : a = d
    · subst h1; rw [upd_same] at ha; cases ha
    · rwa [upd_ne h1] at ha
  have hx : ∀ H', Same (upd H d (.frz o (.dK kvs))) H' → SameX d H H' := fun H' s a x ha h => s _ _ (by rw [upd_ne ha]; exact h)
  refine comp_filtY (ys_keys 0 u hu) st hf (fun H' s => s _ _ upd_same) hz b F (fun i hi H' G s k => ht i hi H' G (hx H' s) k) (fun i hi hb H' G s k => he i hi hb H' G (hx H' s) k) fun l H' h0 s h1 => ?_
  have hfd : H' d = some (.frz o (.dK kvs)) := s _ _ upd_same
  have hld : l ≠ d := fun e => by rw [e, upd_same] at h0; cases h0
  refine ⟨o, kvs, hfd, hq l _ (hl0 l h0) (fun a x ha => ?_) (by rw [upd_ne hld]; exact h1)⟩
  by_cases h1 : a = d
  · subst h1
    rw [upd_same, ← hd]; exact ha
  · rw [upd_ne h1]
    exact hx H' s a x h1 ha
end
end L2
/-! ### x in xs, by what they are worth -/
namespace L2
open PySem PySem.Spec PyProof.Rows PySem.W
section
variable {X : Cx}
noncomputable def rInD (K : PySem.W.Frag) (neg : Bool) : R2 := fun x y H Q => ∃ (ds : List PyData) (d : PyData), DatIs K H y (.list ds) ∧ DatIs K H x d ∧ niceD 8 (.list ds) ∧ niceD 8 d ∧ Q (.bl ((ds.any fun y => same y d) != neg)) H
theorem any_same {ds : List PyData} {d : PyData} (h1 : niceAll ds = true) (h2 : nice d = true) : (ds.any fun y => PyData.eqv y d) = ds.any fun y => same y d := by
  induction ds with
  | nil => rfl
  | cons a r ih =>
    rw [niceAll, Bool.and_eq_true] at h1
    rw [List.any_cons, List.any_cons, ih h1.2, SeqAt.same_eq_eqv a d (nice_mix a d h1.1 h2)]
theorem nice_of {ds : List PyData} (h : niceD 8 (.list ds)) : niceAll ds = true ∧ PyData.depthAll ds ≤ 8 := by
  obtain ⟨h1, h2⟩ := h
  rw [nice] at h1
  rw [PyData.depth] at h2
  exact ⟨h1, by omega⟩
theorem op_inD (hu : X.A.units + 64 < cLine) : OpR X (compareOp .In) (rInD X.K false) := by
  intro pins s σ H x y u v Q I rx ry h
  obtain ⟨ds, d, h1, h2, n1, n2, q⟩ := h
  obtain ⟨as, a⟩ := reads_of I h1 ry
  obtain ⟨bs, b⟩ := reads_of I h2 rx
  obtain ⟨m1, m2⟩ := nice_of n1
  refine SeqAt.in_list_reads a b (nice_layAll ds m1) (nice_lay d n2.1) (by have := n2.2; omega) ?_
  rw [any_same m1 n2.1]
  rw [Bool.bne_false] at q
  exact ⟨.bl _, H, I, rfl, q⟩
theorem op_ninD (hu : X.A.units + 64 < cLine) : OpR X (compareOp .NotIn) (rInD X.K true) := by
  intro pins s σ H x y u v Q I rx ry h
  obtain ⟨ds, d, h1, h2, n1, n2, q⟩ := h
  obtain ⟨as, a⟩ := reads_of I h1 ry
  obtain ⟨bs, b⟩ := reads_of I h2 rx
  obtain ⟨m1, m2⟩ := nice_of n1
  refine SeqAt.notIn_list_reads a b (nice_layAll ds m1) (nice_lay d n2.1) (by have := n2.2; omega) ?_
  rw [any_same m1 n2.1]
  rw [Bool.bne_true] at q
  exact ⟨.bl _, H, I, rfl, q⟩
end
end L2
/-! ### xs.remove(x), by what they are worth -/
namespace L2
open PySem PySem.Spec PyProof.Rows PySem.W PySem.SeqAt PySem.MeetsSeq
open PySem.AutoSeq1 (wpAny_loadPart')
theorem remove_loopAt (l : Addr) (items : Array Value) (n : Nat) (x : Value) (e : Value → Bool) (j : Nat) (hj : j < items.size) (hit : e items[j] = true) (k : Nat) (hs1 : items.size ≤ sizeLine) :
    ∀ i : Nat, j - i = k → i ≤ j → (∀ m (hm : m < items.size), i ≤ m → m < j → e items[m] = false) → Meets (Builtin.«list.remove.loop» ⟨[.ref l, x, rawInt i], []⟩)
      (fun A R s => s.heap.get? l = some { cls := .type "list", dict := none, data := .seq items n, slots := #[] } ∧ (∀ y, y ∈ items → EqAt A.in1 s y x (e y)) ∧ R (.ok (.ret .none)) { s with heap := s.heap.update l (Obj.mapSeq fun xs => xs.eraseIdxIfInBounds j) }) := by
  induction k with
  | zero =>
    intro i hk hij hno prog w A R s h
    obtain ⟨hp, g, d, tk, os⟩ := s; obtain ⟨hl, he, h⟩ := h
    have hij' : i = j := by omega
    subst hij'
    wp_walk using wpAny_loadPart' hl
    have hi : items[((i : Nat) : Int).toNat]? = some items[i] := by simp [hj]
    rw [hi]
    refine wpAny_bind (he _ (Array.getElem_mem hj) prog w _ _ ?_)
    rw [hit]
    have hz' : (items.eraseIdxIfInBounds i).size ≤ sizeLine + 1 := Nat.le_trans (size_erased items _) (Nat.le_succ_of_le hs1)
    wp_walk using (wpAny_updateSeq hl rfl (hz := hs1) (_hz' := hz')), wpAny_loadPart' hl
    simpa using h
  | succ k ih =>
    intro i hk hij hno prog w A R s h
    obtain ⟨hp, g, d, tk, os⟩ := s; obtain ⟨hl, he, h⟩ := h
    have hlt : i < items.size := by omega
    wp_walk using wpAny_loadPart' hl
    have hi : items[((i : Nat) : Int).toNat]? = some items[i] := by simp [hlt]
    have hc : ((i : Int) + 1) = ((i + 1 : Nat) : Int) := by push_cast; rfl
    rw [hi]
    refine wpAny_bind (he _ (Array.getElem_mem hlt) prog w _ _ ?_)
    rw [hno i hlt (Nat.le_refl _) (by omega)]
    wp_walk
    rw [hc]
    exact ⟨plainId_quiet plain_remove_loop _, codeAny_builtin entry_remove_loop (by
      rw [Around.under_plainId plain_remove_loop _]
      exact ih (i + 1) (by omega) (by omega) (fun m hm h1 h2 => hno m hm (by omega) h2) prog w A R _ ⟨hl, he, h⟩)⟩
theorem list_removeAt (l : Addr) (items : Array Value) (n : Nat) (x : Value) (e : Value → Bool) (j : Nat) (hj : j < items.size) (hit : e items[j] = true) (hno : ∀ m (hm : m < items.size), m < j → e items[m] = false) (hs1 : items.size ≤ sizeLine) :
    Meets (Builtin.«list.remove» ⟨[.ref l, x], []⟩)
      (fun A R s => s.heap.get? l = some { cls := .type "list", dict := none, data := .seq items n, slots := #[] } ∧ (∀ y, y ∈ items → EqAt A.in1 s y x (e y)) ∧ R (.ok (.ret .none)) { s with heap := s.heap.update l (Obj.mapSeq fun xs => xs.eraseIdxIfInBounds j) }) := by
  intro prog w A R s h
  obtain ⟨hp, g, d, tk, os⟩ := s; obtain ⟨hl, he, h⟩ := h
  wp_walk using wpAny_loadPart' hl
  exact ⟨plainId_quiet plain_remove_loop _, codeAny_builtin entry_remove_loop (by
    rw [Around.under_plainId plain_remove_loop _]
    exact remove_loopAt l items n x e j hj hit _ hs1 0 rfl (Nat.zero_le _) (fun m hm _ h2 => hno m hm h2) prog w A R _ ⟨hl, he, h⟩)⟩
section
variable {X : Cx}
noncomputable def rRemove (K : PySem.W.Frag) : V → List V → Hp → VK → Prop := fun x vs H Q => ∃ (l : Addr) (xs : List V) (y : V) (ds : List PyData) (d : PyData) (j : Nat), x = .ref l ∧ vs = [y] ∧ H l = some (.lst xs) ∧ DatAll K H xs ds ∧ DatIs K H y d ∧ niceD 8 (.list ds) ∧ niceD 8 d ∧
  ds[j]? = some d ∧ (∀ m, m < j → ds[m]? ≠ some d) ∧ Q .non (upd H l (.lst (xs.eraseIdx j)))
theorem nice_mem {x : PyData} : ∀ {ts : List PyData}, niceAll ts = true → x ∈ ts → nice x = true
  | b :: r, hb, hx => by
    rw [niceAll, Bool.and_eq_true] at hb
    rcases List.mem_cons.mp hx with e | e
    · rw [e]; exact hb.1
    · exact nice_mem hb.2 e
theorem mt_remove (hu : X.A.units + 64 < cLine) : MtM X "list.remove" (rRemove X.K) := by
  intro pins s σ H x vs v us Q I rx rv h
  obtain ⟨l, xs, y, ds, d, j, rfl, rfl, hH, hA, hD, n1, n2, hj, hno, q⟩ := h
  cases rx
  obtain ⟨u, rfl, ru⟩ := rv.one
  obtain ⟨z, its, n, r, hl, e⟩ := I.lstM hH
  obtain ⟨m1, m2⟩ := nice_of n1
  obtain ⟨as, ra⟩ := reads_all I hA r
  obtain ⟨bs, rb⟩ := reads_of I hD ru
  have hlay := nice_layAll ds m1
  have hmap := readsAll_map ds _ _ hlay ra
  have hlen : its.length = ds.length := by rw [← hmap, List.length_map]
  have hjd : j < ds.length := (List.getElem?_eq_some_iff.mp hj).1
  have at_ : ∀ (m : Nat) (hm : m < its.toArray.size), PyData.eqv (readOf s.heap its.toArray[m]) d = same (ds.getD m .none) d := fun m hm => by
    have hm' : m < its.length := by simpa using hm
    have hm2 : m < ds.length := by omega
    have e1 : ds.getD m .none = readOf s.heap its[m] := by
      have : ds[m]? = some (readOf s.heap its[m]) := by rw [← hmap, List.getElem?_map, List.getElem?_eq_getElem hm']; rfl
      rw [List.getD_eq_getElem?_getD, this]; rfl
    have e2 : its.toArray[m] = its[m] := by simp
    rw [e2, ← e1]
    refine (same_eq_eqv _ d (nice_mix _ d ?_ n2.1)).symm
    have : ds.getD m .none ∈ ds := by rw [List.getD_eq_getElem?_getD, List.getElem?_eq_getElem hm2]; exact List.getElem_mem hm2
    exact nice_mem m1 this
  have hjs : j < its.toArray.size := by rw [List.size_toArray]; omega
  refine call_meets F.slot_list_remove ⟨_, e, rfl⟩ F.entry_list_remove (F.args_list_remove_2 _ _)
    (list_removeAt l its.toArray n u (fun y => PyData.eqv (readOf s.heap y) d) j hjs ?_ ?_ (by rw [List.size_toArray]; omega)) ⟨e, items_eqAt (by simpa using ra) rb hlay (nice_lay d n2.1) (by have := n2.2; omega), ?_⟩
  · show PyData.eqv (readOf s.heap its.toArray[j]) d = true
    rw [at_ j hjs, List.getD_eq_getElem?_getD, hj]
    exact same_self d
  · intro m hm hlt
    show PyData.eqv (readOf s.heap its.toArray[m]) d = false
    rw [at_ m hm]
    refine same_ff fun z => hno m hlt ?_
    have hm2 : m < ds.length := by omega
    rw [List.getElem?_eq_getElem hm2]
    rw [List.getD_eq_getElem?_getD, List.getElem?_eq_getElem hm2] at z
    exact congrArg some z
  refine ⟨.non, _, I.lset (its' := its.eraseIdx j) hH e ?_ (r.eraseIdx j) ?_, rfl, q⟩
  · show its.toArray.eraseIdxIfInBounds j = (its.eraseIdx j).toArray
    rw [List.eraseIdxIfInBounds_toArray]
  · have := len_erase xs j
    omega
end
end L2

set_option maxHeartbeats 4000000
namespace My
open PySem L2

local macro_rules | `(tactic| walk_at "u1") => `(tactic| first
  | with_reducible refine r_asg ?_
  | with_reducible refine r_ifs ?_
  | with_reducible refine r_ret ?_
  | with_reducible refine r_next ?_
  | with_reducible refine r_drop ?_
  | ((with_reducible show tAug _ _ _ _ _ _); refine ⟨_, rfl, ?_⟩)
  | ((with_reducible show tVar _ _ _ _); refine ⟨_, rfl, ?_⟩)
  | with_reducible refine r_c ?_
  | with_reducible refine r_op ?_
  | with_reducible refine r_un ?_
  | with_reducible refine r_neg ?_
  | with_reducible refine r_add ?_
  | with_reducible refine r_sub ?_
  | ((with_reducible show oMul _ _ _ _); first | refine r_mulL (by first | omega | decide) (by first | omega | decide) ?_ | refine r_mulR (by first | omega | decide) (by first | omega | decide) ?_)
  | ((with_reducible show oDiv _ _ _ _); refine r_div (by first | omega | decide) (by first | omega | decide) ?_)
  | ((with_reducible show oMod _ _ _ _); refine r_mod (by first | omega | decide) ?_)
  | ((with_reducible show oPow _ _ _ _); refine r_pow (by decide) (by decide) (by decide) ?_)
  | with_reducible refine r_lt ?_
  | with_reducible refine r_le ?_
  | with_reducible refine r_gt ?_
  | with_reducible refine r_ge ?_
  | with_reducible refine r_eq ?_
  | with_reducible refine r_ne ?_
  | with_reducible refine r_isN ?_
  | with_reducible refine r_notN ?_
  | with_reducible refine r_test ?_
  | with_reducible refine r_tB ?_
  | with_reducible refine r_bl ?_
  | with_reducible refine r_and ?_
  | with_reducible refine r_or ?_
  | with_reducible refine r_not ?_
  | with_reducible refine r_notV ?_
  | with_reducible refine r_andV ?_
  | with_reducible refine r_orV ?_
  | with_reducible refine r_if ?_
  | with_reducible refine r_nil ?_
  | with_reducible refine r_cons ?_
  | with_reducible refine r_call ?_
  | with_reducible refine r_cb ?_
  | with_reducible refine r_min ?_
  | with_reducible refine r_max ?_
  | with_reducible refine r_for ?_
  | with_reducible refine r_rng1 ?_
  | with_reducible refine r_rng3 ?_
  | with_reducible refine r_rng2 ?_
  | ((with_reducible show ∃ i j : Int, _ = _ ∧ _); refine r_rng2' (by first | omega | decide) (by first | omega | decide) (by first | omega | decide) (by first | omega | decide) ?_)
  | ((with_reducible show ∃ j : Int, [V.int _] = [V.int _] ∧ _); refine r_rng1' (by first | omega | decide) (by first | omega | decide) ?_)
  | with_reducible refine r_iList ?_
  | with_reducible refine r_sl ?_
  | with_reducible refine r_part ?_
  | with_reducible refine r_part' ?_
  | with_reducible refine r_noPart ?_
  | with_reducible refine r_comp ?_
  | with_reducible refine r_bm ?_
  | with_reducible refine r_bm0 ?_
  | with_reducible refine r_chain ?_)

local macro_rules | `(tactic| walk_at "sq") => `(tactic| first | assumption | exact SqL.of (by assumption) | exact Same.seq (by assumption) (by walk_at "sq"))
local macro_rules | `(tactic| walk_at "fits") => `(tactic| first | exact Nat.le_of_ble_eq_true rfl | (refine Nat.le_trans ?_ line64; simp; done) | (refine Nat.le_trans ?_ line64; simp; omega) | (refine Nat.le_trans ?_ line64; omega))
local macro_rules | `(tactic| walk_at "call") => `(tactic| fail)
local macro_rules | `(tactic| walk_at "early") => `(tactic| fail)
local macro_rules | `(tactic| walk_at "v1") => `(tactic| first
  | walk_at "early"
  | walk_at "u1"
  | with_reducible refine r_asgS ?_
  | with_reducible refine r_asgT ?_
  | ((with_reducible show rLenL _ _ _ _); refine r_len (by walk_at "sq") ?_)
  | ((with_reducible show rSum _ _ _ _); refine r_sum (by walk_at "sq") ?_)
  | with_reducible refine r_lstN ?_
  | with_reducible refine r_tupN ?_
  | ((with_reducible show newL _ _ _); refine r_newL (by walk_at "fits") ?_; intro _ _ _ _ _)
  | ((with_reducible show newT _ _ _); refine r_newT (by walk_at "fits") ?_; intro _ _ _ _ _)
  | ((with_reducible show rListOf _ _ _ _); refine r_listOfN (by walk_at "sq") ?_; intro _ _ _ _ _)
  | ((with_reducible show rIn _ false (V.int _) _ _ _); refine r_inI (by walk_at "sq") ?_)
  | ((with_reducible show rIn _ true (V.int _) _ _ _); refine r_ninI (by walk_at "sq") ?_)
  | ((with_reducible show rEqI _ false _ _ _ _); first | refine r_eqIs (by walk_at "sq") (by walk_at "sq") ?_ | refine r_eqIs (ms := []) (by walk_at "sq") (by walk_at "sq") ?_)
  | ((with_reducible show rEqI _ true _ _ _ _); first | refine r_neIs (by walk_at "sq") (by walk_at "sq") ?_ | refine r_neIs (ms := []) (by walk_at "sq") (by walk_at "sq") ?_)
  | ((with_reducible show rAll _ _ _ _); refine r_all (by walk_at "sq") ?_)
  | ((with_reducible show ∃ b : Addr, V.ref _ = V.ref _ ∧ _); refine r_iList' (by walk_at "sq") ?_)
  | with_reducible refine r_par ?_
  | with_reducible refine r_par' ?_
  | with_reducible refine r_intB ?_
  | with_reducible refine r_enum ?_
  | with_reducible refine r_zip ?_
  | ((with_reducible show ∃ a b : Addr, [V.ref _, V.ref _] = [V.ref _, V.ref _] ∧ _); refine r_zip' (by walk_at "sq") (by walk_at "sq") ?_)
  | ((with_reducible show rSlL _ _ _ _ _ _); refine r_slLN (by walk_at "sq") ?_; intro _ _ _ _ _)
  | with_reducible refine iteT ?_
  | with_reducible refine iteF ?_
  | with_reducible refine iteNT ?_
  | with_reducible refine iteNF ?_
  | walk_at "call")
local macro_rules | `(tactic| walk_at "s1") => `(tactic| repeat walk_at "v1")
local macro_rules | `(tactic| walk_at "v") => `(tactic| repeat (first | with_reducible refine r_seq ?_ | walk_at "v1"))

theorem cut_ints (ns : List Int) (lo hi : Option Int) : ∃ ms : List Int, cutV (ns.map V.int) lo hi = ms.map V.int ∧ ms.length ≤ ns.length ∧ ∀ m ∈ ms, m ∈ ns := by
  refine ⟨(ns.drop (HT.sIx (ns.map V.int).length 0 lo)).take (HT.sIx (ns.map V.int).length (ns.map V.int).length hi - HT.sIx (ns.map V.int).length 0 lo), ?_, ?_, ?_⟩
  · unfold cutV
    rw [List.map_take, List.map_drop]
  · rw [List.length_take, List.length_drop]
    omega
  · intro m hm
    exact List.mem_of_mem_drop (List.mem_of_mem_take hm)
theorem cut_le (xs : List V) (lo hi : Nat) : (cutV xs (some (lo : Int)) (some (hi : Int))).length ≤ hi - lo := by
  unfold cutV
  rw [HT.sIx_nat, HT.sIx_nat, List.length_take]
  omega

theorem range_getD' {α β : Type} (f : α → β) (d : α) (xs : List α) : (List.range xs.length).map (fun i => f (xs.getD i d)) = xs.map f := by
  apply List.ext_getElem
  · simp
  · intro k h1 h2
    have hk : k < xs.length := by simpa using h1
    simp [List.getD, hk]

/-! ### texts -/
noncomputable def Ascii (z : Str) : Prop := z.cps.all (· < 128) = true
/-! blanks -/
noncomputable def joinL : List (List Nat) → List Nat
  | [] => []
  | [p] => p
  | p :: q :: r => p ++ 32 :: joinL (q :: r)

/-! ### texts as lists of signs -/
theorem none_eq : ("" : Str) = ⟨#[]⟩ := by decide +kernel
theorem str_toList {a b : Str} : a = b ↔ a.cps.toList = b.cps.toList := ⟨fun h => by rw [h], fun h => PySem.Str.ext' (Array.ext' h)⟩
theorem len_toList (z : Str) : z.cps.toList.length = z.length := by simp [Str.length]
theorem inV_str {a : Str} {xs : List Str} : L2.inV (.str a) (xs.map V.str) = decide (a ∈ xs) := by
  unfold L2.inV
  rw [List.any_map, Bool.eq_iff_iff, List.any_eq_true, decide_eq_true_eq]
  constructor
  · rintro ⟨y, hy, e⟩
    have e : (y == a) = true := e
    rw [← eq_of_beq e]
    exact hy
  · intro h
    exact ⟨a, h, by show (a == a) = true; simp⟩
theorem flat_strs (xs : List Str) : (xs.map V.str).all L2.flatV = true := by
  rw [List.all_map, List.all_eq_true]
  intro x _
  rfl
section
variable {H : Hp} {Q : VK} {z a b : Str}
theorem size_eq : PySem.sizeLine = 16777216 := by decide
theorem r_addS (h : a.length + b.length ≤ 16777216) (q : Q (.str (a ++ b)) H) : rAddS (.str a) (.str b) H Q := ⟨a, b, rfl, rfl, by rw [size_eq]; exact h, q⟩
theorem r_lenT (h : z.length ≤ 16777216) (q : Q (.int z.length) H) : rLenT [.str z] H Q := ⟨z, rfl, by rw [size_eq]; exact h, q⟩
theorem r_inS (q : Q (.bl (!(Builtin.Str.occurrences b a 0 b.length 1).isEmpty)) H) : rInS (.str a) (.str b) H Q := ⟨a, b, rfl, rfl, q⟩
theorem r_slS {lo hi : Option Int} (h : z.length ≤ 16777216) (q : Q (.str (PySem.Txt.slice z lo hi)) H) : rSlS (.str z) lo hi H Q := ⟨z, rfl, by rw [size_eq]; exact h, q⟩
theorem r_neS (q : Q (.bl (!decide (a = b))) H) : rNe (.str a) (.str b) H Q := ⟨rfl, by
  have e : decide (V.str a = V.str b) = decide (a = b) := by rw [Bool.eq_iff_iff]; simp
  rw [e]; exact q⟩
theorem r_iText {tl : TE} {σ : St} {R : It → Hp → Prop} (h : tl σ H fun v H1 => ∃ x : Str, v = .str x ∧ x.cps.all (· < 128) = true ∧ R (Itx x) H1) : iText tl σ H R := h
end
local macro_rules | `(tactic| walk_at "early") => `(tactic| first
  | ((with_reducible show tyV _ "str" (V.str _) _ ∧ _); refine ⟨rfl, ?_⟩)
  | ((with_reducible show rLenT _ _ _); refine r_lenT (by omega) ?_)
  | ((with_reducible show rAddS _ _ _ _); refine r_addS (by omega) ?_)
  | ((with_reducible show rInS _ _ _ _); refine r_inS ?_)
  | ((with_reducible show rNotInS _ _ _ _); refine r_ninS ?_)
  | ((with_reducible show rSlS _ _ _ _ _); refine r_slS (by omega) ?_)
  | with_reducible refine r_iText ?_
  | ((with_reducible show rStarts _ _ _ _); refine r_starts ?_)
  | ((with_reducible show rEq (V.str _) (V.str _) _ _); refine r_eqS ?_)
  | ((with_reducible show rNe (V.str _) (V.str _) _ _); refine r_neS ?_))

theorem ascii_iff {z : Str} : Ascii z ↔ ∀ c ∈ z.cps.toList, c < 128 := by
  unfold Ascii
  rw [← Array.all_toList, List.all_eq_true]
  exact ⟨fun h c hc => of_decide_eq_true (h c hc), fun h c hc => decide_eq_true (h c hc)⟩
theorem app_toList (a b : Str) : (a ++ b).cps.toList = a.cps.toList ++ b.cps.toList := by rw [PySem.Str.cps_append]; simp
theorem fold_len (sep : Str) (m : Nat) : ∀ (xs : List Str) (a : Nat), (∀ x ∈ xs, x.length ≤ m) → xs.foldl (fun n x => n + x.length + sep.length) a ≤ a + xs.length * (m + sep.length)
  | [], a, _ => by simp
  | x :: xs, a, h => by
    have h1 := h x (by simp)
    have ih := fold_len sep m xs (a + x.length + sep.length) fun y hy => h y (List.mem_cons_of_mem _ hy)
    have e : (x :: xs).length * (m + sep.length) = xs.length * (m + sep.length) + (m + sep.length) := by rw [List.length_cons, Nat.add_mul, Nat.one_mul]
    rw [e]
    simp only [List.foldl_cons]
    omega
theorem join_len {sep : Str} {m : Nat} : ∀ {xs : List Str}, (∀ x ∈ xs, x.length ≤ m) → (Str.join sep xs).length ≤ xs.length * (m + sep.length)
  | [], _ => by show (Str.empty : Str).length ≤ _; exact Nat.zero_le _
  | [x], h => by
    have := h x (by simp)
    show x.length ≤ 1 * _
    omega
  | x :: y :: r, h => by
    have h1 := h x (by simp)
    have ih := join_len (sep := sep) (xs := y :: r) fun z hz => h z (List.mem_cons_of_mem _ hz)
    show (x ++ sep ++ Str.join sep (y :: r)).length ≤ _
    rw [PySem.Str.length_append, PySem.Str.length_append, show (x :: y :: r).length = (y :: r).length + 1 from rfl, Nat.add_mul, Nat.one_mul]
    omega
theorem r_join {K : PySem.W.Frag} {H : Hp} {Q : VK} {sep : Str} {p : Addr} {xs : List Str} (m : Nat) (hS : SqL K H p (xs.map V.str)) (hx : ∀ x ∈ xs, x.length ≤ m) (hb : xs.length * (m + sep.length) ≤ 16777216) (q : Q (.str (Str.join sep xs)) H) : rJoin K (.str sep) [.ref p] H Q := by
  have e := PySem.StrLaws.glued_eq_join sep xs
  refine ⟨sep, p, xs, rfl, rfl, hS, ?_, ?_, ?_⟩
  · have h := fold_len sep m xs 0 hx
    refine decide_eq_false ?_
    rw [size_eq]
    simp only [List.foldl_toArray', List.size_toArray]
    omega
  · rw [e, size_eq]
    exact Nat.le_trans (join_len hx) hb
  · rw [e]
    exact q
theorem one_len (c : Nat) : (⟨#[c]⟩ : Str).length = 1 := rfl
theorem atI_pos {l : List Nat} {w : Int} (h0 : 0 ≤ w) (h1 : w.toNat < l.length) : atI l w = some (l.getD w.toNat 0) := by
  have h : l[w.toNat]? = some (l.getD w.toNat 0) := by rw [List.getD_eq_getElem?_getD, List.getElem?_eq_getElem h1]; rfl
  have := atI_nat h
  rw [Int.toNat_of_nonneg h0] at this
  exact this
theorem joinL_part : ∀ {ps : List (List Nat)} {p : List Nat}, p ∈ ps → p.length ≤ (joinL ps).length
  | [], _, h => nomatch h
  | [p], q, h => by
    have : q = p := by simpa using h
    subst this
    exact Nat.le_refl _
  | p :: q :: r, x, h => by
    rcases List.mem_cons.mp h with rfl | h
    · simp only [joinL, List.length_append]; omega
    · have := joinL_part h
      simp only [joinL, List.length_append, List.length_cons]
      omega
theorem dat_strs {K : PySem.W.Frag} {H : Hp} : ∀ xs : List Str, DatAll K H (xs.map V.str) (xs.map PyData.str)
  | [] => .nil
  | x :: xs => .cons (.str x) (dat_strs xs)
theorem joinL_mem : ∀ {ps : List (List Nat)} {p : List Nat} {c : Nat}, p ∈ ps → c ∈ p → c ∈ joinL ps
  | [], _, _, h, _ => nomatch h
  | [p], q, c, h, hc => by
    have : q = p := by simpa using h
    subst this
    exact hc
  | p :: q :: r, x, c, h, hc => by
    rcases List.mem_cons.mp h with rfl | h
    · simp only [joinL, List.mem_append]; exact .inl hc
    · have := joinL_mem h hc
      simp only [joinL, List.mem_append, List.mem_cons]
      exact .inr (.inr this)
theorem strOk_ascii {x : Str} (h : Ascii x) : PyData.strOk x = true := by
  unfold PyData.strOk
  rw [← Array.all_toList, List.all_eq_true]
  intro c hc
  have := ascii_iff.mp h c hc
  exact decide_eq_true (by omega)
theorem nd_strs (xs : List Str) (h : ∀ x ∈ xs, Ascii x) : niceD 1 (.list (xs.map PyData.str)) := nd_list fun d hd => by
  obtain ⟨x, hx, rfl⟩ := List.mem_map.mp hd
  exact ⟨by simp only [nice]; exact strOk_ascii (h x hx), by simp [PyData.depth]⟩
theorem sl_zero (h : Option Int) (n : Nat) : PySem.Builtin.Str.strSliceIndices none h 1 n = PySem.Builtin.Str.strSliceIndices (some ((0 : Nat) : Int)) h 1 n := by
  have e : max (0 : Int) (min 0 (n : Int)) = 0 := by omega
  simp [PySem.Builtin.Str.strSliceIndices, e]

/-! ### what stays -/
noncomputable def But (l : List Addr) (H H' : Hp) : Prop := (∀ a o, a ∉ l → H a = some o → H' a = some o) ∧ (∀ a xs, H a = some (.tup xs) → H' a = some (.tup xs)) ∧ ∀ a, H' a = none → H a = none
section
variable {H H1 H2 : Hp} {l l' : List Addr}
theorem But.of (s : Same H H1) : But l H H1 := ⟨fun a o _ h => s a o h, fun a xs h => s a _ h, fun _ h => s.free h⟩
theorem But.trans (a : But l H H1) (b : But l H1 H2) : But l H H2 := ⟨fun c o n h => b.1 c o n (a.1 c o n h), fun c xs h => b.2.1 c xs (a.2.1 c xs h), fun c h => a.2.2 c (b.2.2 c h)⟩
theorem But.mono (a : But l H H1) (h : ∀ c ∈ l, c ∈ l') : But l' H H1 := ⟨fun c o n q => a.1 c o (fun z => n (h c z)) q, a.2.1, a.2.2⟩
theorem But.upd {a : Addr} {o o' : HO} (h : H a = some o) (ht : ∀ xs, o ≠ .tup xs) (m : a ∈ l) : But l H (L2.upd H a o') := by
  refine ⟨fun c u n q => ?_, fun c xs q => ?_, fun c q => ?_⟩
  · rw [upd_ne (fun z => n (by rw [z]; exact m))]; exact q
  · rw [upd_ne (fun z => by rw [z, h] at q; exact ht xs (Option.some.inj q))]; exact q
  · by_cases z : c = a
    · rw [z, upd_same] at q; cases q
    · rw [upd_ne z] at q; exact q
/-- what was not in what changes, or is new, is not in what is used behind -/
noncomputable def New (l l' : List Addr) (H : Hp) : Prop := ∀ a ∈ l', a ∈ l ∨ H a = none
theorem New.refl : New l l H := fun _ h => .inl h
theorem New.trans {l'' : List Addr} (a : New l l' H) (b : New l' l'' H1) (bt : But l' H H1) : New l l'' H := fun c h => by
  rcases b c h with z | z
  · exact a c z
  · exact .inr (bt.2.2 c z)
end
/-! ### rows: tuples (name, number) -/
noncomputable def TpI (H : Hp) (p : Str × Int) (t : Addr) : Prop := H t = some (.tup [.str p.1, .int p.2])
noncomputable def TpS (H : Hp) (p : Str × Str) (t : Addr) : Prop := H t = some (.tup [.str p.1, .str p.2])
noncomputable def RowsL (H : Hp) (l : Addr) (rows : List (Str × Int)) : Prop := ∃ ts : List Addr, H l = some (.lst (ts.map V.ref)) ∧ Paired (TpI H) rows ts
noncomputable def kvI (ps : List (Str × Int)) : List (Key × V) := ps.map fun p => (.inr p.1, .int p.2)
theorem kvI_len (ps : List (Str × Int)) : (kvI ps).length = ps.length := by simp [kvI]
theorem kvI_get {ps : List (Str × Int)} {i : Nat} {p : Str × Int} (h : ps[i]? = some p) : (kvI ps)[i]? = some (.inr p.1, .int p.2) := by simp [kvI, h]
theorem kvI_val : ∀ {ps : List (Str × Int)} {n : Str}, n ∉ ps.map (·.1) → valV (kvI ps) (.inr n) = none
  | [], _, _ => rfl
  | p :: r, n, h => by
    have h1 : ¬ p.1 = n := fun z => h (by rw [← z]; simp)
    show valV ((.inr p.1, .int p.2) :: kvI r) (.inr n) = none
    rw [valV_neg (by simpa using h1)]
    exact kvI_val fun z => h (by rw [List.map_cons]; exact List.mem_cons_of_mem _ z)
theorem kvI_at : ∀ {ps : List (Str × Int)} {n : Str} {x : Int}, (ps.map (·.1)).Nodup → (n, x) ∈ ps → valV (kvI ps) (.inr n) = some (.int x)
  | p :: r, n, x, nd, h => by
    have nd : (p.1 :: r.map (·.1)).Nodup := nd
    obtain ⟨n1, n2⟩ := List.nodup_cons.mp nd
    show valV ((.inr p.1, .int p.2) :: kvI r) (.inr n) = _
    rcases List.mem_cons.mp h with z | z
    · subst z
      exact valV_pos rfl
    · have h1 : ¬ p.1 = n := fun e => n1 (by rw [e]; exact List.mem_map.mpr ⟨_, z, rfl⟩)
      rw [valV_neg (by simpa using h1)]
      exact kvI_at n2 z
theorem kvI_put {ps : List (Str × Int)} {n : Str} {x : Int} (h : n ∉ ps.map (·.1)) : putK (kvI ps) (.inr n) (.int x) = kvI (ps ++ [(n, x)]) := by
  rw [putK_new _ (kvI_val h)]
  simp [kvI]
theorem kvI_drop (ps : List (Str × Int)) (n : Str) : dropK (kvI ps) (.inr n) = kvI (ps.filter fun p => decide (p.1 ≠ n)) := by
  unfold dropK kvI
  rw [List.filter_map]
  congr 1
  refine List.filter_congr fun p _ => ?_
  show decide ((Sum.inr p.1 : Key) ≠ .inr n) = _
  congr 1
  simp
/-! ### a chest as it lies -/
structure ChSt where
  ps : List (Str × Int)
  cs : List (Str × Int)
  ws : List (Str × Str)
  pot : Int
  giv : Int
  spt : Int
noncomputable def chF (d1 d2 w : Addr) (a b c : Int) : List (Str × V) := [("purses", .ref d1), ("costs", .ref d2), ("wishes", .ref w), ("unshared", .int a), ("gifts", .int b), ("outlay", .int c)]
structure ChX (K : PySem.W.Frag) (H : Hp) (c dx d1 d2 w : Addr) (wt : List Addr) (s : ChSt) : Prop where
  at_ : H c = some (.ins (clsA K "Chest") dx (chF d1 d2 w s.pot s.giv s.spt))
  p1 : H d1 = some (.dK (kvI s.ps))
  p2 : H d2 = some (.dK (kvI s.cs))
  w_ : H w = some (.lst (wt.map V.ref))
  wt : Paired (TpS H) s.ws wt
  ne : d1 ≠ d2
  nd : (s.ps.map (·.1)).Nodup
  nd2 : (s.cs.map (·.1)).Nodup
noncomputable def ChestAt (K : PySem.W.Frag) (H : Hp) (c : Addr) (fp : List Addr) (s : ChSt) : Prop := ∃ dx d1 d2 w wt, ChX K H c dx d1 d2 w wt s ∧ fp = [c, d1, d2, w]
theorem strs_ne : ("costs" : Str) ≠ "purses" ∧ ("wishes" : Str) ≠ "purses" ∧ ("unshared" : Str) ≠ "purses" ∧ ("gifts" : Str) ≠ "purses" ∧ ("outlay" : Str) ≠ "purses" ∧
    ("wishes" : Str) ≠ "costs" ∧ ("unshared" : Str) ≠ "costs" ∧ ("gifts" : Str) ≠ "costs" ∧ ("outlay" : Str) ≠ "costs" ∧
    ("unshared" : Str) ≠ "wishes" ∧ ("gifts" : Str) ≠ "wishes" ∧ ("outlay" : Str) ≠ "wishes" ∧ ("gifts" : Str) ≠ "unshared" ∧ ("outlay" : Str) ≠ "unshared" ∧ ("outlay" : Str) ≠ "gifts" := by decide +kernel
section
variable {d1 d2 w e : Addr} {a b c x : Int}
theorem lk_purses : (chF d1 d2 w a b c).lookup ("purses" : Str) = some (V.ref d1) := by simp [chF, List.lookup]
theorem lk_costs : (chF d1 d2 w a b c).lookup ("costs" : Str) = some (V.ref d2) := by
  have h := strs_ne
  simp [chF, List.lookup, beq_eq_false_iff_ne.mpr h.1]
theorem lk_wishes : (chF d1 d2 w a b c).lookup ("wishes" : Str) = some (V.ref w) := by
  obtain ⟨h1, h2, h3, h4, h5, h6, h7, h8, h9, h10, h11, h12, h13, h14, h15⟩ := strs_ne
  simp [chF, List.lookup, beq_eq_false_iff_ne.mpr h2, beq_eq_false_iff_ne.mpr h6]
theorem lk_unshared : (chF d1 d2 w a b c).lookup ("unshared" : Str) = some (V.int a) := by
  obtain ⟨h1, h2, h3, h4, h5, h6, h7, h8, h9, h10, h11, h12, h13, h14, h15⟩ := strs_ne
  simp [chF, List.lookup, beq_eq_false_iff_ne.mpr h3, beq_eq_false_iff_ne.mpr h7, beq_eq_false_iff_ne.mpr h10]
theorem pf_wishes : putF "wishes" (.ref e) (chF d1 d2 w a b c) = chF d1 d2 e a b c := by
  obtain ⟨h1, h2, h3, h4, h5, h6, h7, h8, h9, h10, h11, h12, h13, h14, h15⟩ := strs_ne
  simp [chF, putF, h2.symm, h6.symm]
theorem pf_unshared : putF "unshared" (.int x) (chF d1 d2 w a b c) = chF d1 d2 w x b c := by
  obtain ⟨h1, h2, h3, h4, h5, h6, h7, h8, h9, h10, h11, h12, h13, h14, h15⟩ := strs_ne
  simp [chF, putF, h3.symm, h7.symm, h10.symm]
theorem pf_init : putF "outlay" (.int c) (putF "gifts" (.int b) (putF "unshared" (.int a) (putF "wishes" (.ref w) (putF "costs" (.ref d2) (putF "purses" (.ref d1) []))))) = chF d1 d2 w a b c := by
  obtain ⟨h1, h2, h3, h4, h5, h6, h7, h8, h9, h10, h11, h12, h13, h14, h15⟩ := strs_ne
  simp [chF, putF, h1.symm, h2.symm, h3.symm, h4.symm, h5.symm, h6.symm, h7.symm, h8.symm, h9.symm, h10.symm, h11.symm, h12.symm, h13.symm, h14.symm, h15.symm]
theorem lk_no {m : Str} (h : (["purses", "costs", "wishes", "unshared", "gifts", "outlay"] : List Str).contains m = false) : (chF d1 d2 w a b c).lookup m = none := by
  have h : ∀ x ∈ (["purses", "costs", "wishes", "unshared", "gifts", "outlay"] : List Str), x ≠ m := fun x hx e => by
    rw [e] at hx
    rw [List.contains_iff_mem.mpr hx] at h
    cases h
  have g : ∀ x ∈ (["purses", "costs", "wishes", "unshared", "gifts", "outlay"] : List Str), (m == x) = false := fun x hx => beq_eq_false_iff_ne.mpr (h x hx).symm
  simp only [chF, List.lookup, g _ (by simp : ("purses" : Str) ∈ _), g _ (by simp : ("costs" : Str) ∈ _), g _ (by simp : ("wishes" : Str) ∈ _), g _ (by simp : ("unshared" : Str) ∈ _), g _ (by simp : ("gifts" : Str) ∈ _), g _ (by simp : ("outlay" : Str) ∈ _)]
end
section
variable {K : PySem.W.Frag} {H H' : Hp} {c dx d1 d2 w : Addr} {wt : List Addr} {s : ChSt} {fp l : List Addr}
theorem ChX.but (x : ChX K H c dx d1 d2 w wt s) (b : But l H H') (n1 : c ∉ l) (n2 : d1 ∉ l) (n3 : d2 ∉ l) (n4 : w ∉ l) : ChX K H' c dx d1 d2 w wt s :=
  ⟨b.1 _ _ n1 x.at_, b.1 _ _ n2 x.p1, b.1 _ _ n3 x.p2, b.1 _ _ n4 x.w_, Paired.mapP x.wt fun _ _ q => b.2.1 _ _ q, x.ne, x.nd, x.nd2⟩
theorem ChX.same (x : ChX K H c dx d1 d2 w wt s) (b : Same H H') : ChX K H' c dx d1 d2 w wt s := x.but (But.of (l := []) b) (by simp) (by simp) (by simp) (by simp)
theorem ChestAt.but (x : ChestAt K H c fp s) (b : But l H H') (n : ∀ a ∈ fp, a ∉ l) : ChestAt K H' c fp s := by
  obtain ⟨dx, d1, d2, w, wt, x, rfl⟩ := x
  exact ⟨dx, d1, d2, w, wt, x.but b (n _ (by simp)) (n _ (by simp)) (n _ (by simp)) (n _ (by simp)), rfl⟩
theorem ChestAt.same (x : ChestAt K H c fp s) (b : Same H H') : ChestAt K H' c fp s := x.but (But.of (l := []) b) (by simp)
theorem ChestAt.there (x : ChestAt K H c fp s) : ∀ a ∈ fp, H a ≠ none := by
  obtain ⟨dx, d1, d2, w, wt, x, rfl⟩ := x
  intro a ha
  simp only [List.mem_cons, List.not_mem_nil, or_false] at ha
  rcases ha with rfl | rfl | rfl | rfl
  · rw [x.at_]; simp
  · rw [x.p1]; simp
  · rw [x.p2]; simp
  · rw [x.w_]; simp
theorem ne_of_two {a b : Addr} {o o' : HO} (h : H a = some o) (h' : H b = some o') (n : o ≠ o') : a ≠ b := fun e => n (by rw [e, h'] at h; exact (Option.some.inj h).symm)
theorem ne_of_free {a b : Addr} {o : HO} (h : H a = some o) (h' : H b = none) : a ≠ b := fun e => by rw [e, h'] at h; cases h
/-- the object itself is written anew -/
theorem ChX.setF {a b e : Int} (x : ChX K H c dx d1 d2 w wt s) : ChX K (L2.upd H c (.ins (clsA K "Chest") dx (chF d1 d2 w a b e))) c dx d1 d2 w wt ⟨s.ps, s.cs, s.ws, a, b, e⟩ := by
  have n1 := ne_of_two x.p1 x.at_ (by simp)
  have n2 := ne_of_two x.p2 x.at_ (by simp)
  have n3 := ne_of_two x.w_ x.at_ (by simp)
  exact ⟨upd_same, by rw [upd_ne n1]; exact x.p1, by rw [upd_ne n2]; exact x.p2, by rw [upd_ne n3]; exact x.w_, Paired.mapP x.wt fun _ _ q => by
    unfold TpS at *
    rw [upd_ne (ne_of_two q x.at_ (by simp))]; exact q, x.ne, x.nd, x.nd2⟩
/-- another list of wishes -/
theorem ChX.setW {e : Addr} {ws : List (Str × Str)} {wt' : List Addr} (x : ChX K H c dx d1 d2 w wt s) (he : H e = some (.lst (wt'.map V.ref))) (hp : Paired (TpS H) ws wt') :
    ChX K (L2.upd H c (.ins (clsA K "Chest") dx (chF d1 d2 e s.pot s.giv s.spt))) c dx d1 d2 e wt' ⟨s.ps, s.cs, ws, s.pot, s.giv, s.spt⟩ := by
  have n1 := ne_of_two x.p1 x.at_ (by simp)
  have n2 := ne_of_two x.p2 x.at_ (by simp)
  have n3 := ne_of_two he x.at_ (by simp)
  exact ⟨upd_same, by rw [upd_ne n1]; exact x.p1, by rw [upd_ne n2]; exact x.p2, by rw [upd_ne n3]; exact he, Paired.mapP hp fun _ _ q => by
    unfold TpS at *
    rw [upd_ne (ne_of_two q x.at_ (by simp))]; exact q, x.ne, x.nd, x.nd2⟩
/-- the dict of purses is changed -/
theorem ChX.setP {ps : List (Str × Int)} (x : ChX K H c dx d1 d2 w wt s) (nd : (ps.map (·.1)).Nodup) : ChX K (L2.upd H d1 (.dK (kvI ps))) c dx d1 d2 w wt ⟨ps, s.cs, s.ws, s.pot, s.giv, s.spt⟩ := by
  have n1 := ne_of_two x.at_ x.p1 (by simp)
  have n3 := ne_of_two x.w_ x.p1 (by simp)
  exact ⟨by rw [upd_ne n1]; exact x.at_, upd_same, by rw [upd_ne (Ne.symm x.ne)]; exact x.p2, by rw [upd_ne n3]; exact x.w_, Paired.mapP x.wt fun _ _ q => by
    unfold TpS at *
    rw [upd_ne (ne_of_two q x.p1 (by simp))]; exact q, x.ne, nd, x.nd2⟩
end
local macro_rules | `(tactic| walk_at "early") => `(tactic| first
  | with_reducible refine r_sfld ?_
  | with_reducible refine r_fld ?_
  | with_reducible refine r_faug ?_
  | with_reducible refine r_meth ?_
  | with_reducible refine r_dget ?_
  | with_reducible refine r_dput ?_
  | with_reducible refine r_din ?_
  | with_reducible refine r_dnin ?_
  | with_reducible refine r_pop ?_
  | with_reducible refine r_tBD ?_)
theorem paired_unmap {α β γ : Type} {F : β → γ → Prop} {f : α → β} : ∀ {xs : List α} {ys : List γ}, Paired F (xs.map f) ys → Paired (fun x y => F (f x) y) xs ys
  | [], _, .nil => .nil
  | _ :: _, _, .cons h t => .cons h (paired_unmap t)
/-! ### names -/
noncomputable def isLet (c : Nat) : Bool := decide (97 ≤ c) && decide (c ≤ 122)
noncomputable def isNm (z : Str) : Bool := (decide (1 ≤ z.length) && decide (z.length ≤ 8)) && z.cps.toList.all isLet
theorem lets_eq : ("abcdefghijklmnopqrstuvwxyz" : Str).cps.toList = [97, 98, 99, 100, 101, 102, 103, 104, 105, 106, 107, 108, 109, 110, 111, 112, 113, 114, 115, 116, 117, 118, 119, 120, 121, 122] := by decide +kernel
theorem in_lets (c : Nat) : (!(PySem.Builtin.Str.occurrences ("abcdefghijklmnopqrstuvwxyz" : Str) ⟨#[c]⟩ 0 ("abcdefghijklmnopqrstuvwxyz" : Str).length 1).isEmpty) = isLet c := by
  rw [PySem.StrLaws.found_one, lets_eq, Bool.eq_iff_iff]
  simp [isLet]
  omega
theorem nm_ascii {z : Str} (h : isNm z = true) : Ascii z := by
  rw [ascii_iff]
  intro c hc
  have h2 := (Bool.and_eq_true _ _ ▸ h : _ ∧ _).2
  have := List.all_eq_true.mp h2 c hc
  simp [isLet] at this
  omega
theorem nm_len {z : Str} (h : isNm z = true) : 1 ≤ z.length ∧ z.length ≤ 8 := by
  simp [isNm] at h
  exact h.1
theorem putF_len (f : Str) (v : V) : ∀ fs : List (Str × V), (putF f v fs).length ≤ fs.length + 1
  | [] => Nat.le_refl _
  | (g, x) :: r => by
    unfold putF
    by_cases h : g = f
    · rw [if_pos h]; simp
    · rw [if_neg h]
      have := putF_len f v r
      simp only [List.length_cons]
      omega
theorem range_filt {α : Type} (p : α → Bool) (d : α) (xs : List α) : ((List.range xs.length).filter fun i => p (xs.getD i d)).map (fun i => xs.getD i d) = xs.filter p := by
  have h := range_getD' (fun x => x) d xs
  rw [List.map_id'] at h
  conv => rhs; rw [← h]
  rw [List.filter_map]
  rfl
noncomputable def leaveS (s : ChSt) (n : Str) (x : Int) : ChSt := { s with ps := s.ps.filter fun p => decide (p.1 ≠ n), ws := s.ws.filter fun p => !decide (p.1 = n), pot := s.pot + x }
theorem nd_filt {α : Type} {ps : List (Str × α)} {p : Str × α → Bool} (h : (ps.map (·.1)).Nodup) : ((ps.filter p).map (·.1)).Nodup := List.Nodup.sublist (List.Sublist.map _ List.filter_sublist) h
theorem made {K : PySem.W.Frag} {H H2 : Hp} {c dx : Addr} {fp : List Addr} (f0 : H c = none) (g0 : H dx = none) (b : But [c] (upd (upd H dx (.own c)) c (.ins (clsA K "Chest") dx [])) H2) (w : New [c] fp (upd (upd H dx (.own c)) c (.ins (clsA K "Chest") dx []))) :
    Same H H2 ∧ ∀ a ∈ fp, H a = none := by
  refine ⟨fun a o h => ?_, fun a ha => ?_⟩
  · have n1 : a ≠ c := fun e => by rw [e, f0] at h; cases h
    have n2 : a ≠ dx := fun e => by rw [e, g0] at h; cases h
    exact b.1 a o (by simpa using n1) (by rw [upd_ne n1, upd_ne n2]; exact h)
  · rcases w a ha with e | e
    · rw [List.mem_singleton.mp e]; exact f0
    · by_cases n1 : a = c
      · rw [n1]; exact f0
      · rw [upd_ne n1] at e
        by_cases n2 : a = dx
        · rw [n2]; exact g0
        · rw [upd_ne n2] at e; exact e
theorem same_but {H0 H H' : Hp} {L : List Addr} (s : Same H0 H) (b : But L H H') (h : ∀ a ∈ L, H0 a = none) : Same H0 H' := fun a o q => b.1 a o (fun m => by rw [h a m] at q; cases q) (s a o q)

/-! ### spins, names -/
noncomputable def spin (c : Int) (k : Nat) : Int := (c % 900900929 + 2503 * (k : Int) + 77) * (c % 900900929 + 2503 * (k : Int) + 77) * (c % 900900929 + 2503 * (k : Int) + 77 + 31 * (k : Int)) / 13 % 700700003
noncomputable def spinL (c : Int) (m : Nat) : List Int := (List.range m).map (spin c)
theorem spinL_len (c : Int) (m : Nat) : (spinL c m).length = m := by simp [spinL]
theorem spinL_at {c : Int} {m k : Nat} (h : k < m) : ((spinL c m).map V.int)[k]? = some (.int (spin c k)) := by simp [spinL, h]
theorem sl_end (l : Option Int) (n : Nat) : PySem.Builtin.Str.strSliceIndices l none 1 n = PySem.Builtin.Str.strSliceIndices l (some (n : Int)) 1 n := by
  have h : ¬ ((n : Int) < 0) := by omega
  have e : max (0 : Int) (min (if (n : Int) < 0 then (n : Int) + n else n) (n : Int)) = n := by rw [if_neg h]; omega
  simp [PySem.Builtin.Str.strSliceIndices, e]
theorem slice_plain {z : Str} {a b : Nat} (h1 : a ≤ b) (h2 : b ≤ z.length) : (PySem.Txt.slice z (some (a : Int)) (some (b : Int))).cps.toList = (z.cps.toList.drop a).take (b - a) := by
  have hl := len_toList z
  unfold PySem.Txt.slice
  split
  · rename_i hc
    rw [PySem.StrLaws.strSliceIndices_plain h1 h2] at hc
    have : b - a = z.length := by simpa using hc
    have : a = 0 := by omega
    subst this
    rw [List.drop_zero, List.take_of_length_le (by omega)]
  · rw [PySem.StrLaws.sliced_plain z h1 h2]
theorem slice_to {z : Str} {b : Nat} (h : b ≤ z.length) : (PySem.Txt.slice z none (some (b : Int))).cps.toList = z.cps.toList.take b := by
  have e : PySem.Txt.slice z none (some (b : Int)) = PySem.Txt.slice z (some ((0 : Nat) : Int)) (some (b : Int)) := by unfold PySem.Txt.slice; rw [sl_zero]
  rw [e, slice_plain (Nat.zero_le _) h]
  simp
theorem slice_from {z : Str} {a : Nat} (h : a ≤ z.length) : (PySem.Txt.slice z (some (a : Int)) none).cps.toList = z.cps.toList.drop a := by
  have hl := len_toList z
  have e : PySem.Txt.slice z (some (a : Int)) none = PySem.Txt.slice z (some (a : Int)) (some (z.length : Int)) := by unfold PySem.Txt.slice; rw [sl_end]
  rw [e, slice_plain h (Nat.le_refl _), List.take_of_length_le (by rw [List.length_drop]; omega)]
/-- the letter at a place that is counted round -/
noncomputable def letN (x : Int) : Nat := 97 + (x % 26).toNat
theorem let_at (x : Int) : atI ("abcdefghijklmnopqrstuvwxyz" : Str).cps.toList (x % 26) = some (letN x) := by
  have n0 : 0 ≤ x % 26 := by omega
  have n1 : x % 26 < 26 := by omega
  have hl : ("abcdefghijklmnopqrstuvwxyz" : Str).cps.toList.length = 26 := by rw [lets_eq]; rfl
  rw [atI_pos n0 (by rw [hl]; omega), lets_eq]
  unfold letN
  generalize x % 26 = y at *
  obtain ⟨n, rfl⟩ : ∃ n : Nat, y = (n : Int) := ⟨y.toNat, by omega⟩
  have hn : n < 26 := by omega
  have key : ∀ n : Fin 26, ([97, 98, 99, 100, 101, 102, 103, 104, 105, 106, 107, 108, 109, 110, 111, 112, 113, 114, 115, 116, 117, 118, 119, 120, 121, 122] : List Nat).getD n.val 0 = 97 + n.val := by decide
  have := key ⟨n, hn⟩
  rw [show ((n : Int)).toNat = n by omega]
  rw [this]
theorem letN_is (x : Int) : isLet (letN x) = true := by
  unfold isLet letN
  simp
  omega
theorem letN_inj {x : Int} {i j : Nat} (hi : i < 26) (hj : j < 26) (h : letN (x + i) = letN (x + j)) : i = j := by
  unfold letN at h
  omega
noncomputable def wl (c : Int) : List Nat := (List.range 7).map fun j => letN (spin c j)
theorem wl_len (c : Int) : (wl c).length = 7 := by simp [wl]
theorem wl_is (c : Int) : ∀ x ∈ wl c, isLet x = true := fun x hx => by
  obtain ⟨j, _, rfl⟩ := List.mem_map.mp hx
  exact letN_is _
noncomputable def nm3 (c : Int) : List Nat := (wl c).take (spin c 8 / 4 % 8).toNat
noncomputable def at3 (c : Int) : Nat := (spin c 8 / 32 % (((nm3 c).length : Int) + 1)).toNat
noncomputable def nameL (c : Int) (k : Nat) : List Nat :=
  if spin c 8 % 4 = 0 then letN (spin c 7 + (k / 8 : Nat)) :: (wl c).take (k % 8)
  else if spin c 8 % 4 = 1 then (wl c).drop (7 - k % 8) ++ [letN (spin c 7 + (k / 8 : Nat))]
  else (nm3 c).take (at3 c) ++ letN (spin c 7 + (k : Int)) :: (nm3 c).drop (at3 c)
noncomputable def nameF (c : Int) (k : Nat) : Str := ⟨(nameL c k).toArray⟩
theorem nameF_list (c : Int) (k : Nat) : (nameF c k).cps.toList = nameL c k := by simp [nameF]
theorem nm3_len (c : Int) : (nm3 c).length ≤ 7 := by
  unfold nm3
  rw [List.length_take, wl_len]
  omega
theorem nameL_ok (c : Int) (k : Nat) : 1 ≤ (nameL c k).length ∧ (nameL c k).length ≤ 8 ∧ ∀ x ∈ nameL c k, isLet x = true := by
  have h3 := nm3_len c
  have hw := wl_is c
  have hn : ∀ x ∈ nm3 c, isLet x = true := fun x hx => hw x (List.mem_of_mem_take hx)
  unfold nameL
  split
  · refine ⟨by simp, by simp [wl_len]; omega, fun x hx => ?_⟩
    rcases List.mem_cons.mp hx with rfl | hx
    · exact letN_is _
    · exact hw x (List.mem_of_mem_take hx)
  · split
    · refine ⟨by simp, by simp only [List.length_append, List.length_drop, wl_len, List.length_singleton]; omega, fun x hx => ?_⟩
      rcases List.mem_append.mp hx with hx | hx
      · exact hw x (List.mem_of_mem_drop hx)
      · rw [List.mem_singleton.mp hx]; exact letN_is _
    · refine ⟨by simp; omega, ?_, fun x hx => ?_⟩
      · simp only [List.length_append, List.length_cons, List.length_take, List.length_drop]; omega
      · rcases List.mem_append.mp hx with hx | hx
        · exact hn x (List.mem_of_mem_take hx)
        · rcases List.mem_cons.mp hx with rfl | hx
          · exact letN_is _
          · exact hn x (List.mem_of_mem_drop hx)
theorem nameF_nm (c : Int) (k : Nat) : isNm (nameF c k) = true := by
  obtain ⟨h1, h2, h3⟩ := nameL_ok c k
  have hl := len_toList (nameF c k)
  rw [nameF_list] at hl
  unfold isNm
  rw [nameF_list, decide_eq_true (by omega), decide_eq_true (by omega), List.all_eq_true.mpr h3]
  rfl
theorem nameF_inj {c : Int} {i j : Nat} (hi : i < 21) (hj : j < 21) (h : nameF c i = nameF c j) : i = j := by
  have h : nameL c i = nameL c j := by rw [← nameF_list, ← nameF_list, h]
  unfold nameL at h
  split at h
  · obtain ⟨h1, h2⟩ := List.cons.inj h
    have h3 := congrArg List.length h2
    rw [List.length_take, List.length_take, wl_len] at h3
    have h4 := letN_inj (by omega) (by omega) h1
    omega
  · split at h
    · have h3 := congrArg List.length h
      simp only [List.length_append, List.length_drop, wl_len, List.length_singleton] at h3
      have h5 := congrArg (fun l => l.getLast?) h
      simp only [List.getLast?_append, List.getLast?_singleton, Option.some_or] at h5
      have h4 := letN_inj (by omega) (by omega) (Option.some.inj h5)
      omega
    · have h6 := List.append_cancel_left h
      exact letN_inj (by omega) (by omega) (List.cons.inj h6).1
theorem names_nd (c : Int) : ((List.range 21).map (nameF c)).Nodup := by
  have h : (List.range 21).Pairwise (fun a b => nameF c a ≠ nameF c b) := List.Pairwise.imp_of_mem (fun {a b} ha hb hab h => hab (nameF_inj (List.mem_range.mp ha) (List.mem_range.mp hb) h)) (List.nodup_range (n := 21))
  exact List.Pairwise.map _ (fun a b h => h) h

/-! ### the rows that the law keeps -/
section
variable {l e : Addr} {a b x : Int}
end
section
variable {K : PySem.W.Frag} {H : Hp} {Q : VK} {p : Addr} {xs : List V} {i : Int} {v : V}
theorem r_ixT (hs : SqT K H p xs) (ha : atI xs i = some v) (h : Q v H) : rIxT K (.ref p) (.int i) H Q := ⟨p, xs, i, v, rfl, rfl, hs, ha, h⟩
theorem r_ninSt {z : Str} {zs : List Str} (hs : SqL K H p (zs.map V.str)) (h : Q (.bl (!decide (z ∈ zs))) H) : rIn K true (.str z) (.ref p) H Q := by
  refine ⟨p, _, rfl, .inl hs, rfl, flat_strs zs, ?_⟩
  rw [if_pos rfl, inV_str]
  exact h
end
section
variable {K : PySem.W.Frag} {H H' : Hp} {c sd l : Addr} {fp L : List Addr} {s : ChSt}
end
theorem cut_from (xs : List V) (m : Nat) : cutV xs (some (m : Int)) none = xs.drop m := by
  unfold cutV
  rw [HT.sIx_none, HT.sIx_nat]
  rcases Nat.le_total m xs.length with h | h
  · rw [Nat.min_eq_left h, List.take_of_length_le (by rw [List.length_drop]; omega)]
  · rw [Nat.min_eq_right h, List.drop_eq_nil_of_le (Nat.le_refl _), List.drop_eq_nil_of_le h, List.take_nil]
theorem erase_filt : ∀ {ps : List (Str × Int)} {j : Nat} {n : Str} {x : Int}, (ps.map (·.1)).Nodup → ps[j]? = some (n, x) → ps.take j ++ ps.drop (j + 1) = ps.filter fun p => decide (p.1 ≠ n)
  | [], _, _, _, _, h => by simp at h
  | p :: r, 0, n, x, nd, h => by
    have e : p = (n, x) := by simpa using h
    subst e
    have nd : (n :: r.map (·.1)).Nodup := nd
    obtain ⟨n1, n2⟩ := List.nodup_cons.mp nd
    have : r.filter (fun p => decide (p.1 ≠ n)) = r := List.filter_eq_self.mpr fun q hq => decide_eq_true fun e => n1 (by rw [← e]; exact List.mem_map.mpr ⟨q, hq, rfl⟩)
    rw [List.filter_cons_of_neg (by simp), this]
    simp
  | p :: r, j + 1, n, x, nd, h => by
    have nd : (p.1 :: r.map (·.1)).Nodup := nd
    obtain ⟨n1, n2⟩ := List.nodup_cons.mp nd
    have h' : r[j]? = some (n, x) := by simpa using h
    have ih := erase_filt n2 h'
    have hp : p.1 ≠ n := fun e => n1 (by rw [e]; exact List.mem_map.mpr ⟨_, List.mem_of_getElem? h', rfl⟩)
    rw [List.filter_cons_of_pos (by simpa using hp), ← ih]
    simp
theorem paired_snoc {α β : Type} {F : α → β → Prop} : ∀ {xs : List α} {ys : List β} {a : α} {b : β}, Paired F xs ys → F a b → Paired F (xs ++ [a]) (ys ++ [b])
  | _, _, _, _, .nil, h => .cons h .nil
  | _, _, _, _, .cons q t, h => .cons q (paired_snoc t h)
/-- one of the names is not there yet -/
theorem fresh_pos (c : Int) (ks : List Str) (h : ks.length < 20) : 0 < (((List.range 21).map (nameF c)).filter fun z => !decide (z ∈ ks)).length := by
  refine Nat.pos_of_ne_zero fun e => ?_
  have e := List.length_eq_zero_iff.mp e
  have sub : ((List.range 21).map (nameF c)) ⊆ ks := fun z hz => by
    by_cases m : z ∈ ks
    · exact m
    · have : z ∈ ((List.range 21).map (nameF c)).filter fun z => !decide (z ∈ ks) := List.mem_filter.mpr ⟨hz, by simp [m]⟩
      rw [e] at this
      cases this
  have := List.Nodup.length_le_of_subset (names_nd c) sub
  rw [List.length_map, List.length_range] at this
  omega

/-! ### a chest: works and wishes change -/
section
variable {K : PySem.W.Frag} {H H' : Hp} {c dx d1 d2 w : Addr} {wt : List Addr} {s : ChSt} {fp l : List Addr}
theorem ChX.setC {cs : List (Str × Int)} (x : ChX K H c dx d1 d2 w wt s) (nd : (cs.map (·.1)).Nodup) : ChX K (L2.upd H d2 (.dK (kvI cs))) c dx d1 d2 w wt ⟨s.ps, cs, s.ws, s.pot, s.giv, s.spt⟩ := by
  have n1 := ne_of_two x.at_ x.p2 (by simp)
  have n3 := ne_of_two x.w_ x.p2 (by simp)
  exact ⟨by rw [upd_ne n1]; exact x.at_, by rw [upd_ne x.ne]; exact x.p1, upd_same, by rw [upd_ne n3]; exact x.w_, Paired.mapP x.wt fun _ _ q => by
    unfold TpS at *
    rw [upd_ne (ne_of_two q x.p2 (by simp))]; exact q, x.ne, x.nd, nd⟩
theorem ChX.addW {v n : Str} {t : Addr} (x : ChX K H c dx d1 d2 w wt s) (ht : H t = some (.tup [.str v, .str n])) : ChX K (L2.upd H w (.lst ((wt ++ [t]).map V.ref))) c dx d1 d2 w (wt ++ [t]) ⟨s.ps, s.cs, s.ws ++ [(v, n)], s.pot, s.giv, s.spt⟩ := by
  have n1 := ne_of_two x.at_ x.w_ (by simp)
  have n2 := ne_of_two x.p1 x.w_ (by simp)
  have n3 := ne_of_two x.p2 x.w_ (by simp)
  refine ⟨by rw [upd_ne n1]; exact x.at_, by rw [upd_ne n2]; exact x.p1, by rw [upd_ne n3]; exact x.p2, upd_same, paired_snoc (Paired.mapP x.wt fun _ _ q => ?_) ?_, x.ne, x.nd, x.nd2⟩
  · unfold TpS at *
    rw [upd_ne (ne_of_two q x.w_ (by simp))]; exact q
  · unfold TpS
    rw [upd_ne (ne_of_two ht x.w_ (by simp))]; exact ht
end
noncomputable def dPS (p : Str × Str) : PyData := .tuple [.str p.1, .str p.2]
theorem dPS_inj {p q : Str × Str} (h : dPS p = dPS q) : p = q := by
  unfold dPS at h
  simp at h
  exact Prod.ext h.1 h.2
theorem dat_ws {K : PySem.W.Frag} {H : Hp} {ws : List (Str × Str)} {wt : List Addr} (h : Paired (TpS H) ws wt) : DatAll K H (wt.map V.ref) (ws.map dPS) := by
  induction h with
  | nil => exact .nil
  | cons q _ ih => exact .cons (.tup (SqT.of q) (.cons (.str _) (.cons (.str _) .nil))) ih
theorem nd_str {n : Nat} {x : Str} (h : Ascii x) : niceD n (.str x) := ⟨by rw [nice]; exact strOk_ascii h, by simp [PyData.depth]⟩
theorem nd_dPS {n : Nat} {p : Str × Str} (h1 : Ascii p.1) (h2 : Ascii p.2) : niceD (n + 1) (dPS p) := nd_tuple fun e he => by
  rcases List.mem_cons.mp he with rfl | he
  · exact nd_str h1
  · rcases List.mem_cons.mp he with rfl | he
    · exact nd_str h2
    · cases he
theorem nd_ws {n : Nat} {ws : List (Str × Str)} (h : ∀ p ∈ ws, Ascii p.1 ∧ Ascii p.2) : niceD (n + 2) (.list (ws.map dPS)) := nd_list fun d hd => by
  obtain ⟨p, hp, rfl⟩ := List.mem_map.mp hd
  exact nd_dPS (h p hp).1 (h p hp).2
theorem any_dPS (p : Str × Str) : ∀ ws : List (Str × Str), ((ws.map dPS).any fun y => Spec.same y (dPS p)) = decide (p ∈ ws)
  | [] => by simp
  | q :: r => by
    rw [List.map_cons, List.any_cons, any_dPS p r, Bool.eq_iff_iff, Bool.or_eq_true, decide_eq_true_eq, decide_eq_true_eq, PyProof.Rows.same_iff, List.mem_cons]
    constructor
    · rintro (e | e)
      · exact .inl (dPS_inj e).symm
      · exact .inr e
    · rintro (e | e)
      · exact .inl (by rw [e])
      · exact .inr e
theorem same_dPS (p q : Str × Str) : Spec.same (dPS p) (dPS q) = decide (p = q) := by
  rw [Bool.eq_iff_iff, PyProof.Rows.same_iff, decide_eq_true_eq]
  exact ⟨dPS_inj, fun h => by rw [h]⟩
section
variable {K : PySem.W.Frag} {H : Hp} {Q : VK} {t w : Addr} {p : Str × Str} {ws : List (Str × Str)} {wt : List Addr} {neg : Bool}
/-- (voter, work) in the wishes -/
theorem r_wish (ht : H t = some (.tup [.str p.1, .str p.2])) (hw : H w = some (.lst (wt.map V.ref))) (hp : Paired (TpS H) ws wt) (a1 : Ascii p.1) (a2 : Ascii p.2) (ha : ∀ p ∈ ws, Ascii p.1 ∧ Ascii p.2) (h : Q (.bl (decide (p ∈ ws) != neg)) H) : rInD K neg (.ref t) (.ref w) H Q :=
  ⟨ws.map dPS, dPS p, .lst (SqL.of hw) (dat_ws hp), .tup (SqT.of ht) (.cons (.str _) (.cons (.str _) .nil)), (nd_ws (n := 2) ha).mono (by decide), (nd_dPS (n := 2) a1 a2).mono (by decide), by rw [any_dPS]; exact h⟩
end
/-- a work as it is told: (name, cost, names) -/
noncomputable def TpW (H : Hp) (r : Str × Int × List Str) (t : Addr) : Prop := ∃ l : Addr, H t = some (.tup [.str r.1, .int r.2.1, .ref l]) ∧ H l = some (.lst (r.2.2.map V.str))
section
variable {K : PySem.W.Frag} {mp : List (Option Nat)} {te td : TE} {σ : St} {H : Hp} {Q : VK} {d : Addr} {kvs : List (Key × V)}
/-- [.. for k, v in d.items()]: any value each -/
theorem comp_itemsG (htd : ∀ k : VK, k (.ref d) H → td σ H k) (hd : H d = some (.dK kvs)) (hz : kvs.length ≤ sizeLine) (u v : Nat → V) (hu : ∀ i q, kvs[i]? = some q → kV q.1 = u i ∧ q.2 = v i)
    (st : Nat → St) (hf : ∀ i σ', (σ' = liftSt mp σ ∨ ∃ j, σ' = st j) → (σ'.set 0 (some (u i))).set 1 (some (v i)) = st i) (R : Addr → Nat → V → Hp → Prop)
    (hR : ∀ l i v H1 H2, SameX l H1 H2 → R l i v H1 → R l i v H2) (hRd : ∀ l i v H1 o, H1 d = some (.frz o (.dK kvs)) → R l i v H1 → R l i v (upd H1 d (.dK kvs)))
    (he : ∀ l i, i < kvs.length → ∀ (H' : Hp) (G : VK), H l = none → (∃ o, H' l = some o) → (∃ o, H' d = some o) → SameX d H H' → (∀ v H'', R l i v H'' → Same H' H'' → G v H'') → te (st i) H' G)
    (hq : ∀ l ys H2, H l = none → Same H H2 → H2 l = some (.lst ys) → Paired (fun i v => R l i v H2) (List.range kvs.length) ys → Q (.ref l) H2) :
    tThaw (tComp mp (iItems td) (gTup K 2 (gCons (gName 0) (gCons (gName 1) gNil))) tYes te) σ H Q := by
  refine ⟨d, kvs, hd, ?_⟩
  refine r_comp ?_
  refine htd _ ⟨d, kvs, rfl, hd, fun o w hw hne => ?_⟩
  have hl0 : ∀ a, upd (upd H w (ViewO w d)) d (.frz o (.dK kvs)) a = none → H a = none := fun a ha => by
    by_cases h1 : a = d
    · subst h1; rw [upd_same] at ha; cases ha
    · rw [upd_ne h1] at ha
      by_cases h2 : a = w
      · subst h2; exact hw
      · rwa [upd_ne h2] at ha
  have hx : ∀ H', Same (upd (upd H w (ViewO w d)) d (.frz o (.dK kvs))) H' → SameX d H H' := fun H' s a x ha h => by
    have hw2 : a ≠ w := fun e => by rw [e, hw] at h; cases h
    exact s _ _ (by rw [upd_ne ha, upd_ne hw2]; exact h)
  refine comp_genY (ys_items 0 1 u v hu) st hf (fun H' s => s _ _ upd_same) hz (fun _ => true) R hR (fun i hi H' G s k => k H' (Same.refl _)) (fun l i hi _ H' G h0 h1 s k => he l i hi H' G (hl0 l h0) h1 ⟨_, s _ _ upd_same⟩ (hx H' s) k) fun l ys H' h0 s h1 pr => ?_
  rw [List.filter_eq_self.mpr (fun _ _ => rfl)] at pr
  have hfd : H' d = some (.frz o (.dK kvs)) := s _ _ upd_same
  have hld : l ≠ d := fun e => by rw [e, upd_same] at h0; cases h0
  refine ⟨o, kvs, hfd, hq l ys _ (hl0 l h0) (fun a x ha => ?_) (by rw [upd_ne hld]; exact h1) (Paired.mapP pr fun i v q => hRd l i v H' o hfd q)⟩
  by_cases h1 : a = d
  · subst h1
    rw [upd_same, ← hd]; exact ha
  · rw [upd_ne h1]
    exact hx H' s a x h1 ha
theorem r_inSt {p : Addr} {z : Str} {zs : List Str} (hs : SqL K H p (zs.map V.str)) (h : Q (.bl (decide (z ∈ zs))) H) : rIn K false (.str z) (.ref p) H Q := by
  refine ⟨p, _, rfl, .inl hs, rfl, flat_strs zs, ?_⟩
  rw [if_neg Bool.false_ne_true, inV_str]
  exact h
end
/-- paired with tuples (name, cost, names), each list new -/
theorem paired_told {H' : Hp} {P : Addr → Prop} {f : Nat → Str × Int × List Str} : ∀ {is : List Nat} {ys : List V}, Paired (fun i v => ∃ t w, v = V.ref t ∧ P w ∧ H' t = some (.tup [.str (f i).1, .int (f i).2.1, .ref w]) ∧ H' w = some (.lst ((f i).2.2.map V.str))) is ys →
    ∃ ts : List Addr, ys = ts.map V.ref ∧ Paired (TpW H') (is.map f) ts ∧ ∀ t ∈ ts, ∀ x y w, H' t = some (.tup [x, y, .ref w]) → P w
  | _, _, .nil => ⟨[], rfl, .nil, fun t ht => by cases ht⟩
  | _, _, .cons ⟨t, w, e, hp, h1, h2⟩ r => by
    obtain ⟨ts, e2, p2, q2⟩ := paired_told r
    refine ⟨t :: ts, by rw [e, e2]; rfl, .cons ⟨w, h1, h2⟩ p2, fun t' ht x y w' h' => ?_⟩
    rcases List.mem_cons.mp ht with rfl | ht
    · rw [h1] at h'
      injection h' with h'
      injection h' with h'
      simp at h'
      rw [← h'.2.2]; exact hp
    · exact q2 t' ht x y w' h'
theorem names_filt (ps : List (Str × Int)) (P : Str → Bool) : (((List.range ps.length).filter fun i => P (ps.getD i ("", 0)).1).map fun i => V.str (ps.getD i ("", 0)).1) = ((ps.map (·.1)).filter P).map V.str := by
  have h := range_filt (fun p : Str × Int => P p.1) ("", 0) ps
  have e : ((ps.map (·.1)).filter P) = (ps.filter fun p => P p.1).map (·.1) := by rw [List.filter_map]; rfl
  rw [e, ← h, List.map_map, List.map_map]
  rfl
noncomputable def WorksL (H : Hp) (l : Addr) (ts : List Addr) (rows : List (Str × Int × List Str)) : Prop := H l = some (.lst (ts.map V.ref)) ∧ Paired (TpW H) rows ts

noncomputable def toldC (s : ChSt) (p : Str × Int) : Str × Int × List Str := (p.1, p.2, (s.ps.map (·.1)).filter fun v => decide ((v, p.1) ∈ s.ws))
/-- a work in the law's own rows: the row and its names as they lie -/
structure WkR where
  b : Addr
  w2 : Addr
  n : Str
  c : Int
  zs : List Str
noncomputable def WkAt (H : Hp) (r : WkR) : Prop := H r.b = some (.lst [.str r.n, .int r.c, .ref r.w2]) ∧ H r.w2 = some (.lst (r.zs.map V.str))
noncomputable def toldR (people : List Str) (r : WkR) : Str × Int × List Str := (r.n, r.c, people.filter fun v => decide (v ∈ r.zs))
noncomputable def fpW (lp lw : Addr) (rows : List WkR) : List Addr := lp :: lw :: (rows.map (·.b) ++ rows.map (·.w2))
/-- the chest and the law's own rows -/
structure L42 (K : PySem.W.Frag) (H : Hp) (c lp lw : Addr) (fp : List Addr) (s : ChSt) (people : List Str) (rows : List WkR) (m : Nat) : Prop where
  ch : ChestAt K H c fp s
  hp : H lp = some (.lst (people.map V.str))
  hw : H lw = some (.lst (rows.map fun r => V.ref r.b))
  hr : ∀ r ∈ rows, WkAt H r
  nd : (fpW lp lw rows).Nodup
  dis : ∀ a ∈ fpW lp lw rows, a ∉ fp
  ep : s.ps.map (·.1) = people
  ec : s.cs = rows.map fun r => (r.n, r.c)
  ew : ∀ v n, (v, n) ∈ s.ws ↔ ∃ r ∈ rows, r.n = n ∧ v ∈ r.zs
  zs : ∀ r ∈ rows, r.zs.Nodup ∧ ∀ z ∈ r.zs, z ∈ people
  nm : ∀ z ∈ people, isNm z = true
  nn : ∀ r ∈ rows, isNm r.n = true
  le : people.length ≤ 20
  lr : rows.length ≤ 12
  wl : s.ws.length ≤ m
section
variable {K : PySem.W.Frag} {H H' : Hp} {c lp lw : Addr} {fp L : List Addr} {s : ChSt} {people : List Str} {rows : List WkR} {m : Nat}
theorem L42.np (x : L42 K H c lp lw fp s people rows m) : people.Nodup := by
  obtain ⟨_, _, _, _, _, X, _⟩ := x.ch
  rw [← x.ep]; exact X.nd
theorem L42.nr (x : L42 K H c lp lw fp s people rows m) : (rows.map (·.n)).Nodup := by
  obtain ⟨_, _, _, _, _, X, _⟩ := x.ch
  have := X.nd2
  rw [x.ec, List.map_map] at this
  exact this
theorem L42.there (x : L42 K H c lp lw fp s people rows m) : ∀ a ∈ fpW lp lw rows ++ fp, H a ≠ none := by
  intro a ha
  rcases List.mem_append.mp ha with ha | ha
  · unfold fpW at ha
    simp only [List.mem_cons, List.mem_append] at ha
    rcases ha with rfl | rfl | ha | ha
    · rw [x.hp]; simp
    · rw [x.hw]; simp
    · obtain ⟨r, hr, rfl⟩ := List.mem_map.mp ha
      rw [(x.hr r hr).1]; simp
    · obtain ⟨r, hr, rfl⟩ := List.mem_map.mp ha
      rw [(x.hr r hr).2]; simp
  · exact x.ch.there a ha
theorem WkAt.but {r : WkR} (x : WkAt H r) (b : But L H H') (n1 : r.b ∉ L) (n2 : r.w2 ∉ L) : WkAt H' r := ⟨b.1 _ _ n1 x.1, b.1 _ _ n2 x.2⟩
theorem fpW_b {r : WkR} (h : r ∈ rows) : r.b ∈ fpW lp lw rows := by unfold fpW; simp only [List.mem_cons, List.mem_append]; exact .inr (.inr (.inl (List.mem_map.mpr ⟨r, h, rfl⟩)))
theorem fpW_w {r : WkR} (h : r ∈ rows) : r.w2 ∈ fpW lp lw rows := by unfold fpW; simp only [List.mem_cons, List.mem_append]; exact .inr (.inr (.inr (List.mem_map.mpr ⟨r, h, rfl⟩)))
theorem fpW_p : lp ∈ fpW lp lw rows := by simp [fpW]
theorem fpW_l : lw ∈ fpW lp lw rows := by simp [fpW]
theorem L42.but (x : L42 K H c lp lw fp s people rows m) (b : But L H H') (h : ∀ a ∈ fpW lp lw rows ++ fp, a ∉ L) : L42 K H' c lp lw fp s people rows m :=
  have w := fun a (ha : a ∈ fpW lp lw rows) => h a (List.mem_append.mpr (.inl ha))
  ⟨x.ch.but b fun a ha => h a (List.mem_append.mpr (.inr ha)), b.1 _ _ (w _ fpW_p) x.hp, b.1 _ _ (w _ fpW_l) x.hw, fun r hr => (x.hr r hr).but b (w _ (fpW_b hr)) (w _ (fpW_w hr)), x.nd, x.dis, x.ep, x.ec, x.ew, x.zs, x.nm, x.nn, x.le, x.lr, x.wl⟩
theorem L42.same (x : L42 K H c lp lw fp s people rows m) (b : Same H H') : L42 K H' c lp lw fp s people rows m := x.but (But.of (l := []) b) (by simp)
theorem L42.told (x : L42 K H c lp lw fp s people rows m) : s.cs.map (toldC s) = rows.map (toldR people) := by
  rw [x.ec, List.map_map]
  refine List.map_congr_left fun r hr => ?_
  show (r.n, r.c, (s.ps.map (·.1)).filter fun v => decide ((v, r.n) ∈ s.ws)) = (r.n, r.c, people.filter fun v => decide (v ∈ r.zs))
  rw [x.ep]
  congr 2
  refine List.filter_congr fun v _ => ?_
  congr 1
  refine propext ((x.ew v r.n).trans ⟨fun ⟨r', h1, h2, h3⟩ => ?_, fun h => ⟨r, hr, rfl, h⟩⟩)
  have : r' = r := by
    obtain ⟨i, hi, e1⟩ := List.getElem_of_mem h1
    obtain ⟨j, hj, e2⟩ := List.getElem_of_mem hr
    have nd := x.nr
    have : i = j := by
      rcases Nat.lt_trichotomy i j with h | h | h
      · exact absurd (by rw [List.getElem_map, List.getElem_map, e1, e2]; exact h2) (List.pairwise_iff_getElem.mp nd i j (by simpa using hi) (by simpa using hj) h)
      · exact h
      · exact absurd (by rw [List.getElem_map, List.getElem_map, e1, e2]; exact h2.symm) (List.pairwise_iff_getElem.mp nd j i (by simpa using hj) (by simpa using hi) h)
    subst this
    rw [← e1, ← e2]
  rw [← this]; exact h3
theorem L42.aw (x : L42 K H c lp lw fp s people rows m) : ∀ p ∈ s.ws, Ascii p.1 ∧ Ascii p.2 := fun p hp => by
  obtain ⟨r, h1, h2, h3⟩ := (x.ew p.1 p.2).mp hp
  exact ⟨nm_ascii (x.nm _ ((x.zs r h1).2 _ h3)), by rw [← h2]; exact nm_ascii (x.nn r h1)⟩
end
noncomputable def dW (r : Str × Int × List Str) : PyData := .tuple [.str r.1, .int r.2.1, .list (r.2.2.map PyData.str)]
theorem WorksL.dat {K : PySem.W.Frag} {H : Hp} {l : Addr} {ts : List Addr} {rows : List (Str × Int × List Str)} (h : WorksL H l ts rows) : DatIs K H (.ref l) (.list (rows.map dW)) := by
  obtain ⟨h1, h2⟩ := h
  refine .lst (SqL.of h1) ?_
  clear h1
  induction h2 with
  | nil => exact .nil
  | cons q _ ih =>
    obtain ⟨w, g1, g2⟩ := q
    exact .cons (.tup (SqT.of g1) (.cons (.str _) (.cons (.int _) (.cons (.lst (SqL.of g2) (dat_strs _)) .nil)))) ih
theorem nd_works {rows : List (Str × Int × List Str)} (h : ∀ r ∈ rows, Ascii r.1 ∧ ∀ z ∈ r.2.2, Ascii z) : niceD 3 (.list (rows.map dW)) := nd_list fun d hd => by
  obtain ⟨r, hr, rfl⟩ := List.mem_map.mp hd
  refine nd_tuple fun e he => ?_
  rcases List.mem_cons.mp he with rfl | he
  · exact nd_str (h r hr).1
  · rcases List.mem_cons.mp he with rfl | he
    · exact nd_int _
    · rcases List.mem_cons.mp he with rfl | he
      · exact nd_strs _ (h r hr).2
      · cases he
theorem WorksL.but {H H' : Hp} {L : List Addr} {l : Addr} {ts : List Addr} {rows : List (Str × Int × List Str)} (h : WorksL H l ts rows) (b : But L H H') (n : l ∉ L) (nw : ∀ t ∈ ts, ∀ x y w, H t = some (.tup [x, y, .ref w]) → w ∉ L) : WorksL H' l ts rows := by
  obtain ⟨h1, h2⟩ := h
  refine ⟨b.1 _ _ n h1, ?_⟩
  clear h1
  induction h2 with
  | nil => exact .nil
  | @cons r t _ _ q _ ih =>
    obtain ⟨w, g1, g2⟩ := q
    exact .cons ⟨w, b.2.1 _ _ g1, b.1 _ _ (nw t (by simp) _ _ _ g1) g2⟩ (ih fun t' ht => nw t' (by simp [ht]))
theorem WorksL.tup {H : Hp} {l : Addr} {ts : List Addr} {rows : List (Str × Int × List Str)} (h : WorksL H l ts rows) : ∀ t ∈ ts, ∃ r ∈ rows, TpW H r t := by
  obtain ⟨h1, h2⟩ := h
  clear h1
  induction h2 with
  | nil => intro t ht; cases ht
  | cons q _ ih =>
    intro t' ht
    rcases List.mem_cons.mp ht with rfl | ht
    · exact ⟨_, by simp, q⟩
    · obtain ⟨r, hr, z⟩ := ih t' ht
      exact ⟨r, by simp [hr], z⟩
/-- what was held: both lists, and what they own -/
noncomputable def Held2 (P : Addr → Prop) (H : Hp) (t f g : Addr) (ts us : List Addr) (rows : List (Str × Int × List Str)) : Prop :=
  H t = some (.tup [.ref f, .ref g]) ∧ WorksL H f ts rows ∧ WorksL H g us rows ∧ (P f ∧ P g) ∧ ∀ t' ∈ ts ++ us, ∀ x y w, H t' = some (.tup [x, y, .ref w]) → P w
theorem L42.next {K : PySem.W.Frag} {H H7 H8 : Hp} {c lp lw : Addr} {fp fp8 : List Addr} {s s' : ChSt} {people people' : List Str} {rows rows' : List WkR} {m : Nat} (x : L42 K H c lp lw fp s people rows m) (b7 : But (fpW lp lw rows) H H7)
    (hp : H7 lp = some (.lst (people'.map V.str))) (hw : H7 lw = some (.lst (rows'.map fun r => V.ref r.b))) (hr : ∀ r ∈ rows', WkAt H7 r) (nd : (fpW lp lw rows').Nodup) (new : ∀ a ∈ fpW lp lw rows', a ∈ fpW lp lw rows ∨ H a = none)
    (c8 : ChestAt K H8 c fp8 s') (b8 : But fp H7 H8) (n8 : New fp fp8 H7) (ep : s'.ps.map (·.1) = people') (ec : s'.cs = rows'.map fun r => (r.n, r.c)) (ew : ∀ v n, (v, n) ∈ s'.ws ↔ ∃ r ∈ rows', r.n = n ∧ v ∈ r.zs)
    (zs : ∀ r ∈ rows', r.zs.Nodup ∧ ∀ z ∈ r.zs, z ∈ people') (nm : ∀ z ∈ people', isNm z = true) (nn : ∀ r ∈ rows', isNm r.n = true) (le : people'.length ≤ 20) (lr : rows'.length ≤ 12) (wl : s'.ws.length ≤ m + 1) :
    L42 K H8 c lp lw fp8 s' people' rows' (m + 1) ∧ But (fpW lp lw rows ++ fp) H H8 ∧ New (fpW lp lw rows ++ fp) (fpW lp lw rows' ++ fp8) H := by
  have tr : ∀ a ∈ fpW lp lw rows', H7 a ≠ none := fun a ha => by
    unfold fpW at ha
    simp only [List.mem_cons, List.mem_append] at ha
    rcases ha with rfl | rfl | ha | ha
    · rw [hp]; simp
    · rw [hw]; simp
    · obtain ⟨r, h, rfl⟩ := List.mem_map.mp ha
      rw [(hr r h).1]; simp
    · obtain ⟨r, h, rfl⟩ := List.mem_map.mp ha
      rw [(hr r h).2]; simp
  have no : ∀ a ∈ fpW lp lw rows', a ∉ fp := fun a ha hf => by
    rcases new a ha with e | e
    · exact x.dis a e hf
    · exact x.ch.there a hf e
  refine ⟨⟨c8, b8.1 _ _ (no _ fpW_p) hp, b8.1 _ _ (no _ fpW_l) hw, fun r h => (hr r h).but b8 (no _ (fpW_b h)) (no _ (fpW_w h)), nd, fun a ha hf => ?_, ep, ec, ew, zs, nm, nn, le, lr, wl⟩, (b7.mono fun a ha => by simp [ha]).trans (b8.mono fun a ha => by simp [ha]), fun a ha => ?_⟩
  · rcases n8 a hf with e | e
    · exact no a ha e
    · exact tr a ha e
  · rcases List.mem_append.mp ha with ha | ha
    · rcases new a ha with e | e
      · exact .inl (by simp [e])
      · exact .inr e
    · rcases n8 a ha with e | e
      · exact .inl (by simp [e])
      · exact .inr (b7.2.2 _ e)
theorem erase_filtS : ∀ {zs : List Str} {j : Nat} {n : Str}, zs.Nodup → zs[j]? = some n → zs.eraseIdx j = zs.filter fun z => decide (z ≠ n)
  | [], _, _, _, h => by simp at h
  | p :: r, 0, n, nd, h => by
    have e : p = n := by simpa using h
    subst e
    obtain ⟨n1, n2⟩ := List.nodup_cons.mp nd
    have : r.filter (fun z => decide (z ≠ p)) = r := List.filter_eq_self.mpr fun q hq => decide_eq_true fun e => n1 (by rw [← e]; exact hq)
    rw [List.filter_cons_of_neg (by simp), this]
    rfl
  | p :: r, j + 1, n, nd, h => by
    obtain ⟨n1, n2⟩ := List.nodup_cons.mp nd
    have h' : r[j]? = some n := by simpa using h
    have hp : p ≠ n := fun e => n1 (by rw [e]; exact List.mem_of_getElem? h')
    rw [List.filter_cons_of_pos (by simpa using hp), ← erase_filtS n2 h']
    rfl
theorem erase_map {α β : Type} (f : α → β) : ∀ (xs : List α) (j : Nat), (xs.map f).eraseIdx j = (xs.eraseIdx j).map f
  | [], _ => rfl
  | _ :: _, 0 => rfl
  | a :: r, j + 1 => by
    show f a :: (r.map f).eraseIdx j = f a :: (r.eraseIdx j).map f
    rw [erase_map f r j]
theorem nodup_first {zs : List Str} {j : Nat} {n : Str} (nd : zs.Nodup) (h : zs[j]? = some n) : ∀ k, k < j → zs[k]? ≠ some n := fun k hk e => by
  obtain ⟨h1, e1⟩ := List.getElem?_eq_some_iff.mp h
  obtain ⟨h2, e2⟩ := List.getElem?_eq_some_iff.mp e
  exact List.pairwise_iff_getElem.mp nd k j h2 h1 hk (by rw [e1, e2])
section
variable {K : PySem.W.Frag} {H : Hp} {Q : VK} {l : Addr} {zs : List Str} {n : Str} {j : Nat}
/-- zs.remove(n), n there once -/
theorem r_removeS (h : H l = some (.lst (zs.map V.str))) (nd : zs.Nodup) (hj : zs[j]? = some n) (ha : ∀ z ∈ zs, Ascii z) (q : Q .non (L2.upd H l (.lst ((zs.filter fun z => decide (z ≠ n)).map V.str)))) : rRemove K (.ref l) [.str n] H Q := by
  refine ⟨l, _, _, zs.map PyData.str, .str n, j, rfl, rfl, h, dat_strs zs, .str n, (nd_strs zs ha).mono (by decide), nd_str (ha n (List.mem_of_getElem? hj)), by rw [List.getElem?_map, hj]; rfl, fun k hk e => ?_, ?_⟩
  · rw [List.getElem?_map] at e
    cases z : zs[k]? with
    | none => rw [z] at e; cases e
    | some y =>
      rw [z] at e
      have e : y = n := by simpa using e
      exact nodup_first nd hj k hk (by rw [z, e])
  · have : (zs.map V.str).eraseIdx j = (zs.filter fun z => decide (z ≠ n)).map V.str := by rw [← erase_filtS nd hj, erase_map]
    rw [this]; exact q
end
noncomputable def dropZ (n : Str) (r : WkR) : WkR := { r with zs := r.zs.filter fun z => decide (z ≠ n) }
theorem dropZ_fp (n : Str) (rows : List WkR) (lp lw : Addr) : fpW lp lw (rows.map (dropZ n)) = fpW lp lw rows := by
  unfold fpW
  rw [List.map_map, List.map_map]
  rfl
theorem L42.ewr {K : PySem.W.Frag} {H : Hp} {c lp lw : Addr} {fp : List Addr} {s : ChSt} {people : List Str} {rows : List WkR} {m : Nat} (x : L42 K H c lp lw fp s people rows m) {r : WkR} (hr : r ∈ rows) (v : Str) : (v, r.n) ∈ s.ws ↔ v ∈ r.zs := by
  refine (x.ew v r.n).trans ⟨fun ⟨r', h1, h2, h3⟩ => ?_, fun h => ⟨r, hr, rfl, h⟩⟩
  have : r' = r := by
    obtain ⟨i, hi, e1⟩ := List.getElem_of_mem h1
    obtain ⟨j, hj, e2⟩ := List.getElem_of_mem hr
    have nd := x.nr
    have : i = j := by
      rcases Nat.lt_trichotomy i j with h | h | h
      · exact absurd (by rw [List.getElem_map, List.getElem_map, e1, e2]; exact h2) (List.pairwise_iff_getElem.mp nd i j (by simpa using hi) (by simpa using hj) h)
      · exact h
      · exact absurd (by rw [List.getElem_map, List.getElem_map, e1, e2]; exact h2.symm) (List.pairwise_iff_getElem.mp nd j i (by simpa using hj) (by simpa using hi) h)
    subst this
    rw [← e1, ← e2]
  rw [← this]; exact h3
noncomputable def setZ (n : Str) (zs : List Str) (r : WkR) : WkR := ⟨r.b, r.w2, r.n, r.c, if r.n = n then zs else r.zs⟩
theorem setZ_fp (n : Str) (zs : List Str) (rows : List WkR) (lp lw : Addr) : fpW lp lw (rows.map (setZ n zs)) = fpW lp lw rows := by
  unfold fpW
  rw [List.map_map, List.map_map]
  rfl
theorem L42.wish {K : PySem.W.Frag} {H H7 H8 : Hp} {c lp lw : Addr} {fp fp8 : List Addr} {s s' : ChSt} {people : List Str} {rows : List WkR} {m : Nat} (x : L42 K H c lp lw fp s people rows m) {r : WkR} (hr : r ∈ rows) {zs' : List Str} (b7 : But (fpW lp lw rows) H H7)
    (hz : H7 r.w2 = some (.lst (zs'.map V.str))) (keep : ∀ a, a ≠ r.w2 → ∀ o, H a = some o → H7 a = some o) (nz : zs'.Nodup) (pz : ∀ z ∈ zs', z ∈ people) (c8 : ChestAt K H8 c fp8 s') (b8 : But fp H7 H8) (n8 : New fp fp8 H7) (e1 : s'.ps = s.ps) (e2 : s'.cs = s.cs)
    (ew : ∀ v n, (v, n) ∈ s'.ws ↔ if n = r.n then v ∈ zs' else (v, n) ∈ s.ws) (wl : s'.ws.length ≤ m + 1) :
    L42 K H8 c lp lw fp8 s' people (rows.map (setZ r.n zs')) (m + 1) ∧ But (fpW lp lw rows ++ fp) H H8 ∧ New (fpW lp lw rows ++ fp) (fpW lp lw (rows.map (setZ r.n zs')) ++ fp8) H := by
  have ndp := x.nd
  have nlp : ∀ a ∈ lw :: (rows.map (·.b) ++ rows.map (·.w2)), a ≠ lp := fun a ha e => (List.nodup_cons.mp ndp).1 (by rw [← e]; exact ha)
  have nd1 := (List.nodup_cons.mp ndp).2
  have nlw : ∀ a ∈ rows.map (·.b) ++ rows.map (·.w2), a ≠ lw := fun a ha e => (List.nodup_cons.mp nd1).1 (by rw [← e]; exact ha)
  have nd2 := (List.nodup_cons.mp nd1).2
  obtain ⟨ndb, ndw, nbw⟩ := List.nodup_append.mp nd2
  have memb : ∀ r ∈ rows, r.b ∈ rows.map (·.b) ∧ r.w2 ∈ rows.map (·.w2) := fun r hr => ⟨List.mem_map.mpr ⟨r, hr, rfl⟩, List.mem_map.mpr ⟨r, hr, rfl⟩⟩
  have inj : ∀ r' ∈ rows, r'.n = r.n ∨ r'.w2 = r.w2 → r' = r := fun r' h1 h2 => by
    obtain ⟨i, hi, e1⟩ := List.getElem_of_mem h1
    obtain ⟨j, hj, e2⟩ := List.getElem_of_mem hr
    have : i = j := by
      rcases Nat.lt_trichotomy i j with h | h | h
      · rcases h2 with h2 | h2
        · exact absurd (by rw [List.getElem_map, List.getElem_map, e1, e2]; exact h2) (List.pairwise_iff_getElem.mp x.nr i j (by simpa using hi) (by simpa using hj) h)
        · exact absurd (by rw [List.getElem_map, List.getElem_map, e1, e2]; exact h2) (List.pairwise_iff_getElem.mp ndw i j (by simpa using hi) (by simpa using hj) h)
      · exact h
      · rcases h2 with h2 | h2
        · exact absurd (by rw [List.getElem_map, List.getElem_map, e1, e2]; exact h2.symm) (List.pairwise_iff_getElem.mp x.nr j i (by simpa using hj) (by simpa using hi) h)
        · exact absurd (by rw [List.getElem_map, List.getElem_map, e1, e2]; exact h2.symm) (List.pairwise_iff_getElem.mp ndw j i (by simpa using hj) (by simpa using hi) h)
    subst this
    rw [← e1, ← e2]
  have n1 : lp ≠ r.w2 := fun e => nlp r.w2 (by simp only [List.mem_cons, List.mem_append]; exact .inr (.inr (memb r hr).2)) e.symm
  have n2 : lw ≠ r.w2 := fun e => nlw r.w2 (by simp only [List.mem_append]; exact .inr (memb r hr).2) e.symm
  refine x.next b7 (keep _ n1 _ x.hp) (by rw [keep _ n2 _ x.hw, List.map_map]; rfl) (fun r' h => ?_) (by rw [setZ_fp]; exact x.nd) (fun a ha => by rw [setZ_fp] at ha; exact .inl ha) c8 b8 n8 (by rw [e1]; exact x.ep) (by rw [e2, x.ec, List.map_map]; rfl) (fun v n => ?_) (fun r' h => ?_) x.nm (fun r' h => ?_) x.le (by rw [List.length_map]; exact x.lr) wl
  · obtain ⟨r0, h0, rfl⟩ := List.mem_map.mp h
    refine ⟨keep _ (fun e => nbw _ (memb r0 h0).1 _ (memb r hr).2 e) _ (x.hr r0 h0).1, ?_⟩
    show H7 r0.w2 = some (.lst ((if r0.n = r.n then zs' else r0.zs).map V.str))
    by_cases e : r0.n = r.n
    · rw [if_pos e, inj r0 h0 (.inl e)]; exact hz
    · rw [if_neg e]
      exact keep _ (fun z => e (by rw [inj r0 h0 (.inr z)])) _ (x.hr r0 h0).2
  · rw [ew v n]
    constructor
    · intro h
      by_cases e : n = r.n
      · rw [if_pos e] at h
        exact ⟨setZ r.n zs' r, List.mem_map.mpr ⟨r, hr, rfl⟩, e.symm, by show v ∈ if r.n = r.n then zs' else r.zs; rw [if_pos rfl]; exact h⟩
      · rw [if_neg e] at h
        obtain ⟨r0, h1, h2, h3⟩ := (x.ew v n).mp h
        exact ⟨setZ r.n zs' r0, List.mem_map.mpr ⟨r0, h1, rfl⟩, h2, by show v ∈ if r0.n = r.n then zs' else r0.zs; rw [if_neg (by rw [h2]; exact e)]; exact h3⟩
    · rintro ⟨r', h1, h2, h3⟩
      obtain ⟨r0, h0, rfl⟩ := List.mem_map.mp h1
      have h2 : r0.n = n := h2
      have h3 : v ∈ if r0.n = r.n then zs' else r0.zs := h3
      by_cases e : n = r.n
      · rw [if_pos (by rw [h2]; exact e)] at h3
        rw [if_pos e]; exact h3
      · rw [if_neg (by rw [h2]; exact e)] at h3
        rw [if_neg e]
        exact (x.ew v n).mpr ⟨r0, h0, h2, h3⟩
  · obtain ⟨r0, h0, rfl⟩ := List.mem_map.mp h
    show (if r0.n = r.n then zs' else r0.zs).Nodup ∧ ∀ z ∈ (if r0.n = r.n then zs' else r0.zs), z ∈ people
    by_cases e : r0.n = r.n
    · rw [if_pos e]; exact ⟨nz, pz⟩
    · rw [if_neg e]; exact x.zs r0 h0
  · obtain ⟨r0, h0, rfl⟩ := List.mem_map.mp h
    exact x.nn r0 h0

structure HR where
  t : Addr
  f : Addr
  g : Addr
  tl : List Addr
  ul : List Addr
  rows : List (Str × Int × List Str)
theorem Held2.step {P P' : Addr → Prop} {H H' : Hp} {L : List Addr} {t f g : Addr} {ts us : List Addr} {rows : List (Str × Int × List Str)} (h : Held2 P H t f g ts us rows) (b : But L H H') (hL : ∀ a, P a → a ∉ L) (hP : ∀ a, P a → H a ≠ none → P' a) : Held2 P' H' t f g ts us rows := by
  obtain ⟨h1, h2, h3, ⟨h4, h5⟩, h6⟩ := h
  have back : ∀ t' ∈ ts ++ us, ∀ x y w, H' t' = some (.tup [x, y, .ref w]) → H t' = some (.tup [x, y, .ref w]) ∧ H w ≠ none := fun t' ht x y w z => by
    have : ∃ r w', H t' = some (.tup [.str r, .int (w' : Int × Addr).1, .ref w'.2]) ∧ H w'.2 ≠ none := by
      rcases List.mem_append.mp ht with ht | ht
      · obtain ⟨r, _, w', z1, z2⟩ := h2.tup t' ht
        exact ⟨r.1, (r.2.1, w'), z1, by rw [z2]; simp⟩
      · obtain ⟨r, _, w', z1, z2⟩ := h3.tup t' ht
        exact ⟨r.1, (r.2.1, w'), z1, by rw [z2]; simp⟩
    obtain ⟨r, w', z1, z2⟩ := this
    rw [b.2.1 _ _ z1] at z
    injection z with z
    injection z with z
    simp at z
    obtain ⟨rfl, rfl, rfl⟩ := z
    exact ⟨z1, z2⟩
  refine ⟨b.2.1 _ _ h1, h2.but b (hL f h4) fun t' ht x y w z => hL w (h6 t' (by simp [ht]) x y w z), h3.but b (hL g h5) fun t' ht x y w z => hL w (h6 t' (by simp [ht]) x y w z), ⟨hP f h4 (by rw [h2.1]; simp), hP g h5 (by rw [h3.1]; simp)⟩, fun t' ht x y w z => ?_⟩
  obtain ⟨z1, z2⟩ := back t' ht x y w z
  exact hP w (h6 t' ht x y w z1) z2
structure M42 (K : PySem.W.Frag) (H : Hp) (c lp lw hl pz : Addr) (zz : List V) (m n : Nat) (fp : List Addr) (s : ChSt) (people : List Str) (rows : List WkR) (hs : List HR) : Prop where
  x : L42 K H c lp lw fp s people rows m
  hl_ : H hl = some (.lst (hs.map fun h => V.ref h.t))
  hln : hl ∉ fpW lp lw rows ++ fp
  pz_ : H pz = some (.lst zz)
  pzn : pz ∉ fpW lp lw rows ++ fp
  pzh : pz ≠ hl
  len : hs.length ≤ n
  held : ∀ h ∈ hs, Held2 (fun a => a ∉ fpW lp lw rows ++ fp ∧ a ≠ hl) H h.t h.f h.g h.tl h.ul h.rows ∧ (∀ r ∈ h.rows, Ascii r.1 ∧ ∀ z ∈ r.2.2, Ascii z) ∧ h.rows.length ≤ 12 ∧ ∀ r ∈ h.rows, r.2.2.length ≤ 20
  sep : ∀ a ∈ hs, ∀ b ∈ hs, ∀ t' ∈ b.tl, ∀ x y w, H t' = some (.tup [x, y, .ref w]) → w ≠ a.f
section
variable {K : PySem.W.Frag} {H H' : Hp} {c lp lw hl pz : Addr} {zz : List V} {m n : Nat} {fp : List Addr} {s : ChSt} {people : List Str} {rows : List WkR} {hs : List HR}
theorem Held2.tupb {P : Addr → Prop} {L : List Addr} {t f g : Addr} {ts us : List Addr} {rows : List (Str × Int × List Str)} (h : Held2 P H t f g ts us rows) (b : But L H H') : ∀ t' ∈ ts, ∀ x y w, H' t' = some (.tup [x, y, .ref w]) → H t' = some (.tup [x, y, .ref w]) := fun t' ht x y w z => by
  obtain ⟨r, _, w', z1, _⟩ := h.2.1.tup t' ht
  rw [b.2.1 _ _ z1] at z
  rw [z1]; exact z
theorem M42.keep (M : M42 K H c lp lw hl pz zz m n fp s people rows hs) (b : Same H H') : M42 K H' c lp lw hl pz zz m n fp s people rows hs :=
  ⟨M.x.same b, b _ _ M.hl_, M.hln, b _ _ M.pz_, M.pzn, M.pzh, M.len, fun h hh => ⟨(M.held h hh).1.step (But.of (l := []) b) (by simp) (fun a p _ => p), (M.held h hh).2⟩, fun a ha h hh t' ht x y w z => M.sep a ha h hh t' ht x y w ((M.held h hh).1.tupb (But.of (l := []) b) t' ht x y w z)⟩
theorem M42.deed {fp' : List Addr} {s' : ChSt} {people' : List Str} {rows' : List WkR} {m' : Nat} (M : M42 K H c lp lw hl pz zz m n fp s people rows hs) (x' : L42 K H' c lp lw fp' s' people' rows' m') (b : But (fpW lp lw rows ++ fp) H H') (w : New (fpW lp lw rows ++ fp) (fpW lp lw rows' ++ fp') H) :
    M42 K H' c lp lw hl pz zz m' n fp' s' people' rows' hs := by
  have out : ∀ a, a ∉ fpW lp lw rows ++ fp → H a ≠ none → a ∉ fpW lp lw rows' ++ fp' := fun a h1 h2 m => by
    rcases w a m with e | e
    · exact h1 e
    · exact h2 e
  exact ⟨x', b.1 _ _ M.hln M.hl_, out _ M.hln (by rw [M.hl_]; simp), b.1 _ _ M.pzn M.pz_, out _ M.pzn (by rw [M.pz_]; simp), M.pzh, M.len, fun h hh => ⟨(M.held h hh).1.step b (fun a p => p.1) (fun a p q => ⟨out a p.1 q, p.2⟩), (M.held h hh).2⟩, fun a ha h hh t' ht x y w z => M.sep a ha h hh t' ht x y w ((M.held h hh).1.tupb b t' ht x y w z)⟩
theorem M42.right {t f g : Addr} {ts us : List Addr} (M : M42 K H c lp lw hl pz zz m n fp s people rows hs) (b : But [hl] H H') (h1 : H' hl = some (.lst (hs.map (fun h => V.ref h.t) ++ [.ref t]))) (h2 : Held2 (fun a => H a = none) H' t f g ts us (rows.map (toldR people))) (h3 : ∀ t' ∈ ts, ∀ x y w, H' t' = some (.tup [x, y, .ref w]) → w ≠ f) :
    M42 K H' c lp lw hl pz zz m (n + 1) fp s people rows (hs ++ [⟨t, f, g, ts, us, rows.map (toldR people)⟩]) := by
  have nh : ∀ a, a ≠ hl → a ∉ [hl] := fun a e => by simpa using e
  have fr : ∀ a, H a = none → a ∉ fpW lp lw rows ++ fp ∧ a ≠ hl := fun a e => ⟨fun m => M.x.there a m e, fun z => by have := M.hl_; rw [← z, e] at this; cases this⟩
  refine ⟨M.x.but b fun a ha => nh a fun e => M.hln (by rw [← e]; exact ha), by rw [h1]; simp, M.hln, b.1 _ _ (nh _ M.pzh) M.pz_, M.pzn, M.pzh, by rw [List.length_append, List.length_singleton]; have := M.len; omega, fun h hh => ?_, fun a ha h hh t' ht x y w z => ?_⟩
  · rcases List.mem_append.mp hh with hh | hh
    · exact ⟨(M.held h hh).1.step b (fun a p => nh a p.2) (fun a p _ => p), (M.held h hh).2⟩
    · rw [List.mem_singleton.mp hh]
      refine ⟨⟨h2.1, h2.2.1, h2.2.2.1, ⟨fr _ h2.2.2.2.1.1, fr _ h2.2.2.2.1.2⟩, fun t' ht x y w z => fr w (h2.2.2.2.2 t' ht x y w z)⟩, fun r hr => ?_, by show (rows.map (toldR people)).length ≤ 12; rw [List.length_map]; exact M.x.lr, fun r hr => ?_⟩
      · obtain ⟨r', hr', rfl⟩ := List.mem_map.mp hr
        exact ⟨nm_ascii (M.x.nn r' hr'), fun z hz => nm_ascii (M.x.nm z (List.mem_filter.mp hz).1)⟩
      · obtain ⟨r', hr', rfl⟩ := List.mem_map.mp hr
        exact Nat.le_trans (List.length_filter_le _ _) M.x.le
  · have old : ∀ h ∈ hs, H h.f ≠ none := fun h hh => by rw [(M.held h hh).1.2.1.1]; simp
    rcases List.mem_append.mp hh with hh | hh
    · have z' := (M.held h hh).1.tupb b t' ht x y w z
      rcases List.mem_append.mp ha with ha | ha
      · exact M.sep a ha h hh t' ht x y w z'
      · rw [List.mem_singleton.mp ha]
        intro e
        obtain ⟨r, _, w', z1, z2⟩ := (M.held h hh).1.2.1.tup t' ht
        rw [z1] at z'
        injection z' with z'
        injection z' with z'
        simp at z'
        have e : w = f := e
        rw [z'.2.2, e, h2.2.2.2.1.1] at z2
        cases z2
    · rw [List.mem_singleton.mp hh] at ht
      have ht : t' ∈ ts := ht
      rcases List.mem_append.mp ha with ha | ha
      · intro e
        exact old a ha (by rw [← e]; exact h2.2.2.2.2 t' (by simp [ht]) x y w z)
      · rw [List.mem_singleton.mp ha]
        exact h3 t' ht x y w z
end
noncomputable def innerW (H : Hp) (t : Addr) : Addr := match H t with
  | some (.tup [_, _, .ref w]) => w
  | _ => 0
theorem innerW_of {H : Hp} {t w : Addr} {x y : V} (h : H t = some (.tup [x, y, .ref w])) : innerW H t = w := by unfold innerW; rw [h]

noncomputable def sp__law_nth (K : PySem.W.Frag) : Sp := spOf 2 fun vs H Q => ∃ (a : Addr) (ns : List Int) (k : Nat), vs = [.ref a, .int k] ∧ SqL K H a (ns.map V.int) ∧ ∀ (v : Int) H', Same H H' → Q (.int v) H'

noncomputable def sp_Chest___init__ (K : PySem.W.Frag) : Sp := spOf 1 fun vs H Q => ∃ (c dx : Addr), vs = [.ref c] ∧ H c = some (.ins (clsA K "Chest") dx []) ∧ ∀ H' fp, ChestAt K H' c fp ⟨[], [], [], 0, 0, 0⟩ → But [c] H H' → New [c] fp H → Q .non H'

noncomputable def sp__law_due (K : PySem.W.Frag) : Sp := spOf 2 fun vs H Q => ∃ (lp lw : Addr) (people : List Str) (rows : List WkR), vs = [.ref lp, .ref lw] ∧ H lp = some (.lst (people.map V.str)) ∧ H lw = some (.lst (rows.map fun r => V.ref r.b)) ∧ (∀ r ∈ rows, WkAt H r) ∧ people.length ≤ 1000 ∧ rows.length ≤ 1000 ∧
  ∀ (l : Addr) (ts : List Addr) H', H l = none → Same H H' → WorksL H' l ts (rows.map (toldR people)) → (∀ t ∈ ts, ∀ x y w, H' t = some (.tup [x, y, .ref w]) → w ≠ l ∧ H w = none) → Q (.ref l) H'

noncomputable def sp_Chest_wanters (K : PySem.W.Frag) : Sp := spOf 2 fun vs H Q => ∃ (c dx d1 d2 w : Addr) (n : Str) (wt : List Addr) (s : ChSt), vs = [.ref c, .str n] ∧ H c = some (.ins (clsA K "Chest") dx (chF d1 d2 w s.pot s.giv s.spt)) ∧ H d1 = some (.dK (kvI s.ps)) ∧ H w = some (.lst (wt.map V.ref)) ∧ Paired (TpS H) s.ws wt ∧
  Ascii n ∧ (∀ p ∈ s.ps, Ascii p.1) ∧ (∀ p ∈ s.ws, Ascii p.1 ∧ Ascii p.2) ∧ s.ps.length ≤ 1000 ∧
  ∀ l H', H l = none → Same H H' → H' l = some (.lst (((s.ps.map (·.1)).filter fun v => decide ((v, n) ∈ s.ws)).map V.str)) → Q (.ref l) H'

noncomputable def sp_Chest_works (K : PySem.W.Frag) : Sp := spOf 1 fun vs H Q => ∃ (c : Addr) (fp : List Addr) (s : ChSt), vs = [.ref c] ∧ ChestAt K H c fp s ∧ (∀ p ∈ s.ps, Ascii p.1) ∧ (∀ p ∈ s.cs, Ascii p.1) ∧ (∀ p ∈ s.ws, Ascii p.1 ∧ Ascii p.2) ∧ s.ps.length ≤ 1000 ∧ s.cs.length ≤ 1000 ∧
  ∀ l ts H', H l = none → Same H H' → WorksL H' l ts (s.cs.map (toldC s)) → (∀ t ∈ ts, ∀ x y w, H' t = some (.tup [x, y, .ref w]) → w ≠ l ∧ H w = none) → Q (.ref l) H'

noncomputable def sp__law_counts (_ : PySem.W.Frag) : Sp := spOf 1 fun vs H Q => ∃ (i : Int), vs = [.int i] ∧ Q (.bl true) H

noncomputable def sp_Chest_voters (K : PySem.W.Frag) : Sp := spOf 1 fun vs H Q => ∃ (c : Addr) (fp : List Addr) (s : ChSt), vs = [.ref c] ∧ ChestAt K H c fp s ∧ ∀ l H', H l = none → Same H H' → RowsL H' l s.ps → Q (.ref l) H'

noncomputable def sp__law_right (K : PySem.W.Frag) : Sp := spOf 4 fun vs H Q => ∃ (c lp lw hl : Addr) (fp : List Addr) (s : ChSt) (people : List Str) (rows : List WkR) (m : Nat) (hs : List V), vs = [.ref c, .ref lp, .ref lw, .ref hl] ∧ L42 K H c lp lw fp s people rows m ∧ H hl = some (.lst hs) ∧ hs.length ≤ 900 ∧ hl ∉ fpW lp lw rows ++ fp ∧
  ∀ (H' : Hp) (t f g : Addr) (ts us : List Addr), But [hl] H H' → H' hl = some (.lst (hs ++ [.ref t])) → Held2 (fun a => H a = none) H' t f g ts us (rows.map (toldR people)) → (∀ t' ∈ ts, ∀ x y w, H' t' = some (.tup [x, y, .ref w]) → w ≠ f) → Q (.bl true) H'

noncomputable def sp_is_name (_ : PySem.W.Frag) : Sp := spOf 1 fun vs H Q => ∃ z : Str, vs = [.str z] ∧ Ascii z ∧ z.length ≤ 100000 ∧ ∀ H', Same H H' → Q (.bl (isNm z)) H'

noncomputable def sp_check_new_name (_ : PySem.W.Frag) : Sp := spOf 2 fun vs H Q => ∃ (z : Str) (d : Addr) (kvs : List (Key × V)), vs = [.str z, .ref d] ∧ isNm z = true ∧ H d = some (.dK kvs) ∧ valV kvs (.inr z) = none ∧ ∀ H', Same H H' → Q .non H'

noncomputable def sp_check_place (_ : PySem.W.Frag) : Sp := spOf 2 fun vs H Q => ∃ (d : Addr) (kvs : List (Key × V)) (n : Int), vs = [.ref d, .int n] ∧ H d = some (.dK kvs) ∧ (kvs.length : Int) < n ∧ Q .non H

noncomputable def sp_Chest_enrol (K : PySem.W.Frag) : Sp := spOf 2 fun vs H Q => ∃ (c : Addr) (n : Str) (fp : List Addr) (s : ChSt), vs = [.ref c, .str n] ∧ ChestAt K H c fp s ∧ isNm n = true ∧ n ∉ s.ps.map (·.1) ∧ s.ps.length < 20 ∧
  ∀ H' fp', ChestAt K H' c fp' { s with ps := s.ps ++ [(n, 0)] } → But fp H H' → New fp fp' H → Q .non H'

noncomputable def sp__law_spins (_ : PySem.W.Frag) : Sp := spOf 2 fun vs H Q => ∃ (c : Int) (m : Nat), vs = [.int c, .int m] ∧ m ≤ 1000 ∧ ∀ (l : Addr) H', H l = none → Same H H' → H' l = some (.lst ((spinL c m).map V.int)) → Q (.ref l) H'

noncomputable def sp__law_name (_ : PySem.W.Frag) : Sp := spOf 2 fun vs H Q => ∃ (c : Int) (k : Nat), vs = [.int c, .int k] ∧ k ≤ 1000 ∧ ∀ H', Same H H' → Q (.str (nameF c k)) H'

noncomputable def sp_Chest_check_voter (K : PySem.W.Frag) : Sp := spOf 2 fun vs H Q => ∃ (c : Addr) (n : Str) (fp : List Addr) (s : ChSt), vs = [.ref c, .str n] ∧ ChestAt K H c fp s ∧ n ∈ s.ps.map (·.1) ∧ Q .non H

noncomputable def sp_Chest_check_work (K : PySem.W.Frag) : Sp := spOf 2 fun vs H Q => ∃ (c : Addr) (n : Str) (fp : List Addr) (s : ChSt), vs = [.ref c, .str n] ∧ ChestAt K H c fp s ∧ n ∈ s.cs.map (·.1) ∧ Q .non H

noncomputable def unwS (s : ChSt) (v n : Str) : ChSt := { s with ws := s.ws.filter fun p => !decide (p = (v, n)) }
noncomputable def sp_Chest_unwant (K : PySem.W.Frag) : Sp := spOf 3 fun vs H Q => ∃ (c : Addr) (v n : Str) (fp : List Addr) (s : ChSt), vs = [.ref c, .str v, .str n] ∧ ChestAt K H c fp s ∧ v ∈ s.ps.map (·.1) ∧ n ∈ s.cs.map (·.1) ∧ Ascii v ∧ Ascii n ∧ (∀ p ∈ s.ws, Ascii p.1 ∧ Ascii p.2) ∧ s.ws.length ≤ 900 ∧
  ∀ H' fp', ChestAt K H' c fp' (unwS s v n) → But fp H H' → New fp fp' H → Q .non H'

noncomputable def wantS (s : ChSt) (v n : Str) : ChSt := if (v, n) ∈ s.ws then s else { s with ws := s.ws ++ [(v, n)] }
noncomputable def sp_Chest_want (K : PySem.W.Frag) : Sp := spOf 3 fun vs H Q => ∃ (c : Addr) (v n : Str) (fp : List Addr) (s : ChSt), vs = [.ref c, .str v, .str n] ∧ ChestAt K H c fp s ∧ v ∈ s.ps.map (·.1) ∧ n ∈ s.cs.map (·.1) ∧ Ascii v ∧ Ascii n ∧ (∀ p ∈ s.ws, Ascii p.1 ∧ Ascii p.2) ∧ s.ws.length ≤ 900 ∧
  ∀ H' fp', ChestAt K H' c fp' (wantS s v n) → But fp H H' → New fp fp' H → Q .non H'

noncomputable def sp__law_of_wishes (K : PySem.W.Frag) : Sp := spOf 4 fun vs H Q => ∃ (c lp lw lx : Addr) (xs : List Int) (fp : List Addr) (s : ChSt) (people : List Str) (rows : List WkR) (m : Nat), vs = [.ref c, .ref lp, .ref lw, .ref lx] ∧ L42 K H c lp lw fp s people rows m ∧ m ≤ 800 ∧ H lx = some (.lst (xs.map V.int)) ∧ xs.length = 4 ∧ people ≠ [] ∧ rows ≠ [] ∧
  (∀ (H' : Hp) (fp' : List Addr) (s' : ChSt) (people' : List Str) (rows' : List WkR), L42 K H' c lp lw fp' s' people' rows' (m + 1) → But (fpW lp lw rows ++ fp) H H' → New (fpW lp lw rows ++ fp) (fpW lp lw rows' ++ fp') H → Q .non H')

noncomputable def sp__law_fresh (K : PySem.W.Frag) : Sp := spOf 3 fun vs H Q => ∃ (lk : Addr) (cell x : Int) (known : List Str), vs = [.int cell, .ref lk, .int x] ∧ H lk = some (.lst (known.map V.str)) ∧ known.length < 20 ∧ ∀ (z : Str) H', Same H H' → isNm z = true → z ∉ known → Q (.str z) H'

noncomputable def sp_Chest_leave (K : PySem.W.Frag) : Sp := spOf 2 fun vs H Q => ∃ (c : Addr) (n : Str) (x : Int) (fp : List Addr) (s : ChSt), vs = [.ref c, .str n] ∧ ChestAt K H c fp s ∧ (n, x) ∈ s.ps ∧ s.ws.length ≤ 1000 ∧
  ∀ H' fp', ChestAt K H' c fp' (leaveS s n x) → But fp H H' → New fp fp' H → Q .non H'

noncomputable def sp__law_of_voters (K : PySem.W.Frag) : Sp := spOf 5 fun vs H Q => ∃ (c lp lw lx : Addr) (cell : Int) (xs : List Int) (fp : List Addr) (s : ChSt) (people : List Str) (rows : List WkR) (m : Nat), vs = [.ref c, .ref lp, .ref lw, .ref lx, .int cell] ∧ L42 K H c lp lw fp s people rows m ∧ m ≤ 800 ∧ H lx = some (.lst (xs.map V.int)) ∧ xs.length = 4 ∧
  (∀ (H' : Hp) (fp' : List Addr) (s' : ChSt) (people' : List Str) (rows' : List WkR), L42 K H' c lp lw fp' s' people' rows' (m + 1) → But (fpW lp lw rows ++ fp) H H' → New (fpW lp lw rows ++ fp) (fpW lp lw rows' ++ fp') H → Q .non H')

noncomputable def sp_check_coins (_ : PySem.W.Frag) : Sp := spOf 2 fun vs H Q => ∃ (x y : Int), vs = [.int x, .int y] ∧ y ≤ x ∧ x ≤ 1000000000 ∧ Q .non H

noncomputable def sp_Chest_propose (K : PySem.W.Frag) : Sp := spOf 3 fun vs H Q => ∃ (c : Addr) (n : Str) (x : Int) (fp : List Addr) (s : ChSt), vs = [.ref c, .str n, .int x] ∧ ChestAt K H c fp s ∧ isNm n = true ∧ n ∉ s.cs.map (·.1) ∧ 1 ≤ x ∧ x ≤ 1000000000 ∧ s.cs.length < 12 ∧
  ∀ H' fp', ChestAt K H' c fp' { s with cs := s.cs ++ [(n, x)] } → But fp H H' → New fp fp' H → Q .non H'

noncomputable def withS (s : ChSt) (n : Str) : ChSt := { s with cs := s.cs.filter fun p => decide (p.1 ≠ n), ws := s.ws.filter fun p => !decide (p.2 = n) }
noncomputable def sp_Chest_withdraw (K : PySem.W.Frag) : Sp := spOf 2 fun vs H Q => ∃ (c : Addr) (n : Str) (x : Int) (fp : List Addr) (s : ChSt), vs = [.ref c, .str n] ∧ ChestAt K H c fp s ∧ (n, x) ∈ s.cs ∧ s.ws.length ≤ 1000 ∧
  ∀ H' fp', ChestAt K H' c fp' (withS s n) → But fp H H' → New fp fp' H → Q .non H'

noncomputable def sp__law_cost (_ : PySem.W.Frag) : Sp := spOf 1 fun vs H Q => ∃ (x : Int), vs = [.int x] ∧ ∀ (v : Int) H', Same H H' → 1 ≤ v → v ≤ 1000000000 → Q (.int v) H'

noncomputable def dRw (r : WkR) : PyData := .list [.str r.n, .int r.c, .list (r.zs.map PyData.str)]
noncomputable def sp__law_of_works (K : PySem.W.Frag) : Sp := spOf 4 fun vs H Q => ∃ (c lp lw lx : Addr) (cell : Int) (xs : List Int) (fp : List Addr) (s : ChSt) (people : List Str) (rows : List WkR) (m : Nat), vs = [.ref c, .ref lw, .ref lx, .int cell] ∧ L42 K H c lp lw fp s people rows m ∧ m ≤ 800 ∧ H lx = some (.lst (xs.map V.int)) ∧ xs.length = 4 ∧
  (∀ (H' : Hp) (fp' : List Addr) (s' : ChSt) (people' : List Str) (rows' : List WkR), L42 K H' c lp lw fp' s' people' rows' (m + 1) → But (fpW lp lw rows ++ fp) H H' → New (fpW lp lw rows ++ fp) (fpW lp lw rows' ++ fp') H → Q .non H')

noncomputable def sp__law_deed (K : PySem.W.Frag) : Sp := spOf 5 fun vs H Q => ∃ (c lp lw lx : Addr) (cell : Int) (xs : List Int) (fp : List Addr) (s : ChSt) (people : List Str) (rows : List WkR) (m : Nat), vs = [.ref c, .ref lp, .ref lw, .ref lx, .int cell] ∧ L42 K H c lp lw fp s people rows m ∧ m ≤ 800 ∧ H lx = some (.lst (xs.map V.int)) ∧ xs.length = 4 ∧
  (∀ (H' : Hp) (fp' : List Addr) (s' : ChSt) (people' : List Str) (rows' : List WkR), L42 K H' c lp lw fp' s' people' rows' (m + 1) → But (fpW lp lw rows ++ fp) H H' → New (fpW lp lw rows ++ fp) (fpW lp lw rows' ++ fp') H → Q .non H')

/-! ### the text by places -/
noncomputable def top (i : Nat) : Stmt := PySem.Challenge.pw_purse_k42_wishes_and_proposals.main.body.getD i (.Pass ⟨0, 0, 0, 0⟩)
noncomputable abbrev s__law_nth : Stmt := top 45
theorem sc__law_nth : FnScope ["script", "k", "cell"] ["script", "k"] (defScope s__law_nth) := ⟨rfl, rfl, rfl, by decide +kernel, rfl, by decide +kernel, by decide +kernel⟩
noncomputable abbrev s_Chest___init__ : Stmt := inClass (top 43) 0
theorem sc_Chest___init__ : FnScope ["self"] ["self"] (defScope s_Chest___init__) := ⟨rfl, rfl, rfl, by decide +kernel, rfl, by decide +kernel, by decide +kernel⟩
noncomputable abbrev s__law_due : Stmt := top 55
theorem sc__law_due : FnScope ["people", "works"] ["people", "works"] (defScope s__law_due) := ⟨rfl, rfl, rfl, by decide +kernel, rfl, by decide +kernel, by decide +kernel⟩
noncomputable abbrev s_Chest_wanters : Stmt := inClass (top 43) 7
theorem sc_Chest_wanters : FnScope ["self", "work"] ["self", "work"] (defScope s_Chest_wanters) := ⟨rfl, rfl, rfl, by decide +kernel, rfl, by decide +kernel, by decide +kernel⟩
noncomputable abbrev s_Chest_works : Stmt := inClass (top 43) 2
theorem sc_Chest_works : FnScope ["self"] ["self"] (defScope s_Chest_works) := ⟨rfl, rfl, rfl, by decide +kernel, rfl, by decide +kernel, by decide +kernel⟩
noncomputable abbrev s__law_counts : Stmt := top 47
theorem sc__law_counts : FnScope ["thing"] ["thing"] (defScope s__law_counts) := ⟨rfl, rfl, rfl, by decide +kernel, rfl, by decide +kernel, by decide +kernel⟩
noncomputable abbrev s_Chest_voters : Stmt := inClass (top 43) 1
theorem sc_Chest_voters : FnScope ["self"] ["self"] (defScope s_Chest_voters) := ⟨rfl, rfl, rfl, by decide +kernel, rfl, by decide +kernel, by decide +kernel⟩
noncomputable abbrev s__law_right : Stmt := top 56
theorem sc__law_right : FnScope ["chest", "people", "works", "held", "due", "found", "row"] ["chest", "people", "works", "held"] (defScope s__law_right) := ⟨rfl, rfl, rfl, by decide +kernel, rfl, by decide +kernel, by decide +kernel⟩
noncomputable abbrev s_is_name : Stmt := top 39
theorem sc_is_name : FnScope ["name"] ["name"] (defScope s_is_name) := ⟨rfl, rfl, rfl, by decide +kernel, rfl, by decide +kernel, by decide +kernel⟩
noncomputable abbrev s_check_new_name : Stmt := top 40
theorem sc_check_new_name : FnScope ["name", "names"] ["name", "names"] (defScope s_check_new_name) := ⟨rfl, rfl, rfl, by decide +kernel, rfl, by decide +kernel, by decide +kernel⟩
noncomputable abbrev s_check_place : Stmt := top 42
theorem sc_check_place : FnScope ["names", "most"] ["names", "most"] (defScope s_check_place) := ⟨rfl, rfl, rfl, by decide +kernel, rfl, by decide +kernel, by decide +kernel⟩
noncomputable abbrev s_Chest_enrol : Stmt := inClass (top 43) 11
theorem sc_Chest_enrol : FnScope ["self", "name"] ["self", "name"] (defScope s_Chest_enrol) := ⟨rfl, rfl, rfl, by decide +kernel, rfl, by decide +kernel, by decide +kernel⟩
noncomputable abbrev s__law_spins : Stmt := top 46
theorem sc__law_spins : FnScope ["cell", "many", "spins", "k", "turn"] ["cell", "many"] (defScope s__law_spins) := ⟨rfl, rfl, rfl, by decide +kernel, rfl, by decide +kernel, by decide +kernel⟩
noncomputable abbrev s__law_name : Stmt := top 48
theorem sc__law_name : FnScope ["cell", "k", "letters", "xs", "word", "at"] ["cell", "k"] (defScope s__law_name) := ⟨rfl, rfl, rfl, by decide +kernel, rfl, by decide +kernel, by decide +kernel⟩
noncomputable abbrev s_Chest_check_voter : Stmt := inClass (top 43) 9
theorem sc_Chest_check_voter : FnScope ["self", "voter"] ["self", "voter"] (defScope s_Chest_check_voter) := ⟨rfl, rfl, rfl, by decide +kernel, rfl, by decide +kernel, by decide +kernel⟩
noncomputable abbrev s_Chest_check_work : Stmt := inClass (top 43) 10
theorem sc_Chest_check_work : FnScope ["self", "work"] ["self", "work"] (defScope s_Chest_check_work) := ⟨rfl, rfl, rfl, by decide +kernel, rfl, by decide +kernel, by decide +kernel⟩
noncomputable abbrev s_Chest_unwant : Stmt := inClass (top 43) 18
theorem sc_Chest_unwant : FnScope ["self", "voter", "work"] ["self", "voter", "work"] (defScope s_Chest_unwant) := ⟨rfl, rfl, rfl, by decide +kernel, rfl, by decide +kernel, by decide +kernel⟩
noncomputable abbrev s_Chest_want : Stmt := inClass (top 43) 17
theorem sc_Chest_want : FnScope ["self", "voter", "work"] ["self", "voter", "work"] (defScope s_Chest_want) := ⟨rfl, rfl, rfl, by decide +kernel, rfl, by decide +kernel, by decide +kernel⟩
noncomputable abbrev s__law_of_wishes : Stmt := top 53
theorem sc__law_of_wishes : FnScope ["chest", "people", "works", "xs", "work", "name", "others"] ["chest", "people", "works", "xs"] (defScope s__law_of_wishes) := ⟨rfl, rfl, rfl, by decide +kernel, rfl, by decide +kernel, by decide +kernel⟩
noncomputable abbrev s__law_fresh : Stmt := top 50
theorem sc__law_fresh : FnScope ["cell", "known", "x", "names"] ["cell", "known", "x"] (defScope s__law_fresh) := ⟨rfl, rfl, rfl, by decide +kernel, rfl, by decide +kernel, by decide +kernel⟩
noncomputable abbrev s_Chest_leave : Stmt := inClass (top 43) 12
theorem sc_Chest_leave : FnScope ["self", "name"] ["self", "name"] (defScope s_Chest_leave) := ⟨rfl, rfl, rfl, by decide +kernel, rfl, by decide +kernel, by decide +kernel⟩
noncomputable abbrev s__law_of_voters : Stmt := top 51
theorem sc__law_of_voters : FnScope ["chest", "people", "works", "xs", "cell", "name", "work"] ["chest", "people", "works", "xs", "cell"] (defScope s__law_of_voters) := ⟨rfl, rfl, rfl, by decide +kernel, rfl, by decide +kernel, by decide +kernel⟩
noncomputable abbrev s_check_coins : Stmt := top 41
theorem sc_check_coins : FnScope ["coins", "least"] ["coins", "least"] (defScope s_check_coins) := ⟨rfl, rfl, rfl, by decide +kernel, rfl, by decide +kernel, by decide +kernel⟩
noncomputable abbrev s_Chest_propose : Stmt := inClass (top 43) 15
theorem sc_Chest_propose : FnScope ["self", "work", "cost"] ["self", "work", "cost"] (defScope s_Chest_propose) := ⟨rfl, rfl, rfl, by decide +kernel, rfl, by decide +kernel, by decide +kernel⟩
noncomputable abbrev s_Chest_withdraw : Stmt := inClass (top 43) 16
theorem sc_Chest_withdraw : FnScope ["self", "work"] ["self", "work"] (defScope s_Chest_withdraw) := ⟨rfl, rfl, rfl, by decide +kernel, rfl, by decide +kernel, by decide +kernel⟩
noncomputable abbrev s__law_cost : Stmt := top 49
theorem sc__law_cost : FnScope ["x"] ["x"] (defScope s__law_cost) := ⟨rfl, rfl, rfl, by decide +kernel, rfl, by decide +kernel, by decide +kernel⟩
noncomputable abbrev s__law_of_works : Stmt := top 52
theorem sc__law_of_works : FnScope ["chest", "works", "xs", "cell", "name", "work"] ["chest", "works", "xs", "cell"] (defScope s__law_of_works) := ⟨rfl, rfl, rfl, by decide +kernel, rfl, by decide +kernel, by decide +kernel⟩
noncomputable abbrev s__law_deed : Stmt := top 54
theorem sc__law_deed : FnScope ["chest", "people", "works", "xs", "cell"] ["chest", "people", "works", "xs", "cell"] (defScope s__law_deed) := ⟨rfl, rfl, rfl, by decide +kernel, rfl, by decide +kernel, by decide +kernel⟩
noncomputable abbrev s_law : Stmt := top 57
theorem sc_law : FnScope ["script", "cell", "chest", "people", "works", "held", "k", "one", "xs", "found", "due", "row"] ["script"] (defScope s_law) := ⟨rfl, rfl, rfl, by decide +kernel, rfl, by decide +kernel, by decide +kernel⟩
/-! ### what is told of the classes -/
structure Cls (K : PySem.W.Frag) : Prop where
  o_Chest : L2.Cls K (clsA K "Chest")
  n_Chest_purses : NoAttr K (clsA K "Chest") "purses"
  n_Chest_costs : NoAttr K (clsA K "Chest") "costs"
  n_Chest_wishes : NoAttr K (clsA K "Chest") "wishes"
  n_Chest_unshared : NoAttr K (clsA K "Chest") "unshared"
  n_Chest_gifts : NoAttr K (clsA K "Chest") "gifts"
  n_Chest_outlay : NoAttr K (clsA K "Chest") "outlay"
/-! ### the readings -/
noncomputable def rd__law_nth (K : PySem.W.Frag) : TS :=
  (tSeq (tFor (iList K (tSl (rSlL K) (tVar 0) (tPart (tVar 1)) (tPart (tOp oAdd (tVar 1) (tC (.int 1)))))) (gName 2) (tRet (tVar 2)))
    (tRet (tC (.int 0))))
noncomputable def rd_Chest___init__ (K : PySem.W.Frag) : TS :=
  (tSeq (sFld K (tVar 0) tDNewK "purses")
    (tSeq (sFld K (tVar 0) tDNewK "costs")
    (tSeq (sFld K (tVar 0) (tLst tNil) "wishes")
    (tSeq (sFld K (tVar 0) (tC (.int 0)) "unshared")
    (tSeq (sFld K (tVar 0) (tC (.int 0)) "gifts")
    (sFld K (tVar 0) (tC (.int 0)) "outlay"))))))
noncomputable def rd__law_due (K : PySem.W.Frag) : TS :=
  (tRet (tComp [none, some 0] (iList K (tVar 1)) (gName 0) tYes (tTup (tCons (tOp (rIxL K) (tVar 0) (tC (.int 0))) (tCons (tOp (rIxL K) (tVar 0) (tC (.int 1))) (tCons (tComp [none, some 0] (iList K (tVar 1)) (gName 0) (tTest (tOp (rIn K false) (tVar 0) (tOp (rIxL K) (tVar 1) (tC (.int 2))))) (tVar 0)) tNil))))))
noncomputable def rd_Chest_wanters (K : PySem.W.Frag) : TS :=
  (tRet (tThaw (tComp [none, some 1, some 0] (iKeys (tFld K (tVar 0) "purses")) (gName 0) (tTest (tOp (rInD K false) (tTup (tCons (tVar 0) (tCons (tVar 1) tNil))) (tFld K (tVar 2) "wishes"))) (tVar 0))))
noncomputable def rd_Chest_works (K : PySem.W.Frag) : TS :=
  (tRet (tThaw (tComp [none, none, some 0] (iItems (tFld K (tVar 0) "costs")) (gTup K 2 (gCons (gName 0) (gCons (gName 1) gNil))) tYes (tTup (tCons (tVar 0) (tCons (tVar 1) (tCons (tMeth (clsA K "Chest") "wanters" (sp_Chest_wanters K) [] E0 (tVar 2) (tCons (tVar 0) tNil)) tNil)))))))
noncomputable def rd__law_counts (K : PySem.W.Frag) : TS :=
  (tRet (tAndV (tNotV (tCB (rIsi K) (tCons (tVar 0) (tCons (tC (.ty "bool")) tNil)))) (tCB (rIsi K) (tCons (tVar 0) (tCons (tC (.ty "int")) tNil)))))
noncomputable def rd_Chest_voters (K : PySem.W.Frag) : TS :=
  (tRet (tCB rListV (tCons (tBM0 K "dict" rItems (tFld K (tVar 0) "purses")) tNil)))
noncomputable def rd__law_right (K : PySem.W.Frag) : TS :=
  (tSeq (tAsg (tCall (sp__law_due K) [] E0 (tCons (tVar 1) (tCons (tVar 2) tNil))) (gName 4))
    (tSeq (tAsg (tMeth (clsA K "Chest") "works" (sp_Chest_works K) [] E0 (tVar 0) tNil) (gName 5))
    (tSeq (tIfS (tOr (tNot (tB (tCB (rIsi K) (tCons (tVar 5) (tCons (tC (.ty "list")) tNil))))) (tTest (tOp (rEqD K true) (tVar 5) (tVar 4)))) (tRet (tC (.bl false))) tNext)
    (tSeq (tFor (iList K (tVar 5)) (gName 6) (tIfS (tOr (tNot (tB (tCB (rIsi K) (tCons (tVar 6) (tCons (tC (.ty "tuple")) tNil))))) (tOr (tNot (tB (tCall (sp__law_counts K) [] E0 (tCons (tOp (rIxT K) (tVar 6) (tC (.int 1))) tNil)))) (tNot (tB (tCB (rIsi K) (tCons (tOp (rIxT K) (tVar 6) (tC (.int 2))) (tCons (tC (.ty "list")) tNil))))))) (tRet (tC (.bl false))) tNext))
    (tSeq (tDrop (tBM K "list" rAppend (tVar 3) (tCons (tTup (tCons (tVar 5) (tCons (tVar 4) tNil))) tNil)))
    (tRet (tOp (rEqD K false) (tComp [none, none] (iList K (tMeth (clsA K "Chest") "voters" (sp_Chest_voters K) [] E0 (tVar 0) tNil)) (gTup K 2 (gCons (gName 0) (gCons (gName 1) gNil))) tYes (tVar 0)) (tVar 1))))))))
noncomputable def rd_is_name (K : PySem.W.Frag) : TS :=
  (tRet (tAndV (tChain oLe oLe (tC (.int 1)) (tCB rLenT (tCons (tVar 0) tNil)) (tC (.int 8))) (tCB (rAll K) (tCons (tComp [none] (iText (tVar 0)) (gName 0) tYes (tOp rInS (tVar 0) (tC (.str "abcdefghijklmnopqrstuvwxyz")))) tNil))))
noncomputable def rd_check_new_name (K : PySem.W.Frag) : TS :=
  (tSeq (tIfS (tNot (tB (tCall (sp_is_name K) [] E0 (tCons (tVar 0) tNil)))) tDead tNext)
    (tIfS (tB (tDIn (tVar 0) (tVar 1))) tDead tNext))
noncomputable def rd_check_place (K : PySem.W.Frag) : TS :=
  (tIfS (tTest (tOp oGe (tCB rLenD (tCons (tVar 0) tNil)) (tVar 1))) tDead tNext)
noncomputable def rd_Chest_enrol (K : PySem.W.Frag) : TS :=
  (tSeq (tDrop (tCall (sp_check_new_name K) [] E0 (tCons (tVar 1) (tCons (tFld K (tVar 0) "purses") tNil))))
    (tSeq (tDrop (tCall (sp_check_place K) [] E0 (tCons (tFld K (tVar 0) "purses") (tCons (tC (.int 20)) tNil))))
    (sDPut (tFld K (tVar 0) "purses") (tVar 1) (tC (.int 0)))))
noncomputable def rd__law_spins (K : PySem.W.Frag) : TS :=
  (tSeq (tAsg (tLst tNil) (gName 2))
    (tSeq (tFor (iRng1 (tCons (tVar 1) tNil)) (gName 3) (tSeq (tAsg (tOp oAdd (tOp oAdd (tOp oMod (tVar 0) (tC (.int 900900929))) (tOp oMul (tC (.int 2503)) (tVar 3))) (tC (.int 77))) (gName 4))
    (tDrop (tBM K "list" rAppend (tVar 2) (tCons (tOp oMod (tOp oDiv (tOp oMul (tOp oMul (tVar 4) (tVar 4)) (tOp oAdd (tVar 4) (tOp oMul (tC (.int 31)) (tVar 3)))) (tC (.int 13))) (tC (.int 700700003))) tNil)))))
    (tRet (tVar 2))))
noncomputable def rd__law_name (K : PySem.W.Frag) : TS :=
  (tSeq (tAsg (tC (.str "abcdefghijklmnopqrstuvwxyz")) (gName 2))
    (tSeq (tAsg (tCall (sp__law_spins K) [] E0 (tCons (tVar 0) (tCons (tC (.int 9)) tNil))) (gName 3))
    (tSeq (tAsg (tBM K "str" (rJoin K) (tC (.str "")) (tCons (tComp [none, some 2] (iList K (tSl (rSlL K) (tVar 3) tNoPart (tPart (tC (.int 7))))) (gName 0) tYes (tOp rIxS (tVar 1) (tOp oMod (tVar 0) (tC (.int 26))))) tNil)) (gName 4))
    (tSeq (tIfS (tTest (tOp rEq (tOp oMod (tOp (rIxL K) (tVar 3) (tC (.int 8))) (tC (.int 4))) (tC (.int 0)))) (tRet (tOp rAddS (tOp rIxS (tVar 2) (tOp oMod (tOp oAdd (tOp (rIxL K) (tVar 3) (tC (.int 7))) (tOp oDiv (tVar 1) (tC (.int 8)))) (tC (.int 26)))) (tSl rSlS (tVar 4) tNoPart (tPart (tOp oMod (tVar 1) (tC (.int 8))))))) tNext)
    (tSeq (tIfS (tTest (tOp rEq (tOp oMod (tOp (rIxL K) (tVar 3) (tC (.int 8))) (tC (.int 4))) (tC (.int 1)))) (tRet (tOp rAddS (tSl rSlS (tVar 4) (tPart (tOp oSub (tC (.int 7)) (tOp oMod (tVar 1) (tC (.int 8))))) tNoPart) (tOp rIxS (tVar 2) (tOp oMod (tOp oAdd (tOp (rIxL K) (tVar 3) (tC (.int 7))) (tOp oDiv (tVar 1) (tC (.int 8)))) (tC (.int 26)))))) tNext)
    (tSeq (tAsg (tSl rSlS (tVar 4) tNoPart (tPart (tOp oMod (tOp oDiv (tOp (rIxL K) (tVar 3) (tC (.int 8))) (tC (.int 4))) (tC (.int 8))))) (gName 4))
    (tSeq (tAsg (tOp oMod (tOp oDiv (tOp (rIxL K) (tVar 3) (tC (.int 8))) (tC (.int 32))) (tOp oAdd (tCB rLenT (tCons (tVar 4) tNil)) (tC (.int 1)))) (gName 5))
    (tRet (tOp rAddS (tOp rAddS (tSl rSlS (tVar 4) tNoPart (tPart (tVar 5))) (tOp rIxS (tVar 2) (tOp oMod (tOp oAdd (tOp (rIxL K) (tVar 3) (tC (.int 7))) (tVar 1)) (tC (.int 26))))) (tSl rSlS (tVar 4) (tPart (tVar 5)) tNoPart))))))))))
noncomputable def rd_Chest_check_voter (K : PySem.W.Frag) : TS :=
  (tIfS (tB (tDNotIn (tVar 1) (tFld K (tVar 0) "purses"))) tDead tNext)
noncomputable def rd_Chest_check_work (K : PySem.W.Frag) : TS :=
  (tIfS (tB (tDNotIn (tVar 1) (tFld K (tVar 0) "costs"))) tDead tNext)
noncomputable def rd_Chest_unwant (K : PySem.W.Frag) : TS :=
  (tSeq (tDrop (tMeth (clsA K "Chest") "check_voter" (sp_Chest_check_voter K) [] E0 (tVar 0) (tCons (tVar 1) tNil)))
    (tSeq (tDrop (tMeth (clsA K "Chest") "check_work" (sp_Chest_check_work K) [] E0 (tVar 0) (tCons (tVar 2) tNil)))
    (sFld K (tVar 0) (tComp [none, some 1, some 2] (iList K (tFld K (tVar 0) "wishes")) (gName 0) (tTest (tOp (rEqD K true) (tVar 0) (tTup (tCons (tVar 1) (tCons (tVar 2) tNil))))) (tVar 0)) "wishes")))
noncomputable def rd_Chest_want (K : PySem.W.Frag) : TS :=
  (tSeq (tDrop (tMeth (clsA K "Chest") "check_voter" (sp_Chest_check_voter K) [] E0 (tVar 0) (tCons (tVar 1) tNil)))
    (tSeq (tDrop (tMeth (clsA K "Chest") "check_work" (sp_Chest_check_work K) [] E0 (tVar 0) (tCons (tVar 2) tNil)))
    (tIfS (tTest (tOp (rInD K true) (tTup (tCons (tVar 1) (tCons (tVar 2) tNil))) (tFld K (tVar 0) "wishes"))) (tDrop (tBM K "list" rAppend (tFld K (tVar 0) "wishes") (tCons (tTup (tCons (tVar 1) (tCons (tVar 2) tNil))) tNil))) tNext)))
noncomputable def rd__law_of_wishes (K : PySem.W.Frag) : TS :=
  (tSeq (tAsg (tOp (rIxL K) (tVar 2) (tOp oMod (tOp (rIxL K) (tVar 3) (tC (.int 1))) (tCB (rLenL K) (tCons (tVar 2) tNil)))) (gName 4))
    (tSeq (tAsg (tOp (rIxL K) (tVar 1) (tOp oMod (tOp (rIxL K) (tVar 3) (tC (.int 2))) (tCB (rLenL K) (tCons (tVar 1) tNil)))) (gName 5))
    (tSeq (tIfS (tAnd (tTest (tOp rEq (tOp oMod (tOp (rIxL K) (tVar 3) (tC (.int 3))) (tC (.int 3))) (tC (.int 0)))) (tTest (tOp (rEqD K true) (tOp (rIxL K) (tVar 4) (tC (.int 2))) (tLst tNil)))) (tAsg (tOp (rIxL K) (tOp (rIxL K) (tVar 4) (tC (.int 2))) (tOp oMod (tOp (rIxL K) (tVar 3) (tC (.int 2))) (tCB (rLenL K) (tCons (tOp (rIxL K) (tVar 4) (tC (.int 2))) tNil)))) (gName 5)) tNext)
    (tSeq (tAsg (tComp [none, some 4] (iList K (tVar 1)) (gName 0) (tTest (tOp (rIn K true) (tVar 0) (tOp (rIxL K) (tVar 1) (tC (.int 2))))) (tVar 0)) (gName 6))
    (tSeq (tIfS (tAnd (tTest (tOp rEq (tOp oMod (tOp (rIxL K) (tVar 3) (tC (.int 3))) (tC (.int 3))) (tC (.int 1)))) (tTest (tOp (rEqD K true) (tVar 6) (tLst tNil)))) (tAsg (tOp (rIxL K) (tVar 6) (tOp oMod (tOp (rIxL K) (tVar 3) (tC (.int 2))) (tCB (rLenL K) (tCons (tVar 6) tNil)))) (gName 5)) tNext)
    (tSeq (tIfS (tTest (tOp oLt (tOp oMod (tOp (rIxL K) (tVar 3) (tC (.int 0))) (tC (.int 7))) (tC (.int 6)))) (tSeq (tIfS (tTest (tOp (rIn K true) (tVar 5) (tOp (rIxL K) (tVar 4) (tC (.int 2))))) (tDrop (tBM K "list" rAppend (tOp (rIxL K) (tVar 4) (tC (.int 2))) (tCons (tVar 5) tNil))) tNext)
    (tRet (tMeth (clsA K "Chest") "want" (sp_Chest_want K) [] E0 (tVar 0) (tCons (tVar 5) (tCons (tOp (rIxL K) (tVar 4) (tC (.int 0))) tNil))))) tNext)
    (tSeq (tIfS (tTest (tOp (rIn K false) (tVar 5) (tOp (rIxL K) (tVar 4) (tC (.int 2))))) (tDrop (tBM K "list" (rRemove K) (tOp (rIxL K) (tVar 4) (tC (.int 2))) (tCons (tVar 5) tNil))) tNext)
    (tRet (tMeth (clsA K "Chest") "unwant" (sp_Chest_unwant K) [] E0 (tVar 0) (tCons (tVar 5) (tCons (tOp (rIxL K) (tVar 4) (tC (.int 0))) tNil)))))))))))
noncomputable def rd__law_fresh (K : PySem.W.Frag) : TS :=
  (tSeq (tAsg (tComp [none, some 1] (iList K (tComp [none, some 0] (iRng1 (tCons (tC (.int 21)) tNil)) (gName 0) tYes (tCall (sp__law_name K) [] E0 (tCons (tVar 1) (tCons (tVar 0) tNil))))) (gName 0) (tTest (tOp (rIn K true) (tVar 0) (tVar 1))) (tVar 0)) (gName 3))
    (tRet (tOp (rIxL K) (tVar 3) (tOp oMod (tVar 2) (tCB (rLenL K) (tCons (tVar 3) tNil))))))
noncomputable def rd_Chest_leave (K : PySem.W.Frag) : TS :=
  (tSeq (tDrop (tMeth (clsA K "Chest") "check_voter" (sp_Chest_check_voter K) [] E0 (tVar 0) (tCons (tVar 1) tNil)))
    (tSeq (sFldAug K (tVar 0) (tDPop1 (tFld K (tVar 0) "purses") (tVar 1)) rAdd "unshared")
    (sFld K (tVar 0) (tComp [none, none, some 1] (iList K (tFld K (tVar 0) "wishes")) (gTup K 2 (gCons (gName 0) (gCons (gName 1) gNil))) (tTest (tOp rNe (tVar 0) (tVar 2))) (tTup (tCons (tVar 0) (tCons (tVar 1) tNil)))) "wishes")))
noncomputable def rd__law_of_voters (K : PySem.W.Frag) : TS :=
  (tSeq (tIfS (tAnd (tTest (tOp rEq (tOp oMod (tOp (rIxL K) (tVar 3) (tC (.int 0))) (tC (.int 2))) (tC (.int 0)))) (tTest (tOp oLt (tCB (rLenL K) (tCons (tVar 1) tNil)) (tC (.int 20))))) (tSeq (tAsg (tCall (sp__law_fresh K) [] E0 (tCons (tVar 4) (tCons (tVar 1) (tCons (tOp (rIxL K) (tVar 3) (tC (.int 1))) tNil)))) (gName 5))
    (tSeq (tDrop (tBM K "list" rAppend (tVar 1) (tCons (tVar 5) tNil)))
    (tRet (tMeth (clsA K "Chest") "enrol" (sp_Chest_enrol K) [] E0 (tVar 0) (tCons (tVar 5) tNil))))) tNext)
    (tSeq (tIfS (tTest (tOp (rEqD K true) (tVar 1) (tLst tNil))) (tSeq (tAsg (tOp (rIxL K) (tVar 1) (tOp oMod (tOp (rIxL K) (tVar 3) (tC (.int 1))) (tCB (rLenL K) (tCons (tVar 1) tNil)))) (gName 5))
    (tSeq (tDrop (tBM K "list" (rRemove K) (tVar 1) (tCons (tVar 5) tNil)))
    (tSeq (tFor (iList K (tVar 2)) (gName 6) (tIfS (tTest (tOp (rIn K false) (tVar 5) (tOp (rIxL K) (tVar 6) (tC (.int 2))))) (tDrop (tBM K "list" (rRemove K) (tOp (rIxL K) (tVar 6) (tC (.int 2))) (tCons (tVar 5) tNil))) tNext))
    (tRet (tMeth (clsA K "Chest") "leave" (sp_Chest_leave K) [] E0 (tVar 0) (tCons (tVar 5) tNil)))))) tNext)
    (tRet (tC .non))))
noncomputable def rd_check_coins (K : PySem.W.Frag) : TS :=
  (tIfS (tOr (tTest (tOp oLt (tVar 0) (tVar 1))) (tTest (tOp oGt (tVar 0) (tC (.int 1000000000))))) tDead tNext)
noncomputable def rd_Chest_propose (K : PySem.W.Frag) : TS :=
  (tSeq (tDrop (tCall (sp_check_new_name K) [] E0 (tCons (tVar 1) (tCons (tFld K (tVar 0) "costs") tNil))))
    (tSeq (tDrop (tCall (sp_check_coins K) [] E0 (tCons (tVar 2) (tCons (tC (.int 1)) tNil))))
    (tSeq (tDrop (tCall (sp_check_place K) [] E0 (tCons (tFld K (tVar 0) "costs") (tCons (tC (.int 12)) tNil))))
    (sDPut (tFld K (tVar 0) "costs") (tVar 1) (tVar 2)))))
noncomputable def rd_Chest_withdraw (K : PySem.W.Frag) : TS :=
  (tSeq (tDrop (tMeth (clsA K "Chest") "check_work" (sp_Chest_check_work K) [] E0 (tVar 0) (tCons (tVar 1) tNil)))
    (tSeq (tDrop (tDPop1 (tFld K (tVar 0) "costs") (tVar 1)))
    (sFld K (tVar 0) (tComp [none, none, some 1] (iList K (tFld K (tVar 0) "wishes")) (gTup K 2 (gCons (gName 0) (gCons (gName 1) gNil))) (tTest (tOp rNe (tVar 1) (tVar 2))) (tTup (tCons (tVar 0) (tCons (tVar 1) tNil)))) "wishes")))
noncomputable def rd__law_cost (K : PySem.W.Frag) : TS :=
  (tSeq (tIfS (tTest (tOp rEq (tOp oMod (tVar 0) (tC (.int 4))) (tC (.int 0)))) (tRet (tOp (rIxL K) (tLst (tCons (tC (.int 1)) (tCons (tC (.int 2)) (tCons (tOp oPow (tC (.int 10)) (tC (.int 9))) (tCons (tOp oSub (tOp oPow (tC (.int 10)) (tC (.int 9))) (tC (.int 1))) tNil))))) (tOp oMod (tOp oDiv (tVar 0) (tC (.int 4))) (tC (.int 4))))) tNext)
    (tSeq (tIfS (tTest (tOp rEq (tOp oMod (tVar 0) (tC (.int 4))) (tC (.int 1)))) (tRet (tOp oAdd (tC (.int 1)) (tOp oMod (tOp oDiv (tVar 0) (tC (.int 4))) (tC (.int 30))))) tNext)
    (tRet (tOp oAdd (tC (.int 1)) (tOp oMod (tOp oMul (tVar 0) (tC (.int 41))) (tOp oPow (tC (.int 10)) (tC (.int 9))))))))
noncomputable def rd__law_of_works (K : PySem.W.Frag) : TS :=
  (tSeq (tIfS (tAnd (tTest (tOp oGt (tOp oMod (tOp oDiv (tOp (rIxL K) (tVar 2) (tC (.int 0))) (tC (.int 7))) (tC (.int 3))) (tC (.int 0)))) (tTest (tOp oLt (tCB (rLenL K) (tCons (tVar 1) tNil)) (tC (.int 12))))) (tSeq (tAsg (tCall (sp__law_fresh K) [] E0 (tCons (tVar 3) (tCons (tComp [none] (iList K (tVar 1)) (gName 0) tYes (tOp (rIxL K) (tVar 0) (tC (.int 0)))) (tCons (tOp (rIxL K) (tVar 2) (tC (.int 1))) tNil)))) (gName 4))
    (tSeq (tDrop (tBM K "list" rAppend (tVar 1) (tCons (tLst (tCons (tVar 4) (tCons (tCall (sp__law_cost K) [] E0 (tCons (tOp (rIxL K) (tVar 2) (tC (.int 2))) tNil)) (tCons (tLst tNil) tNil)))) tNil)))
    (tRet (tMeth (clsA K "Chest") "propose" (sp_Chest_propose K) [] E0 (tVar 0) (tCons (tVar 4) (tCons (tOp (rIxL K) (tOp (rIxL K) (tVar 1) (tUn (rU fun i => .int (-i)) (tC (.int 1)))) (tC (.int 1))) tNil)))))) tNext)
    (tSeq (tIfS (tTest (tOp (rEqD K true) (tVar 1) (tLst tNil))) (tSeq (tAsg (tOp (rIxL K) (tVar 1) (tOp oMod (tOp (rIxL K) (tVar 2) (tC (.int 1))) (tCB (rLenL K) (tCons (tVar 1) tNil)))) (gName 5))
    (tSeq (tDrop (tBM K "list" (rRemove K) (tVar 1) (tCons (tVar 5) tNil)))
    (tRet (tMeth (clsA K "Chest") "withdraw" (sp_Chest_withdraw K) [] E0 (tVar 0) (tCons (tOp (rIxL K) (tVar 5) (tC (.int 0))) tNil))))) tNext)
    (tRet (tC .non))))
noncomputable def rd__law_deed (K : PySem.W.Frag) : TS :=
  (tSeq (tIfS (tTest (tOp rEq (tOp oMod (tOp (rIxL K) (tVar 3) (tC (.int 0))) (tC (.int 7))) (tC (.int 0)))) (tRet (tCall (sp__law_of_voters K) [] E0 (tCons (tVar 0) (tCons (tVar 1) (tCons (tVar 2) (tCons (tOp rCat (tLst (tCons (tOp oDiv (tOp (rIxL K) (tVar 3) (tC (.int 0))) (tC (.int 7))) tNil)) (tSl (rSlL K) (tVar 3) (tPart (tC (.int 1))) tNoPart)) (tCons (tVar 4) tNil))))))) tNext)
    (tSeq (tIfS (tOr (tTest (tOp oLt (tOp oMod (tOp (rIxL K) (tVar 3) (tC (.int 0))) (tC (.int 7))) (tC (.int 3)))) (tOr (tTest (tOp (rEqD K false) (tVar 1) (tLst tNil))) (tTest (tOp (rEqD K false) (tVar 2) (tLst tNil))))) (tRet (tCall (sp__law_of_works K) [] E0 (tCons (tVar 0) (tCons (tVar 2) (tCons (tVar 3) (tCons (tVar 4) tNil)))))) tNext)
    (tRet (tCall (sp__law_of_wishes K) [] E0 (tCons (tVar 0) (tCons (tVar 1) (tCons (tVar 2) (tCons (tVar 3) tNil))))))))
noncomputable def rd_law (K : PySem.W.Frag) : TS :=
  (tSeq (tAsg (tCall (sp__law_nth K) [] E0 (tCons (tVar 0) (tCons (tC (.int 1)) tNil))) (gName 1))
    (tSeq (tAsg (tMake (clsA K "Chest") (sp_Chest___init__ K) [] E0 tNil) (gName 2))
    (tSeq (tAsg (tLst tNil) (gName 3))
    (tSeq (tAsg (tLst tNil) (gName 4))
    (tSeq (tAsg (tLst tNil) (gName 5))
    (tSeq (tFor (iRng1 (tCons (tOp oMod (tCall (sp__law_nth K) [] E0 (tCons (tVar 0) (tCons (tC (.int 0)) tNil))) (tC (.int 21))) tNil)) (gName 6) (tSeq (tDrop (tBM K "list" rAppend (tVar 3) (tCons (tCall (sp__law_name K) [] E0 (tCons (tVar 1) (tCons (tVar 6) tNil))) tNil)))
    (tDrop (tMeth (clsA K "Chest") "enrol" (sp_Chest_enrol K) [] E0 (tVar 2) (tCons (tOp (rIxL K) (tVar 3) (tUn (rU fun i => .int (-i)) (tC (.int 1)))) tNil)))))
    (tSeq (tFor (iList K (tSl (rSlL K) (tVar 0) (tPart (tC (.int 2))) (tPart (tC (.int 62))))) (gName 7) (tSeq (tAsg (tCall (sp__law_spins K) [] E0 (tCons (tVar 7) (tCons (tC (.int 4)) tNil))) (gName 8))
    (tSeq (tIfS (tTest (tOp oNotN (tCall (sp__law_deed K) [] E0 (tCons (tVar 2) (tCons (tVar 3) (tCons (tVar 4) (tCons (tVar 8) (tCons (tVar 1) tNil)))))) (tC .non))) (tRet (tC (.bl false))) tNext)
    (tIfS (tNot (tB (tCall (sp__law_right K) [] E0 (tCons (tVar 2) (tCons (tVar 3) (tCons (tVar 4) (tCons (tVar 5) tNil))))))) (tRet (tC (.bl false))) tNext))))
    (tSeq (tFor (iList K (tVar 5)) (gTup K 2 (gCons (gName 9) (gCons (gName 10) gNil))) (tIfS (tTest (tOp (rEqD K true) (tVar 9) (tVar 10))) (tRet (tC (.bl false))) tNext))
    (tSeq (tFor (iList K (tVar 5)) (gTup K 2 (gCons (gName 9) (gCons (gName 10) gNil))) (tSeq (tFor (iList K (tVar 9)) (gName 11) (tDrop (tBM K "list" rExtend (tOp (rIxT K) (tVar 11) (tC (.int 2))) (tCons (tVar 3) tNil))))
    (tDrop (tBM0 K "list" rClear (tVar 9)))))
    (tRet (tCall (sp__law_right K) [] E0 (tCons (tVar 2) (tCons (tVar 3) (tCons (tVar 4) (tCons (tLst tNil) tNil)))))))))))))))

section
variable {K : PySem.W.Frag}

theorem rk__law_nth : ∀ vs H Q E, sp__law_nth K vs H Q E → rd__law_nth K { nx := fun _ H' => Q .non H', rt := Q } (start ["script", "k", "cell"] vs) H := by
  rintro vs H Q E ⟨_, a, ns, k, rfl, hS, q⟩
  unfold rd__law_nth
  with_reducible refine r_seq ?_
  walk_at "s1"
  rename_i p H1 f1 s1 h1
  obtain ⟨ms, e, _, _⟩ := cut_ints ns (some (k : Int)) (some ((k : Int) + 1))
  rw [e] at h1
  refine for_ys (ys_list (K := K) (xs := ms.map V.int) 2) (fun i σ H' => Same H1 H' ∧ ∃ v, σ = [some (.ref a), some (.int k), v]) ⟨Same.refl _, _, rfl⟩ (fun i σ H' h => h.1.seq (SqL.of h1)) ?_ ?_
  · rintro i σ Ha Hb hi ⟨sa, v, rfl⟩ sb
    rw [List.length_map] at hi
    have et : (ms.map V.int).getD i .non = .int (ms.getD i 0) := by simp [List.getD, hi]
    rw [et]
    show tRet _ _ _ _
    walk_at "s1"
    exact q _ Hb ((s1.trans sa).trans sb)
  · rintro σ Ha ⟨sa, v, rfl⟩
    walk_at "s1"
    exact q 0 Ha (s1.trans sa)

theorem rk_Chest___init__ (C : Cls K) : ∀ vs H Q E, sp_Chest___init__ K vs H Q E → rd_Chest___init__ K { nx := fun _ H' => Q .non H', rt := Q } (start ["self"] vs) H := by
  rintro vs H Q E ⟨_, c, dx, rfl, hc, q⟩
  unfold rd_Chest___init__
  with_reducible refine r_seq ?_
  walk_at "s1"
  refine r_dnew fun d1 H1 f1 s1 h1 => ?_
  walk_at "s1"
  have l0 : ([] : List (Str × V)).length ≤ 0 := Nat.le_refl _
  have l1 : (putF "purses" (.ref d1) []).length ≤ 1 := putF_len _ _ _
  refine k_sto (s1 _ _ hc) C.o_Chest C.n_Chest_purses (by decide) ?_
  have n1 : d1 ≠ c := (ne_of_free hc f1).symm
  have b1 : But [c] H1 (upd H1 c (.ins (clsA K "Chest") dx (putF "purses" (.ref d1) []))) := But.upd (s1 _ _ hc) (by intro xs z; cases z) (by simp)
  with_reducible refine r_seq ?_
  walk_at "s1"
  refine r_dnew fun d2 H2 f2 s2 h2 => ?_
  walk_at "s1"
  have l2 : (putF "costs" (.ref d2) (putF "purses" (.ref d1) [])).length ≤ 2 := Nat.le_trans (putF_len _ _ _) (by omega)
  refine k_sto (s2 _ _ upd_same) C.o_Chest C.n_Chest_costs (by omega) ?_
  have n2 : d2 ≠ c := (ne_of_free upd_same f2).symm
  have n12 : d1 ≠ d2 := ne_of_free (b1.1 d1 _ (by simpa using n1) h1) f2
  have b2 : But [c] H2 (upd H2 c (.ins (clsA K "Chest") dx (putF "costs" (.ref d2) (putF "purses" (.ref d1) [])))) := But.upd (s2 _ _ upd_same) (by intro xs z; cases z) (by simp)
  with_reducible refine r_seq ?_
  walk_at "s1"
  rename_i w H3 f3 s3 h3
  have l3 : (putF "wishes" (.ref w) (putF "costs" (.ref d2) (putF "purses" (.ref d1) []))).length ≤ 3 := Nat.le_trans (putF_len _ _ _) (by omega)
  refine k_sto (s3 _ _ upd_same) C.o_Chest C.n_Chest_wishes (by omega) ?_
  have n3 : w ≠ c := (ne_of_free upd_same f3).symm
  have b3 : But [c] H3 (upd H3 c (.ins (clsA K "Chest") dx (putF "wishes" (.ref w) (putF "costs" (.ref d2) (putF "purses" (.ref d1) []))))) := But.upd (s3 _ _ upd_same) (by intro xs z; cases z) (by simp)
  with_reducible refine r_seq ?_
  walk_at "s1"
  have l4 : (putF "unshared" (.int 0) (putF "wishes" (.ref w) (putF "costs" (.ref d2) (putF "purses" (.ref d1) [])))).length ≤ 4 := Nat.le_trans (putF_len _ _ _) (by omega)
  refine k_sto upd_same C.o_Chest C.n_Chest_unshared (by omega) ?_
  with_reducible refine r_seq ?_
  walk_at "s1"
  have l5 : (putF "gifts" (.int 0) (putF "unshared" (.int 0) (putF "wishes" (.ref w) (putF "costs" (.ref d2) (putF "purses" (.ref d1) []))))).length ≤ 5 := Nat.le_trans (putF_len _ _ _) (by omega)
  refine k_sto upd_same C.o_Chest C.n_Chest_gifts (by omega) ?_
  walk_at "s1"
  refine k_sto upd_same C.o_Chest C.n_Chest_outlay (by omega) ?_
  rw [pf_init]
  have hI : ∀ (G : Hp) (o : List (Str × V)) (fs : List (Str × V)), G c = some (.ins (clsA K "Chest") dx o) → But [c] G (upd G c (.ins (clsA K "Chest") dx fs)) := fun G o fs h => But.upd h (by intro xs z; cases z) (by simp)
  have key : ∀ Hf : Hp, But [c] H3 Hf → Hf c = some (.ins (clsA K "Chest") dx (chF d1 d2 w 0 0 0)) → Q .non Hf := fun Hf b4 hf => by
    have b5 := (b2.trans (But.of s3)).trans b4
    have b6 := (b1.trans (But.of s2)).trans b5
    refine q _ [c, d1, d2, w] ⟨dx, d1, d2, w, [], ⟨hf, b6.1 d1 _ (by simpa using n1) h1, b5.1 d2 _ (by simpa using n2) h2, b4.1 w _ (by simpa using n3) h3, .nil, n12, List.nodup_nil, List.nodup_nil⟩, rfl⟩ ((But.of s1).trans b6) ?_
    intro a ha
    have g2 : H1 d2 = none := b1.2.2 _ f2
    have g3 : H1 w = none := ((b1.trans (But.of s2)).trans b2).2.2 _ f3
    simp only [List.mem_cons, List.not_mem_nil, or_false] at ha
    rcases ha with rfl | rfl | rfl | rfl
    · exact .inl (by simp)
    · exact .inr f1
    · exact .inr (s1.free g2)
    · exact .inr (s1.free g3)
  refine key _ ?_ upd_same
  exact ((b3.trans (hI _ _ _ upd_same)).trans (hI _ _ _ upd_same)).trans (hI _ _ _ upd_same)

theorem rk__law_due : ∀ vs H Q E, sp__law_due K vs H Q E → rd__law_due K { nx := fun _ H' => Q .non H', rt := Q } (start ["people", "works"] vs) H := by
  rintro vs H Q E ⟨_, lp, lw, people, rows, rfl, hp, hw, hr, hl, hlr, q⟩
  have hle : (rows.map fun r => V.ref r.b).length = rows.length := by simp
  have q0 : SqL K H lw (rows.map fun r => V.ref r.b) := SqL.of hw
  have R0 : WkR := ⟨0, 0, "", 0, []⟩
  unfold rd__law_due
  walk_at "s1"
  refine comp_genY (ys_list (K := K) (a := lw) (xs := rows.map fun r => V.ref r.b) 0) (fun i => [some ((rows.map fun r => V.ref r.b).getD i .non), some (.ref lp)]) (by rintro j σ' (rfl | ⟨k, rfl⟩) <;> rfl) (fun H' s' => s'.seq q0) (by rw [hle]; exact Nat.le_trans (show _ ≤ 1000 by omega) line64) (fun _ => true)
    (fun l i v H' => ∃ t w', v = V.ref t ∧ ((w' ≠ l ∧ H w' = none) ∧ t ≠ l) ∧ H' t = some (.tup [.str (toldR people (rows.getD i ⟨0, 0, "", 0, []⟩)).1, .int (toldR people (rows.getD i ⟨0, 0, "", 0, []⟩)).2.1, .ref w']) ∧ H' w' = some (.lst ((toldR people (rows.getD i ⟨0, 0, "", 0, []⟩)).2.2.map V.str)))
    (fun l i v H1 H2 sx ⟨t, w', e, ⟨hw, ht⟩, h1, h2⟩ => ⟨t, w', e, ⟨hw, ht⟩, sx t _ ht h1, sx w' _ hw.1 h2⟩) (fun i hi H' G s k => k H' (Same.refl _)) ?_ ?_
  · intro l i hi _ H' G h0 ⟨o, ho⟩ s' kk
    rw [hle] at hi
    have et : (rows.map fun r => V.ref r.b).getD i .non = .ref (rows[i]).b := by simp [List.getD, hi]
    have eg : rows.getD i ⟨0, 0, "", 0, []⟩ = rows[i] := by rw [List.getD_eq_getElem?_getD, List.getElem?_eq_getElem hi]; rfl
    obtain ⟨g1, g2⟩ := hr rows[i] (List.getElem_mem hi)
    rw [eg] at kk
    rw [et]
    generalize rows[i] = r at *
    have g1' := s' _ _ g1
    walk_at "s1"
    refine r_ix (SqL.of g1') (atI_nat (j := 0) rfl) ?_
    walk_at "s1"
    refine r_ix (SqL.of g1') (atI_nat (j := 1) rfl) ?_
    have qp : SqL K H' lp (people.map V.str) := SqL.of (s' _ _ hp)
    walk_at "s1"
    have hpl : (people.map V.str).length = people.length := by simp
    refine comp_filtY (ys_list (K := K) (a := lp) (xs := people.map V.str) 0) (fun j => [some ((people.map V.str).getD j .non), some (.ref r.b)]) (by rintro j σ' (rfl | ⟨k, rfl⟩) <;> rfl) (fun H'' s'' => s''.seq qp) (by rw [hpl]; exact Nat.le_trans (show _ ≤ 1000 by omega) line64) (fun j => decide (people.getD j "" ∈ r.zs)) (fun j => .str (people.getD j "")) ?_ ?_ ?_
    · intro j hj H'' G' s'' kk'
      rw [hpl] at hj
      have et : (people.map V.str).getD j .non = .str (people.getD j "") := by simp [List.getD, hj]
      rw [et]
      walk_at "s1"
      refine r_ix (SqL.of (s'' _ _ g1')) (atI_nat (j := 2) rfl) ?_
      refine r_inSt (SqL.of (s'' _ _ (s' _ _ g2))) ?_
      walk_at "s1"
      exact kk' H'' (Same.refl _)
    · intro j hj hb H'' G' s'' kk'
      rw [hpl] at hj
      have et : (people.map V.str).getD j .non = .str (people.getD j "") := by simp [List.getD, hj]
      rw [et]
      walk_at "s1"
      exact kk' H'' (Same.refl _)
    intro l' H1 f1 s1 h1
    rw [hpl, show ((List.range people.length).filter fun j => decide (people.getD j "" ∈ r.zs)).map (fun j => V.str (people.getD j "")) = (people.filter fun z => decide (z ∈ r.zs)).map V.str by rw [← range_filt (fun z : Str => decide (z ∈ r.zs)) "" people, List.map_map]; rfl] at h1
    walk_at "s1"
    rename_i t H2 f2 s2 h2
    refine kk _ H2 ⟨t, l', rfl, ⟨⟨fun e => ?_, s'.free f1⟩, fun e => ?_⟩, h2, s2 _ _ h1⟩ (s1.trans s2)
    · rw [e, ho] at f1; cases f1
    · rw [e, s1 _ _ ho] at f2; cases f2
  intro l ys H2 f2 s2 h2 pr
  rw [List.filter_eq_self.mpr (fun _ _ => rfl), hle] at pr
  obtain ⟨ts, e, p2, q2⟩ := paired_told (P := fun w' => w' ≠ l ∧ H w' = none) (f := fun i => toldR people (rows.getD i ⟨0, 0, "", 0, []⟩)) (Paired.mapP pr fun i v ⟨t, w', e, hw, h1, h2⟩ => ⟨t, w', e, hw.1, h1, h2⟩)
  rw [range_getD' (toldR people) ⟨0, 0, "", 0, []⟩ rows] at p2
  exact q l ts H2 f2 s2 ⟨by rw [h2, e], p2⟩ q2

theorem rk_Chest_wanters (C : Cls K) : ∀ vs H Q E, sp_Chest_wanters K vs H Q E → rd_Chest_wanters K { nx := fun _ H' => Q .non H', rt := Q } (start ["self", "work"] vs) H := by
  rintro vs H Q E ⟨_, c, dx, d1, d2, w, n, wt, s, rfl, hc, hd, hw, hp, an, ap, aw, hl, q⟩
  have n1 : c ≠ d1 := ne_of_two hc hd (by simp)
  have n2 : w ≠ d1 := ne_of_two hw hd (by simp)
  have hk := kvI_len s.ps
  unfold rd_Chest_wanters
  with_reducible refine r_ret ?_
  refine comp_keys (d := d1) (kvs := kvI s.ps) (fun k hk => ⟨_, rfl, k_fld hc C.o_Chest C.n_Chest_purses lk_purses hk⟩) hd (by rw [hk]; exact Nat.le_trans (show _ ≤ 1000 by omega) line64) (fun i => .str (s.ps.getD i ("", 0)).1) ?_
    (fun i => [some (.str (s.ps.getD i ("", 0)).1), some (.str n), some (.ref c)]) (by rintro j σ' (rfl | ⟨k, rfl⟩) <;> rfl) (fun i => decide (((s.ps.getD i ("", 0)).1, n) ∈ s.ws)) (fun i => .str (s.ps.getD i ("", 0)).1) ?_ ?_ ?_
  · intro i p hp'
    have hi : i < s.ps.length := by rw [← hk]; exact (List.getElem?_eq_some_iff.mp hp').1
    rw [kvI_get (List.getElem?_eq_getElem hi)] at hp'
    cases hp'
    rw [List.getD_eq_getElem?_getD, List.getElem?_eq_getElem hi]
    rfl
  · intro i hi H' G sx kk
    rw [hk] at hi
    have ai : Ascii (s.ps.getD i ("", 0)).1 := by
      rw [List.getD_eq_getElem?_getD, List.getElem?_eq_getElem hi]
      exact ap _ (List.getElem_mem hi)
    walk_at "s1"
    rename_i t H2 f2 s2 h2
    refine k_fld (s2 _ _ (sx c _ n1 hc)) C.o_Chest C.n_Chest_wishes lk_wishes ?_
    refine r_wish (p := ((s.ps.getD i ("", 0)).1, n)) h2 (s2 _ _ (sx w _ n2 hw)) (Paired.mapP hp fun _ a z => s2 _ _ (sx a _ (ne_of_two z hd (by simp)) z)) ai an aw ?_
    rw [Bool.bne_false]
    walk_at "s1"
    exact kk H2 s2
  · intro i hi hb H' G sx kk
    walk_at "s1"
    exact kk H' (Same.refl _)
  intro l H2 f2 s2 h2
  rw [hk, names_filt s.ps (fun v => decide ((v, n) ∈ s.ws))] at h2
  exact q l H2 f2 s2 h2

theorem rk_Chest_works (C : Cls K) : ∀ vs H Q E, sp_Chest_works K vs H Q E → rd_Chest_works K { nx := fun _ H' => Q .non H', rt := Q } (start ["self"] vs) H := by
  rintro vs H Q E ⟨_, c, fp, s, rfl, ⟨dx, d1, d2, w, wt, X, rfl⟩, ap, ac, aw, hl, hlc, q⟩
  have n1 : c ≠ d2 := ne_of_two X.at_ X.p2 (by simp)
  have n2 : w ≠ d2 := ne_of_two X.w_ X.p2 (by simp)
  have hk := kvI_len s.cs
  unfold rd_Chest_works
  with_reducible refine r_ret ?_
  refine comp_itemsG (d := d2) (kvs := kvI s.cs) (fun k hk => ⟨_, rfl, k_fld X.at_ C.o_Chest C.n_Chest_costs lk_costs hk⟩) X.p2 (by rw [hk]; exact Nat.le_trans (show _ ≤ 1000 by omega) line64) (fun i => .str (s.cs.getD i ("", 0)).1) (fun i => .int (s.cs.getD i ("", 0)).2) ?_
    (fun i => [some (.str (s.cs.getD i ("", 0)).1), some (.int (s.cs.getD i ("", 0)).2), some (.ref c)]) (by rintro j σ' (rfl | ⟨k, rfl⟩) <;> rfl)
    (fun l i v H' => ∃ t w', v = V.ref t ∧ ((w' ≠ l ∧ H w' = none) ∧ t ≠ l) ∧ H' t = some (.tup [.str (toldC s (s.cs.getD i ("", 0))).1, .int (toldC s (s.cs.getD i ("", 0))).2.1, .ref w']) ∧ H' w' = some (.lst ((toldC s (s.cs.getD i ("", 0))).2.2.map V.str)))
    (fun l i v H1 H2 sx ⟨t, w', e, ⟨hw, ht⟩, h1, h2⟩ => ⟨t, w', e, ⟨hw, ht⟩, sx t _ ht h1, sx w' _ hw.1 h2⟩)
    (fun l i v H1 o hd ⟨t, w', e, hw, h1, h2⟩ => ⟨t, w', e, hw, by rw [upd_ne (ne_of_two h1 hd (by simp))]; exact h1, by rw [upd_ne (ne_of_two h2 hd (by simp))]; exact h2⟩) ?_ ?_
  · intro i p hp'
    have hi : i < s.cs.length := by rw [← hk]; exact (List.getElem?_eq_some_iff.mp hp').1
    rw [kvI_get (List.getElem?_eq_getElem hi)] at hp'
    cases hp'
    rw [List.getD_eq_getElem?_getD, List.getElem?_eq_getElem hi]
    exact ⟨rfl, rfl⟩
  · intro l i hi H' G h0 ⟨o, ho⟩ ⟨od, hod⟩ sx kk
    rw [hk] at hi
    have ai : Ascii (s.cs.getD i ("", 0)).1 := by
      rw [List.getD_eq_getElem?_getD, List.getElem?_eq_getElem hi]
      exact ac _ (List.getElem_mem hi)
    walk_at "s1"
    refine k_meth (sx c _ n1 X.at_) (lk_no (by decide +kernel)) ?_
    walk_at "s1"
    refine ⟨rfl, c, dx, d1, d2, w, _, wt, s, rfl, sx c _ n1 X.at_, sx d1 _ X.ne X.p1, sx w _ n2 X.w_, Paired.mapP X.wt fun _ a z => sx a _ (ne_of_two z X.p2 (by simp)) z, ai, ap, aw, hl, fun l' H1 f1 s1 h1 => ?_⟩
    walk_at "s1"
    rename_i t H2 f2 s2 h2
    refine kk _ H2 ⟨t, l', rfl, ⟨⟨fun e => ?_, ?_⟩, fun e => ?_⟩, h2, s2 _ _ h1⟩ (s1.trans s2)
    · rw [e, ho] at f1; cases f1
    · cases z : H l' with
      | none => rfl
      | some x =>
        by_cases e : l' = d2
        · rw [e, hod] at f1; cases f1
        · rw [sx l' _ e z] at f1; cases f1
    · rw [e, s1 _ _ ho] at f2; cases f2
  intro l ys H2 f2 s2 h2 pr
  rw [hk] at pr
  obtain ⟨ts, e, p2, q2⟩ := paired_told (P := fun w' => w' ≠ l ∧ H w' = none) (f := fun i => toldC s (s.cs.getD i ("", 0))) (Paired.mapP pr fun i v ⟨t, w', e, hw, h1, h2⟩ => ⟨t, w', e, hw.1, h1, h2⟩)
  rw [range_getD' (toldC s) ("", 0) s.cs] at p2
  exact q l ts H2 f2 s2 ⟨by rw [h2, e], p2⟩ q2

theorem rk__law_counts : ∀ vs H Q E, sp__law_counts K vs H Q E → rd__law_counts K { nx := fun _ H' => Q .non H', rt := Q } (start ["thing"] vs) H := by
  rintro vs H Q E ⟨_, i, rfl, q⟩
  unfold rd__law_counts
  walk_at "s1"
  refine r_isiI kit_ib ?_
  walk_at "s1"
  exact r_isiI kit_ii q

theorem rk_Chest_voters (C : Cls K) : ∀ vs H Q E, sp_Chest_voters K vs H Q E → rd_Chest_voters K { nx := fun _ H' => Q .non H', rt := Q } (start ["self"] vs) H := by
  rintro vs H Q E ⟨_, c, fp, s, rfl, ⟨dx, d1, d2, w, wt, x, rfl⟩, q⟩
  unfold rd_Chest_voters
  walk_at "s1"
  refine k_fld x.at_ C.o_Chest C.n_Chest_purses lk_purses ?_
  refine k_items x.p1 fun v H1 f1 s1 h1 => ?_
  walk_at "s1"
  refine ⟨v, d1, kvI s.ps, rfl, h1, s1 _ _ x.p1, fun l ts H2 f2 s2 h2 pr => q l H2 (s1.free f2) (s1.trans s2) ⟨ts, h2, ?_⟩⟩
  exact Paired.mapP (paired_unmap pr) fun p t z => z.2.2

theorem rk__law_right : ∀ vs H Q E, sp__law_right K vs H Q E → rd__law_right K { nx := fun _ H' => Q .non H', rt := Q } (start ["chest", "people", "works", "held", "due", "found", "row"] vs) H := by
  rintro vs H Q E ⟨_, c, lp, lw, hl, fp, s, people, rows, m, hs, rfl, x, hh, hhl, hn, q⟩
  have hle := x.le
  have hlr := x.lr
  have hps : s.ps.length ≤ 1000 := by have := congrArg List.length x.ep; rw [List.length_map] at this; omega
  have hcs : s.cs.length ≤ 1000 := by rw [x.ec, List.length_map]; omega
  have aP : ∀ p ∈ s.ps, Ascii p.1 := fun p hp => nm_ascii (x.nm _ (by rw [← x.ep]; exact List.mem_map.mpr ⟨p, hp, rfl⟩))
  have aC : ∀ p ∈ s.cs, Ascii p.1 := fun p hp => by
    rw [x.ec] at hp
    obtain ⟨r, hr, rfl⟩ := List.mem_map.mp hp
    exact nm_ascii (x.nn r hr)
  have aT : ∀ r ∈ rows.map (toldR people), Ascii r.1 ∧ ∀ z ∈ r.2.2, Ascii z := fun r hr => by
    obtain ⟨r', hr', rfl⟩ := List.mem_map.mp hr
    exact ⟨nm_ascii (x.nn r' hr'), fun z hz => nm_ascii (x.nm z (List.mem_filter.mp hz).1)⟩
  unfold rd__law_right
  with_reducible refine r_seq ?_
  walk_at "s1"
  refine ⟨rfl, lp, lw, people, rows, rfl, x.hp, x.hw, x.hr, by omega, by omega, fun g us H1 f1 s1 w1 p1 => ?_⟩
  have x1 := x.same s1
  obtain ⟨dx, d1, d2, w, wt, X, efp⟩ := id x1.ch
  walk_at "s1"
  with_reducible refine r_seq ?_
  walk_at "s1"
  refine k_meth X.at_ (lk_no (by decide +kernel)) ?_
  walk_at "s1"
  refine ⟨rfl, c, fp, s, rfl, x1.ch, aP, aC, x.aw, hps, hcs, fun f ts H2 f2 s2 w2 p2 => ?_⟩
  rw [x.told] at w2
  have w1' : WorksL H2 g us (rows.map (toldR people)) := w1.but (But.of (l := []) s2) (by simp) (by simp)
  have x2 := x1.same s2
  have g1 := w2.1
  walk_at "s1"
  with_reducible refine r_seq ?_
  walk_at "s1"
  refine r_isiL g1 kit_ll ?_
  walk_at "s1"
  refine L2.r_neS w2.dat w1'.dat (nd_works aT) (by decide) ?_
  walk_at "s1"
  with_reducible refine r_cut (fun σ H' => Same H2 H' ∧ ∃ v, σ = [some (.ref c), some (.ref lp), some (.ref lw), some (.ref hl), some (.ref g), some (.ref f), v]) (fun F hF => ?_) ?_
  · walk_at "s1"
    refine for_ys (ys_list (K := K) (xs := ts.map V.ref) 6) (fun i σ H' => Same H2 H' ∧ ∃ v, σ = [some (.ref c), some (.ref lp), some (.ref lw), some (.ref hl), some (.ref g), some (.ref f), v]) ⟨Same.refl _, _, rfl⟩ (fun i σ H' p => p.1.seq (SqL.of g1)) ?_ ?_
    · rintro i σ H3 H4 hi ⟨s3, v, rfl⟩ s4
      have hi : i < ts.length := by simpa using hi
      have s24 := s3.trans s4
      have et : (ts.map V.ref).getD i .non = .ref ts[i] := by simp [List.getD, hi]
      obtain ⟨r, hr, w', z1, z2⟩ := w2.tup ts[i] (List.getElem_mem hi)
      have z1 := s24 _ _ z1
      have z2 := s24 _ _ z2
      rw [et]
      show tIfS _ _ _ _ _ _
      walk_at "s1"
      refine r_isiT z1 kit_tt ?_
      walk_at "s1"
      refine r_ixT (SqT.of z1) (atI_nat (j := 1) rfl) ?_
      walk_at "s1"
      refine ⟨rfl, _, rfl, ?_⟩
      walk_at "s1"
      refine r_ixT (SqT.of z1) (atI_nat (j := 2) rfl) ?_
      walk_at "s1"
      refine r_isiL z2 kit_ll ?_
      walk_at "s1"
      exact ⟨s24, _, rfl⟩
    · rintro σ H3 ⟨s3, v, rfl⟩
      exact hF _ _ ⟨s3, v, rfl⟩
  rintro σ H3 ⟨s3, v, rfl⟩
  have s13 := s2.trans s3
  have s03 := s1.trans s13
  have w2' : WorksL H3 f ts (rows.map (toldR people)) := w2.but (But.of (l := []) s3) (by simp) (by simp)
  have w1'' : WorksL H3 g us (rows.map (toldR people)) := w1'.but (But.of (l := []) s3) (by simp) (by simp)
  with_reducible refine r_seq ?_
  walk_at "s1"
  refine ⟨tyL (s03 _ _ hh), ?_⟩
  walk_at "s1"
  rename_i t H4 f4 s4 h4
  have s04 := s03.trans s4
  refine r_appendN (s04 _ _ hh) (Nat.lt_of_lt_of_le (show _ < 1000 by omega) line64) ?_
  have b5 : But [hl] H4 (upd H4 hl (.lst (hs ++ [.ref t]))) := But.upd (s04 _ _ hh) (by intro xs z; cases z) (by simp)
  have h5 : upd H4 hl (.lst (hs ++ [.ref t])) hl = some (.lst (hs ++ [.ref t])) := upd_same
  generalize upd H4 hl (.lst (hs ++ [.ref t])) = H5 at *
  have b05 := (But.of (l := [hl]) s04).trans b5
  have x5 := x.but b05 fun a ha z => hn (by rw [← List.mem_singleton.mp z]; exact ha)
  obtain ⟨dx', d1', d2', w', wt', X', efp'⟩ := id x5.ch
  have ff : H f = none := s1.free f2
  have fg : H g = none := f1
  have nh : ∀ a, H a = none → a ∉ [hl] := fun a ha => by simpa using (ne_of_free hh ha).symm
  have own2 : ∀ t' ∈ ts, ∀ a b w, H2 t' = some (.tup [a, b, .ref w]) → H w = none := fun t' ht a b w z => s1.free (p2 t' ht a b w z).2
  have own1 : ∀ t' ∈ us, ∀ a b w, H1 t' = some (.tup [a, b, .ref w]) → H w = none := fun t' ht a b w z => (p1 t' ht a b w z).2
  have up2 : ∀ t' ∈ ts, ∀ (G : Hp) (a b : V) (w : Addr), (∀ o xs, H2 o = some (.tup xs) → G o = some (.tup xs)) → G t' = some (HO.tup [a, b, .ref w]) → H2 t' = some (.tup [a, b, .ref w]) := fun t' ht G a b w hG z => by
    obtain ⟨r, _, w', z1, _⟩ := w2.tup t' ht
    rw [hG _ _ z1] at z
    rw [z1]; exact z
  have up1 : ∀ t' ∈ us, ∀ (G : Hp) (a b : V) (w : Addr), (∀ o xs, H1 o = some (.tup xs) → G o = some (.tup xs)) → G t' = some (HO.tup [a, b, .ref w]) → H1 t' = some (.tup [a, b, .ref w]) := fun t' ht G a b w hG z => by
    obtain ⟨r, _, w', z1, _⟩ := w1.tup t' ht
    rw [hG _ _ z1] at z
    rw [z1]; exact z
  have held : Held2 (fun a => H a = none) H5 t f g ts us (rows.map (toldR people)) := by
    have s34 := s3.trans s4
    refine ⟨b5.2.1 _ _ h4, (w2'.but (But.of (l := []) s4) (by simp) (by simp)).but b5 (nh f ff) (fun t' ht a b w z => nh w (own2 t' ht a b w (up2 t' ht H4 a b w (fun o xs h => s34 _ _ h) z))), (w1''.but (But.of (l := []) s4) (by simp) (by simp)).but b5 (nh g fg) (fun t' ht a b w z => nh w (own1 t' ht a b w (up1 t' ht H4 a b w (fun o xs h => (s2.trans s34) _ _ h) z))), ⟨ff, fg⟩, ?_⟩
    intro t' ht a b w z
    rcases List.mem_append.mp ht with ht | ht
    · exact own2 t' ht a b w (up2 t' ht H5 a b w (fun o xs h => b5.2.1 _ _ (s34 _ _ h)) z)
    · exact own1 t' ht a b w (up1 t' ht H5 a b w (fun o xs h => b5.2.1 _ _ ((s2.trans s34) _ _ h)) z)
  walk_at "s1"
  refine k_meth X'.at_ (lk_no (by decide +kernel)) ?_
  walk_at "s1"
  refine ⟨rfl, c, fp, s, rfl, x5.ch, fun lv H6 f6 s6 r6 => ?_⟩
  obtain ⟨tv, v1, v2⟩ := r6
  have hvl : s.ps.length = tv.length := Paired.length v2
  walk_at "s1"
  refine comp_mapY (ys_list2 (K := K) (a := lv) (ts := tv) (u := fun i => .str (s.ps.getD i ("", 0)).1) (v := fun i => .int (s.ps.getD i ("", 0)).2) 0 1) (fun i => [some (.str (s.ps.getD i ("", 0)).1), some (.int (s.ps.getD i ("", 0)).2)]) (by rintro j σ' (rfl | ⟨k, rfl⟩) <;> rfl) ?_ (Nat.le_trans (show _ ≤ 1000 by omega) line64)
      (fun i => .str (s.ps.getD i ("", 0)).1) ?_ ?_
  · intro H' s'
    refine ⟨s'.seq (SqL.of v1), fun i b hb => ?_⟩
    have hi : i < s.ps.length := by rw [hvl]; exact (List.getElem?_eq_some_iff.mp hb).1
    obtain ⟨b', z1, z2⟩ := pair_get v2 (List.getElem?_eq_getElem hi)
    rw [hb] at z1
    cases z1
    rw [List.getD_eq_getElem?_getD, List.getElem?_eq_getElem hi]
    exact s'.seqT (SqT.of z2)
  · intro i hi H' G s' kk
    walk_at "s1"
    exact kk H' (Same.refl _)
  intro l7 H7 f7 s7 h7
  rw [← hvl, range_getD' (fun p : Str × Int => V.str p.1) ("", 0) s.ps, show s.ps.map (fun p => V.str p.1) = (s.ps.map (·.1)).map V.str by rw [List.map_map]; rfl, x.ep] at h7
  have s57 := s6.trans s7
  walk_at "s1"
  refine L2.r_eqS (d := .list (people.map PyData.str)) (n := 1) (.lst (SqL.of h7) (dat_strs _)) (.lst (SqL.of (s57 _ _ x5.hp)) (dat_strs _)) (nd_strs _ fun z hz => nm_ascii (x.nm z hz)) (by decide) ?_
  have b57 := But.of (l := []) s57
  have up5 : ∀ t' ∈ ts ++ us, ∀ a b w, H7 t' = some (.tup [a, b, .ref w]) → H5 t' = some (.tup [a, b, .ref w]) := fun t' ht a b w z => by
    have : ∃ xs, H5 t' = some (.tup xs) := by
      rcases List.mem_append.mp ht with ht | ht
      · obtain ⟨r, _, w', z1, _⟩ := held.2.1.tup t' ht
        exact ⟨_, z1⟩
      · obtain ⟨r, _, w', z1, _⟩ := held.2.2.1.tup t' ht
        exact ⟨_, z1⟩
    obtain ⟨xs, hxs⟩ := this
    rw [s57 _ _ hxs] at z
    rw [hxs]; exact z
  exact q H7 t f g ts us (b05.trans (But.of s57)) (s57 _ _ h5) ⟨s57 _ _ held.1, held.2.1.but b57 (by simp) (by simp), held.2.2.1.but b57 (by simp) (by simp), held.2.2.2.1, fun t' ht a b w z => held.2.2.2.2 t' ht a b w (up5 t' ht a b w z)⟩ fun t' ht a b w z => (p2 t' ht a b w (up2 t' ht H5 a b w (fun o xs h => b5.2.1 _ _ ((s3.trans s4) _ _ h)) (up5 t' (by simp [ht]) a b w z))).1

theorem rk_is_name : ∀ vs H Q E, sp_is_name K vs H Q E → rd_is_name K { nx := fun _ H' => Q .non H', rt := Q } (start ["name"] vs) H := by
  rintro vs H Q E ⟨_, z, rfl, ha, hz, q⟩
  have hl := len_toList z
  have hsz : z.cps.size = z.length := rfl
  have e : isNm z = ((decide (1 ≤ z.length) && decide (z.length ≤ 8)) && z.cps.toList.all isLet) := rfl
  unfold rd_is_name
  walk_at "v"
  refine iteD (fun h1 => ?_) (fun h1 => ?_)
  · walk_at "s1"
    refine iteD (fun h2 => ?_) (fun h2 => ?_)
    · walk_at "s1"
      refine ⟨z, rfl, ha, ?_⟩
      refine comp_mapY (ys_text (x := z) 0) (fun j => [some (.str ⟨#[z.cps.getD j 0]⟩)]) (by rintro j σ' (rfl | ⟨k, rfl⟩) <;> rfl) (fun _ _ => trivial) (Nat.le_trans (show _ ≤ 1000 by omega) line64) (fun j => .bl (isLet (z.cps.getD j 0))) ?_ ?_
      · intro j hj H' F s kk
        walk_at "s1"
        rw [in_lets]
        exact kk H' (Same.refl _)
      intro l1 H1 f1 s1 h1
      have e1 : (List.range z.cps.size).map (fun j => V.bl (isLet (z.cps.getD j 0))) = (z.cps.toList.map isLet).map V.bl := by
        rw [List.map_map]
        have := range_getD' (fun c => V.bl (isLet c)) 0 z.cps.toList
        rw [hl] at this
        rw [hsz]
        refine Eq.trans ?_ this
        refine List.map_congr_left fun j hj => ?_
        simp [Array.getD_eq_getD_getElem?, List.getD_eq_getElem?_getD]
      rw [e1] at h1
      have q1 : SqL K H1 l1 ((z.cps.toList.map isLet).map V.bl) := SqL.of h1
      walk_at "s1"
      have e2 : (z.cps.toList.map isLet).all id = isNm z := by
        rw [e, List.all_map, decide_eq_true (by omega), decide_eq_true (by omega)]
        rfl
      rw [e2]
      exact q H1 s1
    · walk_at "s1"
      rw [decide_eq_false (show ¬ z.length ≤ 8 by omega), Bool.and_false, Bool.false_and] at e
      rw [← e]
      exact q H (Same.refl _)
  · walk_at "s1"
    rw [decide_eq_false (show ¬ 1 ≤ z.length by omega), Bool.false_and, Bool.false_and] at e
    rw [← e]
    exact q H (Same.refl _)

theorem rk_check_new_name : ∀ vs H Q E, sp_check_new_name K vs H Q E → rd_check_new_name K { nx := fun _ H' => Q .non H', rt := Q } (start ["name", "names"] vs) H := by
  rintro vs H Q E ⟨_, z, d, kvs, rfl, hz, hd, hv, q⟩
  have hl := nm_len hz
  unfold rd_check_new_name
  with_reducible refine r_seq ?_
  walk_at "s1"
  refine ⟨rfl, z, rfl, nm_ascii hz, by omega, fun H1 s1 => ?_⟩
  rw [hz]
  walk_at "s1"
  refine k_din (s1 _ _ hd) ?_
  rw [hv]
  walk_at "s1"
  exact q H1 s1

theorem rk_check_place : ∀ vs H Q E, sp_check_place K vs H Q E → rd_check_place K { nx := fun _ H' => Q .non H', rt := Q } (start ["names", "most"] vs) H := by
  rintro vs H Q E ⟨_, d, kvs, n, rfl, hd, h1, q⟩
  unfold rd_check_place
  walk_at "s1"
  refine k_lenD hd ?_
  walk_at "s1"
  refine iteN (by omega) ?_
  walk_at "s1"
  exact q

theorem rk_Chest_enrol (C : Cls K) : ∀ vs H Q E, sp_Chest_enrol K vs H Q E → rd_Chest_enrol K { nx := fun _ H' => Q .non H', rt := Q } (start ["self", "name"] vs) H := by
  rintro vs H Q E ⟨_, c, n, fp, s, rfl, ⟨dx, d1, d2, w, wt, x, rfl⟩, hn, hm, hl, q⟩
  unfold rd_Chest_enrol
  with_reducible refine r_seq ?_
  walk_at "s1"
  refine k_fld x.at_ C.o_Chest C.n_Chest_purses lk_purses ?_
  walk_at "s1"
  refine ⟨rfl, n, d1, _, rfl, hn, x.p1, kvI_val hm, fun H1 s1 => ?_⟩
  have x1 := x.same s1
  walk_at "s1"
  with_reducible refine r_seq ?_
  walk_at "s1"
  refine k_fld x1.at_ C.o_Chest C.n_Chest_purses lk_purses ?_
  walk_at "s1"
  refine ⟨rfl, d1, _, 20, rfl, x1.p1, by rw [kvI_len]; omega, ?_⟩
  walk_at "s1"
  refine k_fld x1.at_ C.o_Chest C.n_Chest_purses lk_purses ?_
  walk_at "s1"
  refine k_dput x1.p1 (by rw [kvI_len]; exact Nat.lt_of_lt_of_le (show _ < 1000 by omega) line64) ?_
  rw [kvI_put hm]
  refine q _ [c, d1, d2, w] ⟨dx, d1, d2, w, wt, x1.setP (ps := s.ps ++ [(n, 0)]) ?_, rfl⟩ ((But.of s1).trans (But.upd x1.p1 (by intro xs z; cases z) (by simp))) New.refl
  rw [List.map_append]
  exact nd_snoc x.nd hm

theorem rk__law_spins : ∀ vs H Q E, sp__law_spins K vs H Q E → rd__law_spins K { nx := fun _ H' => Q .non H', rt := Q } (start ["cell", "many", "spins", "k", "turn"] vs) H := by
  rintro vs H Q E ⟨_, c, m, rfl, hm, q⟩
  unfold rd__law_spins
  with_reducible refine r_seq ?_
  walk_at "s1"
  rename_i l H1 f1 s1 h1
  with_reducible refine r_seq ?_
  walk_at "s1"
  have en : ((m : Int)).toNat = m := by omega
  rw [en]
  refine for_range (lo := 0) (n := m) (fun i σ H' => Same H H' ∧ ∃ (v3 v4 : Option V), H' l = some (.lst ((spinL c i).map V.int)) ∧ σ = [some (.int c), some (.int m), some (.ref l), v3, v4]) ⟨s1, _, _, h1, rfl⟩ ?_ ?_
  · rintro i σ H2 hi ⟨s2, v3, v4, h2, rfl⟩
    have fit : ((spinL c i).map V.int).length < sizeLine := by rw [List.length_map, spinL_len]; exact Nat.lt_of_lt_of_le (show i < 1000 by omega) line64
    show tSeq _ _ _ _ _
    with_reducible refine r_seq ?_
    walk_at "s1"
    have t0 : 0 ≤ c % 900900929 + 2503 * (0 + (i : Int)) + 77 := by omega
    have t1 : c % 900900929 + 2503 * (0 + (i : Int)) + 77 ≤ 1000000000 := by omega
    have et : c % 900900929 + 2503 * (0 + (i : Int)) + 77 = c % 900900929 + 2503 * (i : Int) + 77 := by omega
    have e : (c % 900900929 + 2503 * (0 + (i : Int)) + 77) * (c % 900900929 + 2503 * (0 + (i : Int)) + 77) * (c % 900900929 + 2503 * (0 + (i : Int)) + 77 + 31 * (0 + (i : Int))) / 13 % 700700003 = spin c i := by
      unfold spin
      rw [et, show (0 + (i : Int)) = (i : Int) by omega]
    generalize c % 900900929 + 2503 * (0 + (i : Int)) + 77 = t at *
    walk_at "s1"
    refine ⟨tyL h2, ?_⟩
    walk_at "s1"
    refine r_appendN h2 fit ?_
    rw [e]
    refine ⟨s2.upd f1, _, _, ?_, rfl⟩
    rw [upd_same]
    unfold spinL
    rw [List.range_succ]
    simp
  · rintro σ Ha ⟨sa, v3, v4, h2, rfl⟩
    walk_at "s1"
    exact q l Ha f1 sa h2

theorem join_ones : ∀ (cs : List Nat), (Str.join ("" : Str) (cs.map fun c => ⟨#[c]⟩)).cps.toList = cs := by
  rw [none_eq]
  intro cs
  induction cs with
  | nil => rfl
  | cons a r ih =>
    cases r with
    | nil => rfl
    | cons b t =>
      show (((⟨#[a]⟩ : Str) ++ (⟨#[]⟩ : Str) ++ Str.join ⟨#[]⟩ ((b :: t).map fun c => (⟨#[c]⟩ : Str))).cps).toList = _
      rw [PySem.Str.cps_append, PySem.Str.cps_append, Array.toList_append, Array.toList_append, ih]
      simp
theorem rk__law_name : ∀ vs H Q E, sp__law_name K vs H Q E → rd__law_name K { nx := fun _ H' => Q .non H', rt := Q } (start ["cell", "k", "letters", "xs", "word", "at"] vs) H := by
  rintro vs H Q E ⟨_, c, k, rfl, hk, q⟩
  have hL : ("abcdefghijklmnopqrstuvwxyz" : Str).length = 26 := by decide +kernel
  have hla := let_at
  unfold rd__law_name
  with_reducible refine r_seq ?_
  walk_at "s1"
  generalize ("abcdefghijklmnopqrstuvwxyz" : Str) = letters at *
  have hix : ∀ (x : Int) (H' : Hp) (Q' : VK), Q' (.str ⟨#[letN x]⟩) H' → rIxS (.str letters) (.int (x % 26)) H' Q' := fun x H' Q' z => ⟨letters, _, letN x, rfl, rfl, by rw [size_eq]; omega, hla x, z⟩
  with_reducible refine r_seq ?_
  walk_at "s1"
  refine ⟨rfl, c, 9, rfl, by decide, fun l H1 f1 s1 h1 => ?_⟩
  have q1 : SqL K H1 l ((spinL c 9).map V.int) := SqL.of h1
  walk_at "s1"
  with_reducible refine r_seq ?_
  walk_at "s1"
  rename_i p2 H2 f2 s2 h2
  have e2 : cutV ((spinL c 9).map V.int) none (some 7) = ((List.range 7).map (spin c)).map V.int := by
    have : cutV ((spinL c 9).map V.int) none (some ((7 : Nat) : Int)) = ((spinL c 9).take 7).map V.int := cut_take _ _
    refine Eq.trans this ?_
    congr 1
  rw [e2] at h2
  have q2 : SqL K H2 p2 (((List.range 7).map (spin c)).map V.int) := SqL.of h2
  refine comp_mapY (ys_list (K := K) (xs := ((List.range 7).map (spin c)).map V.int) 0) (fun j => [some ((((List.range 7).map (spin c)).map V.int).getD j .non), some (.str letters)]) (by rintro j σ' (rfl | ⟨k, rfl⟩) <;> rfl) (fun H' s => s.seq q2) (by exact Nat.le_trans (show 7 ≤ 1000 by decide) line64) (fun j => .str ⟨#[letN (spin c j)]⟩) ?_ ?_
  · intro j hj H' F s kk
    have hj : j < 7 := by simpa using hj
    have et : (((List.range 7).map (spin c)).map V.int).getD j .non = .int (spin c j) := by simp [List.getD, hj]
    rw [et]
    walk_at "s1"
    exact hix _ _ _ (kk H' (Same.refl _))
  intro l3 H3 f3 s3 h3
  have e3 : (List.range (((List.range 7).map (spin c)).map V.int).length).map (fun j => V.str ⟨#[letN (spin c j)]⟩) = ((wl c).map fun c => (⟨#[c]⟩ : Str)).map V.str := by
    rw [List.length_map, List.length_map, List.length_range]
    unfold wl
    rw [List.map_map, List.map_map]
    rfl
  rw [e3] at h3
  have s23 := s2.trans s3
  have q3 : SqL K H3 l ((spinL c 9).map V.int) := s23.seq q1
  walk_at "s1"
  have hone : ∀ x ∈ (wl c).map fun c => (⟨#[c]⟩ : Str), x.length ≤ 1 := fun x hx => by
    obtain ⟨j, _, rfl⟩ := List.mem_map.mp hx
    exact Nat.le_refl 1
  have hz : ("" : Str).length = 0 := by decide +kernel
  refine r_join 1 (SqL.of h3) hone (by rw [List.length_map, wl_len, hz]; decide) ?_
  have hw := join_ones (wl c)
  have hwl := len_toList (Str.join ("" : Str) ((wl c).map fun c => (⟨#[c]⟩ : Str)))
  rw [hw, wl_len] at hwl
  generalize Str.join ("" : Str) ((wl c).map fun c => (⟨#[c]⟩ : Str)) = word at *
  have g7 : atI ((spinL c 9).map V.int) 7 = some (.int (spin c 7)) := atI_nat (j := 7) (spinL_at (by decide))
  have g8 : atI ((spinL c 9).map V.int) 8 = some (.int (spin c 8)) := atI_nat (j := 8) (spinL_at (by decide))
  have s03 := s1.trans s23
  have fin : ∀ z : Str, z.cps.toList = nameL c k → Q (.str z) H3 := fun z hz => by
    have : z = nameF c k := str_toList.mpr (by rw [hz, nameF_list])
    rw [this]
    exact q H3 s03
  have hk8 : (k : Int) % 8 = ((k % 8 : Nat) : Int) := by omega
  have hd8 : (k : Int) / 8 = ((k / 8 : Nat) : Int) := by omega
  walk_at "s1"
  with_reducible refine r_seq ?_
  walk_at "s1"
  refine r_ix q3 g8 ?_
  walk_at "s1"
  refine iteD (fun h0 => ?_) (fun h0 => ?_)
  · walk_at "s1"
    refine r_ix q3 g7 ?_
    walk_at "s1"
    refine hix _ _ _ ?_
    walk_at "s1"
    rw [hk8, hd8]
    have hs := slice_to (z := word) (b := k % 8) (by omega)
    have hsl := len_toList (PySem.Txt.slice word none (some ((k % 8 : Nat) : Int)))
    rw [hs, List.length_take, hw, wl_len] at hsl
    refine r_addS (by rw [one_len]; omega) ?_
    refine fin _ ?_
    rw [app_toList, hs, hw]
    unfold nameL
    rw [if_pos h0]
    rfl
  walk_at "s1"
  with_reducible refine r_seq ?_
  walk_at "s1"
  refine r_ix q3 g8 ?_
  walk_at "s1"
  refine iteD (fun h1' => ?_) (fun h1' => ?_)
  · walk_at "s1"
    refine r_ix q3 g7 ?_
    walk_at "s1"
    refine hix _ _ _ ?_
    have e7 : (7 : Int) - (k : Int) % 8 = ((7 - k % 8 : Nat) : Int) := by omega
    rw [e7, hd8]
    have hs := slice_from (z := word) (a := 7 - k % 8) (by omega)
    have hsl := len_toList (PySem.Txt.slice word (some ((7 - k % 8 : Nat) : Int)) none)
    rw [hs, List.length_drop, hw, wl_len] at hsl
    refine r_addS (by rw [one_len]; omega) ?_
    refine fin _ ?_
    rw [app_toList, hs, hw]
    unfold nameL
    rw [if_neg h0, if_pos h1']
  walk_at "s1"
  with_reducible refine r_seq ?_
  walk_at "s1"
  refine r_ix q3 g8 ?_
  walk_at "s1"
  obtain ⟨n, hn, hn8⟩ : ∃ n : Nat, spin c 8 / 4 % 8 = (n : Int) ∧ n < 8 := ⟨(spin c 8 / 4 % 8).toNat, by omega, by omega⟩
  have e3 : nm3 c = (wl c).take n := by unfold nm3; rw [hn]; rfl
  rw [hn]
  have hs := slice_to (z := word) (b := n) (by omega)
  have hsl := len_toList (PySem.Txt.slice word none (some (n : Int)))
  rw [hs, hw, ← e3] at hsl
  rw [hw, ← e3] at hs
  generalize PySem.Txt.slice word none (some (n : Int)) = w3 at *
  have h3l := nm3_len c
  with_reducible refine r_seq ?_
  walk_at "s1"
  refine r_ix q3 g8 ?_
  walk_at "s1"
  have hat : spin c 8 / 32 % ((w3.length : Int) + 1) = (at3 c : Int) := by
    unfold at3
    rw [hsl]
    have := Int.emod_nonneg (spin c 8 / 32) (show ((w3.length : Int) + 1) ≠ 0 by omega)
    omega
  have hat2 : at3 c ≤ w3.length := by
    have := Int.emod_lt_of_pos (spin c 8 / 32) (show 0 < (w3.length : Int) + 1 by omega)
    omega
  rw [hat]
  walk_at "s1"
  refine r_ix q3 g7 ?_
  walk_at "s1"
  refine hix _ _ _ ?_
  have ha := slice_to (z := w3) (b := at3 c) hat2
  have hb := slice_from (z := w3) (a := at3 c) hat2
  have hal := len_toList (PySem.Txt.slice w3 none (some (at3 c : Int)))
  have hbl := len_toList (PySem.Txt.slice w3 (some (at3 c : Int)) none)
  rw [ha, List.length_take, hs] at hal
  rw [hb, List.length_drop, hs] at hbl
  refine r_addS (by rw [one_len]; omega) ?_
  have hcl := len_toList (PySem.Txt.slice w3 none (some (at3 c : Int)) ++ ⟨#[letN (spin c 7 + (k : Int))]⟩)
  rw [app_toList, List.length_append, ha, hs, List.length_take] at hcl
  have h1l : (⟨#[letN (spin c 7 + (k : Int))]⟩ : Str).cps.toList = [letN (spin c 7 + (k : Int))] := rfl
  rw [h1l] at hcl
  simp only [List.length_singleton] at hcl
  walk_at "s1"
  refine fin _ ?_
  rw [app_toList, app_toList, ha, hb, hs, h1l]
  unfold nameL
  rw [if_neg h0, if_neg h1']
  simp

theorem rk_Chest_check_voter (C : Cls K) : ∀ vs H Q E, sp_Chest_check_voter K vs H Q E → rd_Chest_check_voter K { nx := fun _ H' => Q .non H', rt := Q } (start ["self", "voter"] vs) H := by
  rintro vs H Q E ⟨_, c, n, fp, s, rfl, ⟨dx, d1, d2, w, wt, x, rfl⟩, hn, q⟩
  unfold rd_Chest_check_voter
  walk_at "s1"
  refine k_fld x.at_ C.o_Chest C.n_Chest_purses lk_purses ?_
  refine k_din x.p1 ?_
  obtain ⟨p, hp, rfl⟩ := List.mem_map.mp hn
  rw [kvI_at x.nd (show (p.1, p.2) ∈ s.ps from hp)]
  walk_at "s1"
  exact q

theorem rk_Chest_check_work (C : Cls K) : ∀ vs H Q E, sp_Chest_check_work K vs H Q E → rd_Chest_check_work K { nx := fun _ H' => Q .non H', rt := Q } (start ["self", "work"] vs) H := by
  rintro vs H Q E ⟨_, c, n, fp, s, rfl, ⟨dx, d1, d2, w, wt, x, rfl⟩, hn, q⟩
  unfold rd_Chest_check_work
  walk_at "s1"
  refine k_fld x.at_ C.o_Chest C.n_Chest_costs lk_costs ?_
  refine k_din x.p2 ?_
  obtain ⟨p, hp, rfl⟩ := List.mem_map.mp hn
  rw [kvI_at x.nd2 (show (p.1, p.2) ∈ s.cs from hp)]
  walk_at "s1"
  exact q

theorem rk_Chest_unwant (C : Cls K) : ∀ vs H Q E, sp_Chest_unwant K vs H Q E → rd_Chest_unwant K { nx := fun _ H' => Q .non H', rt := Q } (start ["self", "voter", "work"] vs) H := by
  rintro vs H Q E ⟨_, c, v, n, fp, s, rfl, ⟨dx, d1, d2, w, wt, X, rfl⟩, hv, hn, a1, a2, ha, hl, q⟩
  have hwl : s.ws.length = wt.length := Paired.length X.wt
  unfold rd_Chest_unwant
  with_reducible refine r_seq ?_
  walk_at "s1"
  refine k_meth X.at_ (lk_no (by decide +kernel)) ?_
  walk_at "s1"
  refine ⟨rfl, c, v, _, s, rfl, ⟨dx, d1, d2, w, wt, X, rfl⟩, hv, ?_⟩
  walk_at "s1"
  with_reducible refine r_seq ?_
  walk_at "s1"
  refine k_meth X.at_ (lk_no (by decide +kernel)) ?_
  walk_at "s1"
  refine ⟨rfl, c, n, _, s, rfl, ⟨dx, d1, d2, w, wt, X, rfl⟩, hn, ?_⟩
  walk_at "s1"
  refine k_fld X.at_ C.o_Chest C.n_Chest_wishes lk_wishes ?_
  refine ⟨w, rfl, ⟨_, SqL.of X.w_⟩, ?_⟩
  refine comp_filtY (ys_list (K := K) (a := w) (xs := wt.map V.ref) 0) (fun i => [some ((wt.map V.ref).getD i .non), some (.str v), some (.str n)]) (by rintro j σ' (rfl | ⟨k, rfl⟩) <;> rfl) (fun H' s' => s'.seq (SqL.of X.w_)) (by rw [List.length_map]; exact Nat.le_trans (show _ ≤ 1000 by omega) line64)
    (fun i => !decide (s.ws.getD i ("", "") = (v, n))) (fun i => (wt.map V.ref).getD i .non) ?_ ?_ ?_
  · intro i hi H' G s' kk
    have hi : i < s.ws.length := by rw [hwl]; simpa using hi
    obtain ⟨b', z1, z2⟩ := pair_get X.wt (List.getElem?_eq_getElem hi)
    have et : (wt.map V.ref).getD i .non = .ref b' := by simp [List.getD, z1]
    have eg : s.ws.getD i ("", "") = s.ws[i] := by rw [List.getD_eq_getElem?_getD, List.getElem?_eq_getElem hi]; rfl
    have hai := ha s.ws[i] (List.getElem_mem hi)
    rw [et]
    rw [eg] at kk
    walk_at "s1"
    rename_i t H2 f2 s2 h2
    refine L2.r_neDD (n := 4) (d := dPS s.ws[i]) (e := dPS (v, n)) (.tup (SqT.of (s2 _ _ (s' _ _ z2))) (.cons (.str _) (.cons (.str _) .nil))) (.tup (SqT.of h2) (.cons (.str _) (.cons (.str _) .nil))) (nd_dPS hai.1 hai.2) (nd_dPS a1 a2) (by decide) ?_
    rw [same_dPS]
    walk_at "s1"
    exact kk H2 s2
  · intro i hi hb H' G s' kk
    walk_at "s1"
    exact kk H' (Same.refl _)
  intro l H3 f3 s3 h3
  have X3 := X.same s3
  have hp : ∃ bs : List Addr, H3 l = some (.lst (bs.map V.ref)) ∧ Paired (TpS H3) (s.ws.filter fun p => !decide (p = (v, n))) bs := by
    refine ⟨((List.range (wt.map V.ref).length).filter fun i => !decide (s.ws.getD i ("", "") = (v, n))).map (fun i => wt.getD i 0), ?_, ?_⟩
    · rw [h3, List.map_map]
      congr 2
      refine List.map_congr_left fun i hi => ?_
      have hi : i < wt.length := by simpa using List.mem_range.mp (List.mem_filter.mp hi).1
      simp [List.getD, hi]
    · rw [← range_filt (fun p : Str × Str => !decide (p = (v, n))) ("", "") s.ws, hwl, List.length_map]
      have go : ∀ is : List Nat, (∀ i ∈ is, i < wt.length) → Paired (TpS H3) (is.map fun i => s.ws.getD i ("", "")) (is.map fun i => wt.getD i 0) := by
        intro is
        induction is with
        | nil => exact fun _ => .nil
        | cons i r ih =>
          intro h
          have hi := h i (by simp)
          refine .cons ?_ (ih fun j hj => h j (by simp [hj]))
          obtain ⟨b', z1, z2⟩ := pair_get X3.wt (List.getElem?_eq_getElem (show i < s.ws.length by omega))
          show TpS H3 (s.ws.getD i ("", "")) (wt.getD i 0)
          rw [List.getD_eq_getElem?_getD, List.getD_eq_getElem?_getD, z1, List.getElem?_eq_getElem (show i < s.ws.length by omega)]
          exact z2
      exact go _ fun i hi => by simpa using List.mem_range.mp (List.mem_filter.mp hi).1
  obtain ⟨bs, h3', hp⟩ := hp
  walk_at "s1"
  refine k_sto X3.at_ C.o_Chest C.n_Chest_wishes (show 6 < 1000 by decide) ?_
  rw [pf_wishes]
  have X4 := X3.setW h3' hp
  refine q _ [c, d1, d2, l] ⟨dx, d1, d2, l, bs, X4, rfl⟩ ((But.of s3).trans (But.upd X3.at_ (by intro xs z; cases z) (by simp))) ?_
  intro a ha
  simp only [List.mem_cons, List.not_mem_nil, or_false] at ha
  rcases ha with rfl | rfl | rfl | rfl
  · exact .inl (by simp)
  · exact .inl (by simp)
  · exact .inl (by simp)
  · exact .inr f3

theorem rk_Chest_want (C : Cls K) : ∀ vs H Q E, sp_Chest_want K vs H Q E → rd_Chest_want K { nx := fun _ H' => Q .non H', rt := Q } (start ["self", "voter", "work"] vs) H := by
  rintro vs H Q E ⟨_, c, v, n, fp, s, rfl, ⟨dx, d1, d2, w, wt, X, rfl⟩, hv, hn, a1, a2, ha, hl, q⟩
  have hwl : s.ws.length = wt.length := Paired.length X.wt
  unfold rd_Chest_want
  with_reducible refine r_seq ?_
  walk_at "s1"
  refine k_meth X.at_ (lk_no (by decide +kernel)) ?_
  walk_at "s1"
  refine ⟨rfl, c, v, _, s, rfl, ⟨dx, d1, d2, w, wt, X, rfl⟩, hv, ?_⟩
  walk_at "s1"
  with_reducible refine r_seq ?_
  walk_at "s1"
  refine k_meth X.at_ (lk_no (by decide +kernel)) ?_
  walk_at "s1"
  refine ⟨rfl, c, n, _, s, rfl, ⟨dx, d1, d2, w, wt, X, rfl⟩, hn, ?_⟩
  walk_at "s1"
  rename_i t H1 f1 s1 h1
  have X1 := X.same s1
  refine k_fld X1.at_ C.o_Chest C.n_Chest_wishes lk_wishes ?_
  refine r_wish (p := (v, n)) h1 X1.w_ X1.wt a1 a2 ha ?_
  rw [Bool.bne_true]
  by_cases hin : (v, n) ∈ s.ws
  · have hS : wantS s v n = s := if_pos hin
    rw [show decide ((v, n) ∈ s.ws) = true from decide_eq_true hin]
    walk_at "s1"
    exact q H1 _ (by rw [hS]; exact ⟨dx, d1, d2, w, wt, X1, rfl⟩) (But.of s1) New.refl
  · have hS : wantS s v n = { s with ws := s.ws ++ [(v, n)] } := if_neg hin
    rw [show decide ((v, n) ∈ s.ws) = false from decide_eq_false hin]
    walk_at "s1"
    refine k_fld X1.at_ C.o_Chest C.n_Chest_wishes lk_wishes ?_
    refine ⟨tyL X1.w_, ?_⟩
    walk_at "s1"
    rename_i t2 H2 f2 s2 h2
    have X2 := X1.same s2
    refine r_appendN X2.w_ (by rw [List.length_map, ← hwl]; exact Nat.lt_of_lt_of_le (show _ < 1000 by omega) line64) ?_
    rw [show wt.map V.ref ++ [V.ref t2] = (wt ++ [t2]).map V.ref by simp]
    exact q _ [c, d1, d2, w] (by rw [hS]; exact ⟨dx, d1, d2, w, wt ++ [t2], X2.addW h2, rfl⟩) ((But.of (s1.trans s2)).trans (But.upd X2.w_ (by intro xs z; cases z) (by simp))) New.refl

theorem mod_at {α : Type} {l : List α} (x : Int) (h : l ≠ []) : ∃ j : Nat, x % (l.length : Int) = (j : Int) ∧ j < l.length := by
  have hp : 0 < l.length := List.length_pos_iff.mpr h
  have a1 := Int.emod_nonneg x (show (l.length : Int) ≠ 0 by omega)
  have a2 := Int.emod_lt_of_pos x (show 0 < (l.length : Int) by omega)
  exact ⟨(x % (l.length : Int)).toNat, by omega, by omega⟩
theorem rk__law_of_wishes : ∀ vs H Q E, sp__law_of_wishes K vs H Q E → rd__law_of_wishes K { nx := fun _ H' => Q .non H', rt := Q } (start ["chest", "people", "works", "xs", "work", "name", "others"] vs) H := by
  rintro vs H Q E ⟨_, c, lp, lw, lx, xs, fp, s, people, rows, m, rfl, x, hm, hx, hxl, hpe, hre, q⟩
  have hle := x.le
  have hlr := x.lr
  have hp0 : 0 < people.length := List.length_pos_iff.mpr hpe
  have hr0 : 0 < rows.length := List.length_pos_iff.mpr hre
  have gx : ∀ j, j < 4 → atI (xs.map V.int) (j : Nat) = some (.int (xs.getD j 0)) := fun j hj => atI_nat (by simp [List.getD, hxl, hj])
  have qx : SqL K H lx (xs.map V.int) := SqL.of hx
  have qp : SqL K H lp (people.map V.str) := SqL.of x.hp
  have qw : SqL K H lw (rows.map fun r : WkR => V.ref r.b) := SqL.of x.hw
  have hpm : (people.map V.str).length = people.length := by simp
  have hrm : (rows.map fun r : WkR => V.ref r.b).length = rows.length := by simp
  have aP : ∀ z ∈ people, Ascii z := fun z hz => nm_ascii (x.nm z hz)
  unfold rd__law_of_wishes
  with_reducible refine r_seq ?_
  walk_at "s1"
  refine r_ix qx (gx 1 (by decide)) ?_
  walk_at "s1"
  rw [hrm]
  obtain ⟨j, hj, hjl⟩ := mod_at (xs.getD 1 0) hre
  rw [hj]
  refine r_ix qw (atI_nat (j := j) (v := .ref (rows[j]).b) (by simp [hjl])) ?_
  have hr := List.getElem_mem hjl
  generalize rows[j] = r at *
  have hz1 := (x.zs r hr).1
  have hz2 := (x.zs r hr).2
  have aZ : ∀ z ∈ r.zs, Ascii z := fun z hz => aP z (hz2 z hz)
  walk_at "s1"
  with_reducible refine r_seq ?_
  walk_at "s1"
  refine r_ix qx (gx 2 (by decide)) ?_
  walk_at "s1"
  rw [hpm]
  obtain ⟨k, hk, hkl⟩ := mod_at (xs.getD 2 0) hpe
  rw [hk]
  refine r_ix qp (atI_nat (j := k) (v := .str people[k]) (by simp [hkl])) ?_
  have hin := List.getElem_mem hkl
  generalize people[k] = name0 at *
  walk_at "s1"
  have g1 := x.hr r hr
  with_reducible refine r_cut (fun σ H' => Same H H' ∧ ∃ z ∈ people, σ = [some (.ref c), some (.ref lp), some (.ref lw), some (.ref lx), some (.ref r.b), some (.str z), none]) (fun F hF => ?_) ?_
  · walk_at "s1"
    refine r_ix qx (gx 3 (by decide)) ?_
    walk_at "s1"
    refine iteD (fun hc => ?_) (fun hc => ?_)
    · walk_at "s1"
      refine r_ix (SqL.of g1.1) (atI_nat (j := 2) rfl) ?_
      walk_at "s1"
      rename_i p1 H1 f1 s1 h1
      have dz : DatIs K H1 (.ref r.w2) (.list (r.zs.map PyData.str)) := .lst (SqL.of (s1 _ _ g1.2)) (dat_strs _)
      by_cases hz : r.zs = []
      · refine L2.r_neS (d := .list []) (n := 1) (by rw [hz] at dz; exact dz) (.lst (SqL.of h1) .nil) (nd_list fun d hd => by cases hd) (by decide) ?_
        walk_at "s1"
        exact hF _ _ ⟨s1, name0, hin, rfl⟩
      · refine L2.r_neDD (n := 1) dz (e := .list []) (.lst (SqL.of h1) .nil) (nd_strs _ aZ) (nd_list fun d hd => by cases hd) (by decide) ?_
        rw [same_ff (fun e => hz (List.map_eq_nil_iff.mp (PyData.list.inj e)))]
        have hzp : 0 < r.zs.length := List.length_pos_iff.mpr hz
        have hzm : (r.zs.map V.str).length = r.zs.length := by simp
        have qz : SqL K H1 r.w2 (r.zs.map V.str) := SqL.of (s1 _ _ g1.2)
        have qx1 := s1.seq qx
        walk_at "s1"
        refine r_ix (SqL.of (s1 _ _ g1.1)) (atI_nat (j := 2) rfl) ?_
        walk_at "s1"
        refine r_ix qx1 (gx 2 (by decide)) ?_
        walk_at "s1"
        refine r_ix (SqL.of (s1 _ _ g1.1)) (atI_nat (j := 2) rfl) ?_
        walk_at "s1"
        rw [hzm]
        obtain ⟨k2, hk2, hkl2⟩ := mod_at (xs.getD 2 0) hz
        rw [hk2]
        refine r_ix qz (atI_nat (j := k2) (v := .str r.zs[k2]) (by simp [hkl2])) ?_
        walk_at "s1"
        exact hF _ _ ⟨s1, r.zs[k2], hz2 _ (List.getElem_mem hkl2), rfl⟩
    · walk_at "s1"
      exact hF _ _ ⟨Same.refl _, name0, hin, rfl⟩
  rintro σ H1 ⟨s1, z1, hz1in, rfl⟩
  have x1 := x.same s1
  have qp1 := s1.seq qp
  have g1' := x1.hr r hr
  with_reducible refine r_seq ?_
  walk_at "s1"
  refine comp_filtY (ys_list (K := K) (a := lp) (xs := people.map V.str) 0) (fun i => [some ((people.map V.str).getD i .non), some (.ref r.b)]) (by rintro j σ' (rfl | ⟨k, rfl⟩) <;> rfl) (fun H' s' => s'.seq qp1) (by rw [hpm]; exact Nat.le_trans (show _ ≤ 1000 by omega) line64) (fun i => !decide (people.getD i "" ∈ r.zs)) (fun i => .str (people.getD i "")) ?_ ?_ ?_
  · intro i hi H' G s' kk
    rw [hpm] at hi
    have et : (people.map V.str).getD i .non = .str (people.getD i "") := by simp [List.getD, hi]
    rw [et]
    walk_at "s1"
    refine r_ix (SqL.of (s' _ _ g1'.1)) (atI_nat (j := 2) rfl) ?_
    refine r_ninSt (SqL.of (s' _ _ g1'.2)) ?_
    walk_at "s1"
    exact kk H' (Same.refl _)
  · intro i hi hb H' G s' kk
    rw [hpm] at hi
    have et : (people.map V.str).getD i .non = .str (people.getD i "") := by simp [List.getD, hi]
    rw [et]
    walk_at "s1"
    exact kk H' (Same.refl _)
  intro l2 H2 f2 s2 h2
  rw [hpm, show ((List.range people.length).filter fun i => !decide (people.getD i "" ∈ r.zs)).map (fun i => V.str (people.getD i "")) = (people.filter fun z => !decide (z ∈ r.zs)).map V.str by rw [← range_filt (fun z : Str => !decide (z ∈ r.zs)) "" people, List.map_map]; rfl] at h2
  have s02 := s1.trans s2
  have hoth : ∀ z ∈ people.filter fun z => !decide (z ∈ r.zs), z ∈ people := fun z hz => (List.mem_filter.mp hz).1
  generalize (people.filter fun z => !decide (z ∈ r.zs)) = oth at *
  have qx2 := s02.seq qx
  walk_at "s1"
  with_reducible refine r_cut (fun σ H' => Same H H' ∧ ∃ z ∈ people, ∃ v6, σ = [some (.ref c), some (.ref lp), some (.ref lw), some (.ref lx), some (.ref r.b), some (.str z), v6]) (fun F hF => ?_) ?_
  · walk_at "s1"
    refine r_ix qx2 (gx 3 (by decide)) ?_
    walk_at "s1"
    refine iteD (fun hc => ?_) (fun hc => ?_)
    · walk_at "s1"
      rename_i p3 H3 f3 s3 h3
      have dz : DatIs K H3 (.ref l2) (.list (oth.map PyData.str)) := .lst (SqL.of (s3 _ _ h2)) (dat_strs _)
      by_cases hz : oth = []
      · refine L2.r_neS (d := .list []) (n := 1) (by rw [hz] at dz; exact dz) (.lst (SqL.of h3) .nil) (nd_list fun d hd => by cases hd) (by decide) ?_
        walk_at "s1"
        exact hF _ _ ⟨s02.trans s3, z1, hz1in, _, rfl⟩
      · refine L2.r_neDD (n := 1) dz (e := .list []) (.lst (SqL.of h3) .nil) (nd_strs _ fun z hz => aP z (hoth z hz)) (nd_list fun d hd => by cases hd) (by decide) ?_
        rw [same_ff (fun e => hz (List.map_eq_nil_iff.mp (PyData.list.inj e)))]
        have hzp : 0 < oth.length := List.length_pos_iff.mpr hz
        have hzm : (oth.map V.str).length = oth.length := by simp
        have qz : SqL K H3 l2 (oth.map V.str) := SqL.of (s3 _ _ h2)
        have qx3 := s3.seq qx2
        walk_at "s1"
        refine r_ix qx3 (gx 2 (by decide)) ?_
        walk_at "s1"
        rw [hzm]
        obtain ⟨k2, hk2, hkl2⟩ := mod_at (xs.getD 2 0) hz
        rw [hk2]
        refine r_ix qz (atI_nat (j := k2) (v := .str oth[k2]) (by simp [hkl2])) ?_
        walk_at "s1"
        exact hF _ _ ⟨s02.trans s3, oth[k2], hoth _ (List.getElem_mem hkl2), _, rfl⟩
    · walk_at "s1"
      exact hF _ _ ⟨s02, z1, hz1in, _, rfl⟩
  rintro σ H3 ⟨s3, z, hz, v6, rfl⟩
  have x3 := x.same s3
  have qx3 := s3.seq qx
  have g3 := x3.hr r hr
  have hfin : ∀ (H' : Hp) (fp' : List Addr) (s' : ChSt) (people' : List Str) (rows' : List WkR), L42 K H' c lp lw fp' s' people' rows' (m + 1) → But (fpW lp lw rows ++ fp) H3 H' → New (fpW lp lw rows ++ fp) (fpW lp lw rows' ++ fp') H3 → Q .non H' := fun H' fp' s' p' r' a1 a2 a3 => q H' fp' s' p' r' a1 ((But.of s3).trans a2) (New.refl.trans a3 (But.of s3))
  have hwz : z ∈ s.ps.map (·.1) := by rw [x.ep]; exact hz
  have hwr : r.n ∈ s.cs.map (·.1) := by rw [x.ec, List.map_map]; exact List.mem_map.mpr ⟨r, hr, rfl⟩
  have zle : r.zs.length ≤ 20 := by have := List.Nodup.length_le_of_subset hz1 (show r.zs ⊆ people from fun y hy => hz2 y hy); omega
  have ewr := fun v => x.ewr hr v
  have wl := x.wl
  have call : ∀ (H7 : Hp), (∀ a, a ≠ r.w2 → ∀ o, H3 a = some o → H7 a = some o) → But (fpW lp lw rows) H3 H7 → ChestAt K H7 c fp s ∧ H7 r.b = some (.lst [.str r.n, .int r.c, .ref r.w2]) := fun H7 keep b7 => by
    refine ⟨x3.ch.but b7 fun a ha z => x.dis a z ha, keep _ (ne_of_two g3.1 g3.2 ?_) _ g3.1⟩
    intro e
    injection e with e
    have := congrArg (fun l : List V => l[2]?) e
    cases hzz : r.zs[2]? with
    | none => simp [hzz] at this
    | some y => simp [hzz] at this
  with_reducible refine r_cut (fun σ H' => H3 = H' ∧ σ = [some (.ref c), some (.ref lp), some (.ref lw), some (.ref lx), some (.ref r.b), some (.str z), v6]) (fun F hF => ?_) ?_
  · walk_at "s1"
    refine r_ix qx3 (gx 0 (by decide)) ?_
    walk_at "s1"
    refine iteD (fun hc => ?_) (fun hc => ?_)
    · with_reducible refine r_cut (fun σ H' => σ = [some (.ref c), some (.ref lp), some (.ref lw), some (.ref lx), some (.ref r.b), some (.str z), v6] ∧ But (fpW lp lw rows) H3 H' ∧ (∀ a, a ≠ r.w2 → ∀ o, H3 a = some o → H' a = some o) ∧ H' r.w2 = some (.lst ((if z ∈ r.zs then r.zs else r.zs ++ [z]).map V.str))) (fun F' hF' => ?_) ?_
      · walk_at "s1"
        refine r_ix (SqL.of g3.1) (atI_nat (j := 2) rfl) ?_
        refine r_ninSt (SqL.of g3.2) ?_
        walk_at "s1"
        by_cases hzz : z ∈ r.zs
        · rw [show decide (z ∈ r.zs) = true from decide_eq_true hzz]
          walk_at "s1"
          exact hF' _ _ ⟨rfl, But.of (Same.refl _), fun a _ o h => h, by rw [if_pos hzz]; exact g3.2⟩
        · rw [show decide (z ∈ r.zs) = false from decide_eq_false hzz]
          walk_at "s1"
          refine r_ix (SqL.of g3.1) (atI_nat (j := 2) rfl) ?_
          refine ⟨tyL g3.2, ?_⟩
          walk_at "s1"
          refine r_appendN g3.2 (by rw [List.length_map]; exact Nat.lt_of_lt_of_le (show _ < 1000 by omega) line64) ?_
          exact hF' _ _ ⟨rfl, But.upd g3.2 (by intro xs z; cases z) (fpW_w hr), fun a e o h => by rw [upd_ne e]; exact h, by rw [if_neg hzz, upd_same]; simp⟩
      rintro σ H7 ⟨rfl, b7, keep, hz7⟩
      obtain ⟨c7, hb7⟩ := call H7 keep b7
      obtain ⟨dx, d1, d2, w, wt, X, efp⟩ := id c7
      walk_at "s1"
      refine k_meth X.at_ (lk_no (by decide +kernel)) ?_
      walk_at "s1"
      refine r_ix (SqL.of hb7) (atI_nat (j := 0) rfl) ?_
      walk_at "s1"
      refine ⟨rfl, c, z, r.n, fp, s, rfl, c7, hwz, hwr, aP z hz, nm_ascii (x.nn r hr), x.aw, Nat.le_trans x.wl (by omega), fun H8 fp8 c8 b8 n8 => ?_⟩
      obtain ⟨w1, w2, w3⟩ := x3.wish hr (zs' := if z ∈ r.zs then r.zs else r.zs ++ [z]) (s' := wantS s z r.n) b7 hz7 keep (by
          by_cases hzz : z ∈ r.zs
          · rw [if_pos hzz]; exact hz1
          · rw [if_neg hzz]; exact nd_snoc hz1 hzz) (fun y hy => by
          by_cases hzz : z ∈ r.zs
          · rw [if_pos hzz] at hy; exact hz2 y hy
          · rw [if_neg hzz] at hy
            rcases List.mem_append.mp hy with hy | hy
            · exact hz2 y hy
            · rw [List.mem_singleton.mp hy]; exact hz) c8 b8 n8 (by unfold wantS; split <;> rfl) (by unfold wantS; split <;> rfl) (fun v n => by
          unfold wantS
          by_cases hzz : z ∈ r.zs
          · rw [if_pos ((ewr z).mpr hzz), if_pos hzz]
            by_cases e : n = r.n
            · rw [if_pos e, e]; exact ewr v
            · rw [if_neg e]
          · rw [if_neg (fun h => hzz ((ewr z).mp h)), if_neg hzz]
            show (v, n) ∈ s.ws ++ [(z, r.n)] ↔ _
            rw [List.mem_append, List.mem_singleton]
            by_cases e : n = r.n
            · rw [if_pos e, e, ewr v, List.mem_append, List.mem_singleton]
              constructor
              · rintro (h | h)
                · exact .inl h
                · exact .inr (Prod.mk.inj h).1
              · rintro (h | h)
                · exact .inl h
                · exact .inr (by rw [h])
            · rw [if_neg e]
              constructor
              · rintro (h | h)
                · exact h
                · exact absurd (Prod.mk.inj h).2 e
              · exact .inl) (by
          unfold wantS
          split
          · omega
          · show (s.ws ++ [(z, r.n)]).length ≤ m + 1
            rw [List.length_append, List.length_singleton]; omega)
      exact hfin H8 fp8 _ _ _ w1 w2 w3
    · walk_at "s1"
      exact hF _ _ ⟨rfl, rfl⟩
  rintro σ _ ⟨rfl, rfl⟩
  with_reducible refine r_cut (fun σ H' => σ = [some (.ref c), some (.ref lp), some (.ref lw), some (.ref lx), some (.ref r.b), some (.str z), v6] ∧ But (fpW lp lw rows) H3 H' ∧ (∀ a, a ≠ r.w2 → ∀ o, H3 a = some o → H' a = some o) ∧ H' r.w2 = some (.lst ((r.zs.filter fun y => decide (y ≠ z)).map V.str))) (fun F' hF' => ?_) ?_
  · walk_at "s1"
    refine r_ix (SqL.of g3.1) (atI_nat (j := 2) rfl) ?_
    refine r_inSt (SqL.of g3.2) ?_
    walk_at "s1"
    by_cases hzz : z ∈ r.zs
    · rw [show decide (z ∈ r.zs) = true from decide_eq_true hzz]
      walk_at "s1"
      refine r_ix (SqL.of g3.1) (atI_nat (j := 2) rfl) ?_
      refine ⟨tyL g3.2, ?_⟩
      walk_at "s1"
      obtain ⟨jz, hjz, ejz⟩ := List.getElem_of_mem hzz
      refine r_removeS g3.2 hz1 (show r.zs[jz]? = some z by rw [List.getElem?_eq_getElem hjz, ejz]) aZ ?_
      exact hF' _ _ ⟨rfl, But.upd g3.2 (by intro xs z; cases z) (fpW_w hr), fun a e o h => by rw [upd_ne e]; exact h, upd_same⟩
    · rw [show decide (z ∈ r.zs) = false from decide_eq_false hzz]
      walk_at "s1"
      have e : (r.zs.filter fun y => decide (y ≠ z)) = r.zs := List.filter_eq_self.mpr fun y hy => decide_eq_true fun e => hzz (by rw [← e]; exact hy)
      exact hF' _ _ ⟨rfl, But.of (Same.refl _), fun a _ o h => h, by rw [e]; exact g3.2⟩
  rintro σ H7 ⟨rfl, b7, keep, hz7⟩
  obtain ⟨c7, hb7⟩ := call H7 keep b7
  obtain ⟨dx, d1, d2, w, wt, X, efp⟩ := id c7
  walk_at "s1"
  refine k_meth X.at_ (lk_no (by decide +kernel)) ?_
  walk_at "s1"
  refine r_ix (SqL.of hb7) (atI_nat (j := 0) rfl) ?_
  walk_at "s1"
  refine ⟨rfl, c, z, r.n, fp, s, rfl, c7, hwz, hwr, aP z hz, nm_ascii (x.nn r hr), x.aw, Nat.le_trans x.wl (by omega), fun H8 fp8 c8 b8 n8 => ?_⟩
  obtain ⟨w1, w2, w3⟩ := x3.wish hr (zs' := r.zs.filter fun y => decide (y ≠ z)) (s' := unwS s z r.n) b7 hz7 keep (List.Nodup.sublist List.filter_sublist hz1) (fun y hy => hz2 y (List.mem_filter.mp hy).1) c8 b8 n8 rfl rfl (fun v n => by
      show (v, n) ∈ s.ws.filter (fun p => !decide (p = (z, r.n))) ↔ _
      rw [List.mem_filter]
      by_cases e : n = r.n
      · rw [if_pos e, e, ewr v, List.mem_filter]
        simp
      · rw [if_neg e]
        constructor
        · exact fun h => h.1
        · intro h
          refine ⟨h, ?_⟩
          have : (v, n) ≠ (z, r.n) := fun h' => e (Prod.mk.inj h').2
          show (!decide ((v, n) = (z, r.n))) = true
          rw [decide_eq_false this]
          rfl) (Nat.le_trans (List.length_filter_le _ _) (Nat.le_succ_of_le wl))
  exact hfin H8 fp8 _ _ _ w1 w2 w3

theorem rk__law_fresh : ∀ vs H Q E, sp__law_fresh K vs H Q E → rd__law_fresh K { nx := fun _ H' => Q .non H', rt := Q } (start ["cell", "known", "x", "names"] vs) H := by
  rintro vs H Q E ⟨_, p1, cell, x, known, rfl, h1, hkl, q⟩
  unfold rd__law_fresh
  with_reducible refine r_seq ?_
  walk_at "s1"
  refine comp_mapY (ys_range (lo := 0) (n := 21) 0) (fun j => [some (.int (0 + (j : Int))), some (.int cell)]) (by rintro j σ' (rfl | ⟨k, rfl⟩) <;> rfl) (fun _ _ => trivial) (Nat.le_trans (show 21 ≤ 1000 by decide) line64) (fun j => .str (nameF cell j)) ?_ ?_
  · intro j hj H' G s' kk
    walk_at "s1"
    refine ⟨rfl, cell, j, by rw [show (0 + (j : Int)) = (j : Int) by omega], by omega, fun H'' s'' => kk H'' s''⟩
  intro p2 H2 f2 s2 h2
  rw [show (List.range 21).map (fun j => V.str (nameF cell j)) = ((List.range 21).map (nameF cell)).map V.str by rw [List.map_map]; rfl] at h2
  have hnl : ((List.range 21).map (nameF cell)).length = 21 := by simp
  have hnm : ∀ z ∈ (List.range 21).map (nameF cell), isNm z = true := fun z hz => by
    obtain ⟨j, _, rfl⟩ := List.mem_map.mp hz
    exact nameF_nm _ _
  have hfp := fresh_pos cell known hkl
  generalize (List.range 21).map (nameF cell) = names at *
  refine r_iList' (SqL.of h2) ?_
  have hml : (names.map V.str).length = 21 := by simp [hnl]
  refine comp_filtY (ys_list (K := K) (xs := names.map V.str) 0) (fun j => [some ((names.map V.str).getD j .non), some (.ref p1)]) (by rintro j σ' (rfl | ⟨k, rfl⟩) <;> rfl) (fun H' s' => s'.seq (SqL.of h2)) (by rw [hml]; exact Nat.le_trans (show 21 ≤ 1000 by decide) line64) (fun j => !decide (names.getD j "" ∈ known)) (fun j => .str (names.getD j "")) ?_ ?_ ?_
  · intro j hj H' G s' kk
    rw [hml] at hj
    have et : (names.map V.str).getD j .non = .str (names.getD j "") := by simp [List.getD, hnl, hj]
    rw [et]
    walk_at "s1"
    refine r_ninSt (s'.seq (s2.seq (SqL.of h1))) ?_
    walk_at "s1"
    exact kk H' (Same.refl _)
  · intro j hj hb H' G s' kk
    rw [hml] at hj
    have et : (names.map V.str).getD j .non = .str (names.getD j "") := by simp [List.getD, hnl, hj]
    rw [et]
    walk_at "s1"
    exact kk H' (Same.refl _)
  intro p3 H3 f3 s3 h3
  rw [hml, ← hnl, show ((List.range names.length).filter fun j => !decide (names.getD j "" ∈ known)).map (fun j => V.str (names.getD j "")) = (names.filter fun z => !decide (z ∈ known)).map V.str by rw [← range_filt (fun z : Str => !decide (z ∈ known)) "" names, List.map_map]; rfl] at h3
  have hfm : ∀ z ∈ names.filter fun z => !decide (z ∈ known), isNm z = true ∧ z ∉ known := fun z hz => by
    obtain ⟨m1, m2⟩ := List.mem_filter.mp hz
    exact ⟨hnm z m1, by simpa using m2⟩
  generalize (names.filter fun z => !decide (z ∈ known)) = fresh at *
  have q3 : SqL K H3 p3 (fresh.map V.str) := SqL.of h3
  walk_at "s1"
  rw [List.length_map]
  refine r_mod (by omega) ?_
  obtain ⟨j, hj, hjl⟩ : ∃ j : Nat, x % (fresh.length : Int) = (j : Int) ∧ j < fresh.length := by
    have a1 := Int.emod_nonneg x (show (fresh.length : Int) ≠ 0 by omega)
    have a2 := Int.emod_lt_of_pos x (show 0 < (fresh.length : Int) by omega)
    exact ⟨(x % (fresh.length : Int)).toNat, by omega, by omega⟩
  rw [hj]
  refine r_ix q3 (atI_nat (j := j) (v := .str fresh[j]) (by simp [hjl])) ?_
  obtain ⟨k1, k2⟩ := hfm fresh[j] (List.getElem_mem hjl)
  exact q _ H3 (s2.trans s3) k1 k2

theorem rk_Chest_leave (C : Cls K) : ∀ vs H Q E, sp_Chest_leave K vs H Q E → rd_Chest_leave K { nx := fun _ H' => Q .non H', rt := Q } (start ["self", "name"] vs) H := by
  rintro vs H Q E ⟨_, c, n, x, fp, s, rfl, ⟨dx, d1, d2, w, wt, X, rfl⟩, hm, hw, q⟩
  unfold rd_Chest_leave
  with_reducible refine r_seq ?_
  walk_at "s1"
  refine k_meth X.at_ (lk_no (by decide +kernel)) ?_
  walk_at "s1"
  refine ⟨rfl, c, n, _, s, rfl, ⟨dx, d1, d2, w, wt, X, rfl⟩, List.mem_map.mpr ⟨_, hm, rfl⟩, ?_⟩
  walk_at "s1"
  with_reducible refine r_seq ?_
  walk_at "s1"
  refine k_aug X.at_ C.o_Chest C.n_Chest_unshared lk_unshared ?_
  walk_at "s1"
  refine k_fld X.at_ C.o_Chest C.n_Chest_purses lk_purses ?_
  refine ⟨d1, rfl, .inl ⟨_, .inl X.p1⟩, ?_⟩
  walk_at "s1"
  refine ⟨_, .inr n, .int x, X.p1, rfl, kvI_at X.nd hm, ?_⟩
  rw [kvI_drop]
  have X1 := X.setP (ps := s.ps.filter fun p => decide (p.1 ≠ n)) (nd_filt X.nd)
  have b1 : But [c, d1, d2, w] H (upd H d1 (.dK (kvI (s.ps.filter fun p => decide (p.1 ≠ n))))) := But.upd X.p1 (by intro xs z; cases z) (by simp)
  generalize upd H d1 (.dK (kvI (s.ps.filter fun p => decide (p.1 ≠ n)))) = H1 at *
  refine ⟨_, _, rfl, rfl, dx, _, X1.at_, (show 6 < 1000 by decide), ?_⟩
  rw [pf_unshared]
  have X2 := X1.setF (a := s.pot + x) (b := s.giv) (e := s.spt)
  have b2 : But [c, d1, d2, w] H1 (upd H1 c (.ins (clsA K "Chest") dx (chF d1 d2 w (s.pot + x) s.giv s.spt))) := But.upd X1.at_ (by intro xs z; cases z) (by simp)
  generalize upd H1 c (.ins (clsA K "Chest") dx (chF d1 d2 w (s.pot + x) s.giv s.spt)) = H2 at *
  walk_at "s1"
  refine k_fld X2.at_ C.o_Chest C.n_Chest_wishes lk_wishes ?_
  refine ⟨w, rfl, ⟨_, SqL.of X2.w_⟩, ?_⟩
  have hwl : s.ws.length = wt.length := Paired.length X.wt
  refine comp_tupsVY (ys_list2 (K := K) (a := w) (ts := wt) (u := fun i => .str (s.ws.getD i ("", "")).1) (v := fun i => .str (s.ws.getD i ("", "")).2) 0 1) (fun i => [some (.str (s.ws.getD i ("", "")).1), some (.str (s.ws.getD i ("", "")).2), some (.str n)]) (by rintro j σ' (rfl | ⟨k, rfl⟩) <;> rfl) ?_ (Nat.le_trans (show _ ≤ 1000 by omega) line64)
    (fun i => !decide ((s.ws.getD i ("", "")).1 = n)) (fun i => [.str (s.ws.getD i ("", "")).1, .str (s.ws.getD i ("", "")).2]) ?_ ?_ ?_
  · intro H' s'
    refine ⟨s'.seq (SqL.of X2.w_), fun i b hb => ?_⟩
    have hi : i < s.ws.length := by rw [hwl]; exact (List.getElem?_eq_some_iff.mp hb).1
    obtain ⟨b', z1, z2⟩ := pair_get X2.wt (List.getElem?_eq_getElem hi)
    rw [hb] at z1
    cases z1
    rw [List.getD_eq_getElem?_getD, List.getElem?_eq_getElem hi]
    exact s'.seqT (SqT.of z2)
  · intro i hi H' G s' kk
    walk_at "s1"
    exact kk H' (Same.refl _)
  · intro i hi hb H' G s' kk
    walk_at "s1"
    rename_i a H'' f s'' h
    exact kk a H'' f s'' h
  intro l bs H3 f3 s3 h3 pr
  have X3 := X2.same s3
  rw [← hwl] at pr
  have hp : Paired (TpS H3) (s.ws.filter fun p => !decide (p.1 = n)) bs := by
    rw [← range_filt (fun p : Str × Str => !decide (p.1 = n)) ("", "") s.ws]
    exact paired_mapR pr
  walk_at "s1"
  refine k_sto X3.at_ C.o_Chest C.n_Chest_wishes (show 6 < 1000 by decide) ?_
  rw [pf_wishes]
  have X4 := X3.setW h3 hp
  refine q _ [c, d1, d2, l] ⟨dx, d1, d2, l, bs, X4, rfl⟩ (((b1.trans b2).trans (But.of s3)).trans (But.upd X3.at_ (by intro xs z; cases z) (by simp))) ?_
  intro a ha
  simp only [List.mem_cons, List.not_mem_nil, or_false] at ha
  rcases ha with rfl | rfl | rfl | rfl
  · exact .inl (by simp)
  · exact .inl (by simp)
  · exact .inl (by simp)
  · exact .inr ((b1.trans b2).2.2 _ f3)

theorem rk__law_of_voters : ∀ vs H Q E, sp__law_of_voters K vs H Q E → rd__law_of_voters K { nx := fun _ H' => Q .non H', rt := Q } (start ["chest", "people", "works", "xs", "cell", "name", "work"] vs) H := by
  rintro vs H Q E ⟨_, c, lp, lw, lx, cell, xs, fp, s, people, rows, m, rfl, x, hm, hx, hxl, q⟩
  have hle := x.le
  have hpl : s.ps.length = people.length := by have := congrArg List.length x.ep; rwa [List.length_map] at this
  have gx : ∀ j, j < 4 → atI (xs.map V.int) (j : Nat) = some (.int (xs.getD j 0)) := fun j hj => atI_nat (by simp [List.getD, hxl, hj])
  have qx : SqL K H lx (xs.map V.int) := SqL.of hx
  have qp : SqL K H lp (people.map V.str) := SqL.of x.hp
  have hpm : (people.map V.str).length = people.length := by simp
  have aP : ∀ z ∈ people, Ascii z := fun z hz => nm_ascii (x.nm z hz)
  unfold rd__law_of_voters
  with_reducible refine r_cut (fun σ H' => H = H' ∧ ∃ v5, σ = [some (.ref c), some (.ref lp), some (.ref lw), some (.ref lx), some (.int cell), v5, none]) (fun F hF => ?_) ?_
  · walk_at "s1"
    refine r_ix qx (gx 0 (by decide)) ?_
    walk_at "s1"
    refine iteD (fun hc => ?_) (fun hc => ?_)
    · walk_at "s1"
      rw [hpm]
      refine iteD (fun hc2 => ?_) (fun hc2 => ?_)
      · have hc2 : people.length < 20 := by omega
        with_reducible refine r_seq ?_
        walk_at "s1"
        refine r_ix qx (gx 1 (by decide)) ?_
        walk_at "s1"
        refine ⟨rfl, lp, cell, _, people, rfl, x.hp, hc2, fun z H1 s1 hz1 hz2 => ?_⟩
        have x1 := x.same s1
        walk_at "s1"
        with_reducible refine r_seq ?_
        walk_at "s1"
        refine ⟨tyL x1.hp, ?_⟩
        walk_at "s1"
        refine r_appendN x1.hp (by rw [hpm]; exact Nat.lt_of_lt_of_le (show _ < 1000 by omega) line64) ?_
        rw [show people.map V.str ++ [V.str z] = (people ++ [z]).map V.str by simp]
        have b2 : But (fpW lp lw rows) H1 (upd H1 lp (.lst ((people ++ [z]).map V.str))) := But.upd x1.hp (by intro xs z; cases z) fpW_p
        have h2 : upd H1 lp (.lst ((people ++ [z]).map V.str)) lp = some (.lst ((people ++ [z]).map V.str)) := upd_same
        have ndp := x.nd
        have k2 : ∀ a ∈ fpW lp lw rows, a ≠ lp → ∀ o, H1 a = some o → upd H1 lp (.lst ((people ++ [z]).map V.str)) a = some o := fun a _ e o h => by rw [upd_ne e]; exact h
        generalize upd H1 lp (.lst ((people ++ [z]).map V.str)) = H2 at *
        have nlp : ∀ a ∈ lw :: (rows.map (·.b) ++ rows.map (·.w2)), a ≠ lp := fun a ha e => (List.nodup_cons.mp ndp).1 (by rw [← e]; exact ha)
        have b02 := (But.of (l := fpW lp lw rows) s1).trans b2
        have c2 := x.ch.but b02 fun a ha z => x.dis a z ha
        obtain ⟨dx, d1, d2, w, wt, X, efp⟩ := id c2
        walk_at "s1"
        refine k_meth X.at_ (lk_no (by decide +kernel)) ?_
        walk_at "s1"
        refine ⟨rfl, c, z, fp, s, rfl, c2, hz1, by rw [x.ep]; exact hz2, by omega, fun H8 fp8 c8 b8 n8 => ?_⟩
        obtain ⟨w1, w2, w3⟩ := x.next b02 (people' := people ++ [z]) (rows' := rows) (s' := { s with ps := s.ps ++ [(z, 0)] }) h2 (k2 _ fpW_l (nlp _ (by simp)) _ x1.hw) (fun r hr => ⟨k2 _ (fpW_b hr) (nlp _ (by simp only [List.mem_cons, List.mem_append]; exact .inr (.inl (List.mem_map.mpr ⟨r, hr, rfl⟩)))) _ (x1.hr r hr).1, k2 _ (fpW_w hr) (nlp _ (by simp only [List.mem_cons, List.mem_append]; exact .inr (.inr (List.mem_map.mpr ⟨r, hr, rfl⟩)))) _ (x1.hr r hr).2⟩)
          x.nd (fun a ha => .inl ha) c8 b8 n8 (by show List.map (fun p : Str × Int => p.1) (s.ps ++ [(z, 0)]) = _; rw [List.map_append, x.ep]; rfl) x.ec x.ew (fun r hr => ⟨(x.zs r hr).1, fun y hy => by simp [(x.zs r hr).2 y hy]⟩)
          (fun y hy => by
            rcases List.mem_append.mp hy with hy | hy
            · exact x.nm y hy
            · rw [List.mem_singleton.mp hy]; exact hz1) x.nn (by rw [List.length_append, List.length_singleton]; omega) x.lr (Nat.le_succ_of_le x.wl)
        exact q H8 fp8 _ _ _ w1 w2 w3
      · walk_at "s1"
        exact hF _ _ ⟨rfl, _, rfl⟩
    · walk_at "s1"
      exact hF _ _ ⟨rfl, _, rfl⟩
  rintro σ _ ⟨rfl, v5, rfl⟩
  with_reducible refine r_seq ?_
  walk_at "s1"
  rename_i p4 H4 f4 s4 h4
  have x4 := x.same s4
  by_cases hp : people = []
  · refine L2.r_neS (d := .list []) (n := 2) (by have : DatIs K H4 (.ref lp) (.list (people.map PyData.str)) := .lst (SqL.of x4.hp) (dat_strs _)
                                                 rw [hp] at this; exact this) (.lst (SqL.of h4) .nil) (nd_list fun d hd => by cases hd) (by decide) ?_
    walk_at "s1"
    refine q H4 fp s people rows ⟨x4.ch, x4.hp, x4.hw, x4.hr, x4.nd, x4.dis, x4.ep, x4.ec, x4.ew, x4.zs, x4.nm, x4.nn, x4.le, x4.lr, Nat.le_succ_of_le x4.wl⟩ (But.of s4) New.refl
  · have hpos : 0 < people.length := List.length_pos_iff.mpr hp
    refine L2.r_neDD (n := 2) (d := .list (people.map PyData.str)) (e := .list []) (.lst (SqL.of x4.hp) (dat_strs _)) (.lst (SqL.of h4) .nil) ((nd_strs _ aP).mono (by decide)) (nd_list fun d hd => by cases hd) (by decide) ?_
    rw [same_ff (fun e => hp (by
      have e := PyData.list.inj e
      exact List.map_eq_nil_iff.mp e))]
    have qx4 := s4.seq qx
    have qp4 := s4.seq qp
    walk_at "s1"
    with_reducible refine r_seq ?_
    walk_at "s1"
    refine r_ix qx4 (gx 1 (by decide)) ?_
    walk_at "s1"
    rw [hpm]
    obtain ⟨j, hj, hjl⟩ : ∃ j : Nat, xs.getD 1 0 % (people.length : Int) = (j : Int) ∧ j < people.length := by
      have a1 := Int.emod_nonneg (xs.getD 1 0) (show (people.length : Int) ≠ 0 by omega)
      have a2 := Int.emod_lt_of_pos (xs.getD 1 0) (show 0 < (people.length : Int) by omega)
      exact ⟨(xs.getD 1 0 % (people.length : Int)).toNat, by omega, by omega⟩
    rw [hj]
    have hjs : people[j]? = some people[j] := List.getElem?_eq_getElem hjl
    refine r_ix qp4 (atI_nat (j := j) (v := .str people[j]) (by simp [hjl])) ?_
    have hin : people[j] ∈ people := List.getElem_mem hjl
    generalize people[j] = name at *
    walk_at "s1"
    with_reducible refine r_seq ?_
    walk_at "s1"
    refine ⟨tyL x4.hp, ?_⟩
    walk_at "s1"
    refine r_removeS x4.hp x.np hjs aP ?_
    have ndp := x.nd
    have nlp : ∀ a ∈ lw :: (rows.map (·.b) ++ rows.map (·.w2)), a ≠ lp := fun a ha e => (List.nodup_cons.mp ndp).1 (by rw [← e]; exact ha)
    have b5 : But (fpW lp lw rows) H4 (upd H4 lp (.lst ((people.filter fun z => decide (z ≠ name)).map V.str))) := But.upd x4.hp (by intro xs z; cases z) fpW_p
    have h5 : upd H4 lp (.lst ((people.filter fun z => decide (z ≠ name)).map V.str)) lp = some (.lst ((people.filter fun z => decide (z ≠ name)).map V.str)) := upd_same
    have k5 : ∀ a ∈ lw :: (rows.map (·.b) ++ rows.map (·.w2)), ∀ o, H4 a = some o → upd H4 lp (.lst ((people.filter fun z => decide (z ≠ name)).map V.str)) a = some o := fun a ha o h => by rw [upd_ne (nlp a ha)]; exact h
    generalize upd H4 lp (.lst ((people.filter fun z => decide (z ≠ name)).map V.str)) = H5 at *
    have hw5 : H5 lw = some (.lst (rows.map fun r => V.ref r.b)) := k5 _ (by simp) _ x4.hw
    have memb : ∀ r ∈ rows, r.b ∈ rows.map (·.b) ∧ r.w2 ∈ rows.map (·.w2) := fun r hr => ⟨List.mem_map.mpr ⟨r, hr, rfl⟩, List.mem_map.mpr ⟨r, hr, rfl⟩⟩
    have hr5 : ∀ r ∈ rows, WkAt H5 r := fun r hr => ⟨k5 _ (by simp [memb r hr]) _ (x4.hr r hr).1, k5 _ (by simp [memb r hr]) _ (x4.hr r hr).2⟩
    have nd1 := (List.nodup_cons.mp ndp).2
    have nlw : ∀ a ∈ rows.map (·.b) ++ rows.map (·.w2), a ≠ lw := fun a ha e => (List.nodup_cons.mp nd1).1 (by rw [← e]; exact ha)
    have nd2 := (List.nodup_cons.mp nd1).2
    obtain ⟨ndb, ndw, nbw⟩ := List.nodup_append.mp nd2
    have hlr : (rows.map fun r => V.ref r.b).length = rows.length := by simp
    have q5 : SqL K H5 lw (rows.map fun r => V.ref r.b) := SqL.of hw5
    with_reducible refine r_cut (fun σ H' => But (rows.map (·.w2)) H5 H' ∧ (∀ r ∈ rows, H' r.w2 = some (.lst ((dropZ name r).zs.map V.str))) ∧ ∃ v6, σ = [some (.ref c), some (.ref lp), some (.ref lw), some (.ref lx), some (.int cell), some (.str name), v6]) (fun F hF => ?_) ?_
    · walk_at "s1"
      refine for_ys (ys_list (K := K) (xs := rows.map fun r => V.ref r.b) 6) (fun i σ H' => But (rows.map (·.w2)) H5 H' ∧ (∀ k (hk : k < rows.length), H' (rows[k]).w2 = some (.lst ((if k < i then (dropZ name rows[k]).zs else (rows[k]).zs).map V.str))) ∧ ∃ v6, σ = [some (.ref c), some (.ref lp), some (.ref lw), some (.ref lx), some (.int cell), some (.str name), v6])
        ⟨But.of (Same.refl _), fun k hk => by rw [if_neg (by omega)]; exact (hr5 _ (List.getElem_mem hk)).2, _, rfl⟩ (fun i σ H' p => SqL.of (p.1.1 _ _ (fun m => nlw lw (by simp only [List.mem_append]; exact .inr m) rfl) hw5)) ?_ ?_
      · rintro i σ H6 H7 hi ⟨b6, hz, v6, rfl⟩ s7
        rw [hlr] at hi
        have et : (rows.map fun r => V.ref r.b).getD i .non = .ref (rows[i]).b := by simp [List.getD, hi]
        rw [et]
        have hri := List.getElem_mem hi
        have hb7 : H7 (rows[i]).b = some (.lst [.str (rows[i]).n, .int (rows[i]).c, .ref (rows[i]).w2]) := s7 _ _ (b6.1 _ _ (fun m => nbw _ (memb _ hri).1 _ m rfl) (hr5 _ hri).1)
        have hz7 : H7 (rows[i]).w2 = some (.lst ((rows[i]).zs.map V.str)) := s7 _ _ (by rw [hz i hi, if_neg (by omega)])
        have fin : ∀ H9, But (rows.map (·.w2)) H7 H9 → H9 (rows[i]).w2 = some (.lst ((dropZ name rows[i]).zs.map V.str)) → (∀ a, a ≠ (rows[i]).w2 → ∀ o, H7 a = some o → H9 a = some o) → ∀ k (hk : k < rows.length), H9 (rows[k]).w2 = some (.lst ((if k < i + 1 then (dropZ name rows[k]).zs else (rows[k]).zs).map V.str)) := fun H9 _ g1 g2 k hk => by
          by_cases e : k = i
          · subst e
            rw [if_pos (by omega)]; exact g1
          · have : (rows[k]).w2 ≠ (rows[i]).w2 := fun z => by
              rcases Nat.lt_or_gt_of_ne e with h | h
              · exact List.pairwise_iff_getElem.mp ndw k i (by simpa using hk) (by simpa using hi) h (by simpa using z)
              · exact List.pairwise_iff_getElem.mp ndw i k (by simpa using hi) (by simpa using hk) h (by simpa using z.symm)
            have h1 := g2 _ this _ (s7 _ _ (hz k hk))
            rw [h1]
            by_cases h : k < i
            · rw [if_pos h, if_pos (by omega)]
            · rw [if_neg h, if_neg (by omega)]
        show tIfS _ _ _ _ _ _
        walk_at "s1"
        refine r_ix (SqL.of hb7) (atI_nat (j := 2) rfl) ?_
        refine r_inSt (SqL.of hz7) ?_
        walk_at "s1"
        refine iteD (fun hin2 => ?_) (fun hin2 => ?_)
        · walk_at "s1"
          refine r_ix (SqL.of hb7) (atI_nat (j := 2) rfl) ?_
          refine ⟨tyL hz7, ?_⟩
          walk_at "s1"
          obtain ⟨jz, hjz, ejz⟩ := List.getElem_of_mem hin2
          refine r_removeS hz7 (x.zs _ hri).1 (show (rows[i]).zs[jz]? = some name by rw [List.getElem?_eq_getElem hjz, ejz]) (fun z hz => aP z ((x.zs _ hri).2 z hz)) ?_
          have b9 : But (rows.map (·.w2)) H7 (upd H7 (rows[i]).w2 (.lst (((rows[i]).zs.filter fun z => decide (z ≠ name)).map V.str))) := But.upd hz7 (by intro xs z; cases z) (memb _ hri).2
          exact ⟨(b6.trans (But.of s7)).trans b9, fin _ b9 upd_same fun a e o h => by rw [upd_ne e]; exact h, _, rfl⟩
        · walk_at "s1"
          refine ⟨b6.trans (But.of s7), fin H7 (But.of (Same.refl _)) ?_ (fun a _ o h => h), _, rfl⟩
          have : (dropZ name rows[i]).zs = (rows[i]).zs := List.filter_eq_self.mpr fun z hz => decide_eq_true fun e => hin2 (by rw [← e]; exact hz)
          rw [this]; exact hz7
      · rintro σ H6 ⟨b6, hz, v6, rfl⟩
        refine hF _ _ ⟨b6, fun r hr => ?_, v6, rfl⟩
        obtain ⟨k, hk, rfl⟩ := List.getElem_of_mem hr
        have := hz k hk
        rw [if_pos (by rw [hlr]; exact hk)] at this
        exact this
    rintro σ H6 ⟨b6, hz, v6, rfl⟩
    have b46 := b5.trans (b6.mono fun a ha => by unfold fpW; simp only [List.mem_cons, List.mem_append]; exact .inr (.inr (.inr ha)))
    have b06 := (But.of (l := fpW lp lw rows) s4).trans b46
    have c6 := x.ch.but b06 fun a ha z => x.dis a z ha
    obtain ⟨dx, d1, d2, w, wt, X, efp⟩ := id c6
    obtain ⟨p, hpm', epn⟩ := List.mem_map.mp (show name ∈ s.ps.map (·.1) by rw [x.ep]; exact hin)
    walk_at "s1"
    refine k_meth X.at_ (lk_no (by decide +kernel)) ?_
    walk_at "s1"
    refine ⟨rfl, c, name, p.2, fp, s, rfl, c6, by rw [← epn]; exact hpm', Nat.le_trans x.wl (by omega), fun H8 fp8 c8 b8 n8 => ?_⟩
    have hlp6 : lp ∉ rows.map (·.w2) := fun m => nlp lp (by simp only [List.mem_cons, List.mem_append]; exact .inr (.inr m)) rfl
    have hlw6 : lw ∉ rows.map (·.w2) := fun m => nlw lw (by simp only [List.mem_append]; exact .inr m) rfl
    obtain ⟨w1, w2, w3⟩ := x.next b06 (people' := people.filter fun z => decide (z ≠ name)) (rows' := rows.map (dropZ name)) (s' := leaveS s name p.2) (b6.1 _ _ hlp6 h5) (by rw [b6.1 _ _ hlw6 hw5, List.map_map]; rfl) (fun r hr => by
        obtain ⟨r', hr', rfl⟩ := List.mem_map.mp hr
        exact ⟨b6.1 _ _ (fun m => nbw _ (memb _ hr').1 _ m rfl) (hr5 _ hr').1, hz r' hr'⟩)
      (by rw [dropZ_fp]; exact x.nd) (fun a ha => by rw [dropZ_fp] at ha; exact .inl ha) c8 b8 n8
      (by rw [← x.ep, List.filter_map]; rfl) (by show s.cs = _; rw [x.ec, List.map_map]; rfl)
      (fun v n => by
        show (v, n) ∈ s.ws.filter (fun p => !decide (p.1 = name)) ↔ _
        rw [List.mem_filter, x.ew v n]
        constructor
        · rintro ⟨⟨r, h1, h2, h3⟩, h4⟩
          exact ⟨dropZ name r, List.mem_map.mpr ⟨r, h1, rfl⟩, h2, List.mem_filter.mpr ⟨h3, by simpa using h4⟩⟩
        · rintro ⟨r', h1, h2, h3⟩
          obtain ⟨r, hr, rfl⟩ := List.mem_map.mp h1
          obtain ⟨h5, h6⟩ := List.mem_filter.mp h3
          exact ⟨⟨r, hr, h2, h5⟩, by simpa using h6⟩)
      (fun r hr => by
        obtain ⟨r', hr', rfl⟩ := List.mem_map.mp hr
        refine ⟨List.Nodup.sublist List.filter_sublist (x.zs r' hr').1, fun z hz => ?_⟩
        obtain ⟨h5, h6⟩ := List.mem_filter.mp hz
        exact List.mem_filter.mpr ⟨(x.zs r' hr').2 z h5, h6⟩)
      (fun z hz => x.nm z (List.mem_filter.mp hz).1) (fun r hr => by
        obtain ⟨r', hr', rfl⟩ := List.mem_map.mp hr
        exact x.nn r' hr') (Nat.le_trans (List.length_filter_le _ _) x.le) (by rw [List.length_map]; exact x.lr) (Nat.le_trans (List.length_filter_le _ _) (Nat.le_succ_of_le x.wl))
    exact q H8 fp8 _ _ _ w1 w2 w3

theorem rk_check_coins : ∀ vs H Q E, sp_check_coins K vs H Q E → rd_check_coins K { nx := fun _ H' => Q .non H', rt := Q } (start ["coins", "least"] vs) H := by
  rintro vs H Q E ⟨_, x, y, rfl, h1, h2, q⟩
  unfold rd_check_coins
  walk_at "s1"
  refine iteN (by omega) ?_
  walk_at "s1"
  refine iteN (by omega) ?_
  walk_at "s1"
  exact q

theorem rk_Chest_propose (C : Cls K) : ∀ vs H Q E, sp_Chest_propose K vs H Q E → rd_Chest_propose K { nx := fun _ H' => Q .non H', rt := Q } (start ["self", "work", "cost"] vs) H := by
  rintro vs H Q E ⟨_, c, n, x, fp, s, rfl, ⟨dx, d1, d2, w, wt, X, rfl⟩, hn, hm, h0, h1, hl, q⟩
  unfold rd_Chest_propose
  with_reducible refine r_seq ?_
  walk_at "s1"
  refine k_fld X.at_ C.o_Chest C.n_Chest_costs lk_costs ?_
  walk_at "s1"
  refine ⟨rfl, n, d2, _, rfl, hn, X.p2, kvI_val hm, fun H1 s1 => ?_⟩
  have x1 := X.same s1
  walk_at "s1"
  with_reducible refine r_seq ?_
  walk_at "s1"
  refine ⟨rfl, x, 1, rfl, h0, h1, ?_⟩
  walk_at "s1"
  with_reducible refine r_seq ?_
  walk_at "s1"
  refine k_fld x1.at_ C.o_Chest C.n_Chest_costs lk_costs ?_
  walk_at "s1"
  refine ⟨rfl, d2, _, 12, rfl, x1.p2, by rw [kvI_len]; omega, ?_⟩
  walk_at "s1"
  refine k_fld x1.at_ C.o_Chest C.n_Chest_costs lk_costs ?_
  walk_at "s1"
  refine k_dput x1.p2 (by rw [kvI_len]; exact Nat.lt_of_lt_of_le (show _ < 1000 by omega) line64) ?_
  rw [kvI_put hm]
  refine q _ [c, d1, d2, w] ⟨dx, d1, d2, w, wt, x1.setC (cs := s.cs ++ [(n, x)]) ?_, rfl⟩ ((But.of s1).trans (But.upd x1.p2 (by intro xs z; cases z) (by simp))) New.refl
  rw [List.map_append]
  exact nd_snoc X.nd2 hm

theorem rk_Chest_withdraw (C : Cls K) : ∀ vs H Q E, sp_Chest_withdraw K vs H Q E → rd_Chest_withdraw K { nx := fun _ H' => Q .non H', rt := Q } (start ["self", "work"] vs) H := by
  rintro vs H Q E ⟨_, c, n, x, fp, s, rfl, ⟨dx, d1, d2, w, wt, X, rfl⟩, hm, hw, q⟩
  unfold rd_Chest_withdraw
  with_reducible refine r_seq ?_
  walk_at "s1"
  refine k_meth X.at_ (lk_no (by decide +kernel)) ?_
  walk_at "s1"
  refine ⟨rfl, c, n, _, s, rfl, ⟨dx, d1, d2, w, wt, X, rfl⟩, List.mem_map.mpr ⟨_, hm, rfl⟩, ?_⟩
  walk_at "s1"
  with_reducible refine r_seq ?_
  walk_at "s1"
  refine k_fld X.at_ C.o_Chest C.n_Chest_costs lk_costs ?_
  refine ⟨d2, rfl, .inl ⟨_, .inl X.p2⟩, ?_⟩
  walk_at "s1"
  refine ⟨_, .inr n, .int x, X.p2, rfl, kvI_at X.nd2 hm, ?_⟩
  rw [kvI_drop]
  have X2 := X.setC (cs := s.cs.filter fun p => decide (p.1 ≠ n)) (nd_filt X.nd2)
  have b1 : But [c, d1, d2, w] H (upd H d2 (.dK (kvI (s.cs.filter fun p => decide (p.1 ≠ n))))) := But.upd X.p2 (by intro xs z; cases z) (by simp)
  generalize upd H d2 (.dK (kvI (s.cs.filter fun p => decide (p.1 ≠ n)))) = H2 at *
  walk_at "s1"
  refine k_fld X2.at_ C.o_Chest C.n_Chest_wishes lk_wishes ?_
  refine ⟨w, rfl, ⟨_, SqL.of X2.w_⟩, ?_⟩
  have hwl : s.ws.length = wt.length := Paired.length X.wt
  refine comp_tupsVY (ys_list2 (K := K) (a := w) (ts := wt) (u := fun i => .str (s.ws.getD i ("", "")).1) (v := fun i => .str (s.ws.getD i ("", "")).2) 0 1) (fun i => [some (.str (s.ws.getD i ("", "")).1), some (.str (s.ws.getD i ("", "")).2), some (.str n)]) (by rintro j σ' (rfl | ⟨k, rfl⟩) <;> rfl) ?_ (Nat.le_trans (show _ ≤ 1000 by omega) line64)
    (fun i => !decide ((s.ws.getD i ("", "")).2 = n)) (fun i => [.str (s.ws.getD i ("", "")).1, .str (s.ws.getD i ("", "")).2]) ?_ ?_ ?_
  · intro H' s'
    refine ⟨s'.seq (SqL.of X2.w_), fun i b hb => ?_⟩
    have hi : i < s.ws.length := by rw [hwl]; exact (List.getElem?_eq_some_iff.mp hb).1
    obtain ⟨b', z1, z2⟩ := pair_get X2.wt (List.getElem?_eq_getElem hi)
    rw [hb] at z1
    cases z1
    rw [List.getD_eq_getElem?_getD, List.getElem?_eq_getElem hi]
    exact s'.seqT (SqT.of z2)
  · intro i hi H' G s' kk
    walk_at "s1"
    exact kk H' (Same.refl _)
  · intro i hi hb H' G s' kk
    walk_at "s1"
    rename_i a H'' f s'' h
    exact kk a H'' f s'' h
  intro l bs H3 f3 s3 h3 pr
  have X3 := X2.same s3
  rw [← hwl] at pr
  have hp : Paired (TpS H3) (s.ws.filter fun p => !decide (p.2 = n)) bs := by
    rw [← range_filt (fun p : Str × Str => !decide (p.2 = n)) ("", "") s.ws]
    exact paired_mapR pr
  walk_at "s1"
  refine k_sto X3.at_ C.o_Chest C.n_Chest_wishes (show 6 < 1000 by decide) ?_
  rw [pf_wishes]
  have X4 := X3.setW h3 hp
  refine q _ [c, d1, d2, l] ⟨dx, d1, d2, l, bs, X4, rfl⟩ ((b1.trans (But.of s3)).trans (But.upd X3.at_ (by intro xs z; cases z) (by simp))) ?_
  intro a ha
  simp only [List.mem_cons, List.not_mem_nil, or_false] at ha
  rcases ha with rfl | rfl | rfl | rfl
  · exact .inl (by simp)
  · exact .inl (by simp)
  · exact .inl (by simp)
  · exact .inr (b1.2.2 _ f3)

theorem rk__law_cost : ∀ vs H Q E, sp__law_cost K vs H Q E → rd__law_cost K { nx := fun _ H' => Q .non H', rt := Q } (start ["x"] vs) H := by
  rintro vs H Q E ⟨_, x, rfl, q⟩
  unfold rd__law_cost
  with_reducible refine r_seq ?_
  walk_at "s1"
  refine iteD (fun h0 => ?_) (fun h0 => ?_)
  · walk_at "s1"
    rename_i l H1 f1 s1 h1
    obtain ⟨r, hr, hr3⟩ : ∃ r : Nat, x / 4 % 4 = (r : Int) ∧ r < 4 := ⟨(x / 4 % 4).toNat, by omega, by omega⟩
    rw [hr]
    obtain ⟨kd, hk, k0, k1⟩ : ∃ kd : Int, ([V.int 1, V.int 2, V.int (10 ^ 9), V.int (10 ^ 9 - 1)] : List V)[r]? = some (.int kd) ∧ 1 ≤ kd ∧ kd ≤ 1000000000 := by
      have : r = 0 ∨ r = 1 ∨ r = 2 ∨ r = 3 := by omega
      rcases this with rfl | rfl | rfl | rfl
      · exact ⟨1, rfl, by omega, by omega⟩
      · exact ⟨2, rfl, by omega, by omega⟩
      · exact ⟨_, rfl, by omega, by omega⟩
      · exact ⟨_, rfl, by omega, by omega⟩
    refine r_ix (SqL.of h1) (atI_nat (j := r) hk) ?_
    exact q kd H1 s1 k0 k1
  walk_at "v"
  refine iteD (fun h1 => ?_) (fun h1 => ?_)
  · walk_at "s1"
    exact q _ H (Same.refl _) (by omega) (by omega)
  walk_at "s1"
  have e10 : (10 : Int) ^ Int.toNat 9 = 1000000000 := by decide
  rw [e10]
  refine q _ H (Same.refl _) ?_ ?_ <;> omega

theorem dat_rw {H : Hp} {r : WkR} (h : WkAt H r) : DatIs K H (.ref r.b) (dRw r) := .lst (SqL.of h.1) (.cons (.str _) (.cons (.int _) (.cons (.lst (SqL.of h.2) (dat_strs _)) .nil)))
theorem dat_rws {H : Hp} : ∀ {rows : List WkR}, (∀ r ∈ rows, WkAt H r) → DatAll K H (rows.map fun r : WkR => V.ref r.b) (rows.map dRw)
  | [], _ => .nil
  | r :: t, h => .cons (dat_rw (h r (by simp))) (dat_rws fun r' hr => h r' (by simp [hr]))
theorem nd_rw {r : WkR} (h1 : Ascii r.n) (h2 : ∀ z ∈ r.zs, Ascii z) : niceD 2 (dRw r) := nd_list fun e he => by
  rcases List.mem_cons.mp he with rfl | he
  · exact nd_str h1
  · rcases List.mem_cons.mp he with rfl | he
    · exact nd_int _
    · rcases List.mem_cons.mp he with rfl | he
      · exact nd_strs _ h2
      · cases he
theorem rk__law_of_works : ∀ vs H Q E, sp__law_of_works K vs H Q E → rd__law_of_works K { nx := fun _ H' => Q .non H', rt := Q } (start ["chest", "works", "xs", "cell", "name", "work"] vs) H := by
  rintro vs H Q E ⟨_, c, lp, lw, lx, cell, xs, fp, s, people, rows, m, rfl, x, hm, hx, hxl, q⟩
  have hlr := x.lr
  have gx : ∀ j, j < 4 → atI (xs.map V.int) (j : Nat) = some (.int (xs.getD j 0)) := fun j hj => atI_nat (by simp [List.getD, hxl, hj])
  have qx : SqL K H lx (xs.map V.int) := SqL.of hx
  have qw : SqL K H lw (rows.map fun r : WkR => V.ref r.b) := SqL.of x.hw
  have hrm : (rows.map fun r : WkR => V.ref r.b).length = rows.length := by simp
  have hcl : s.cs.length = rows.length := by rw [x.ec, List.length_map]
  have hcn : s.cs.map (·.1) = rows.map (·.n) := by rw [x.ec, List.map_map]; rfl
  have aN : ∀ r ∈ rows, Ascii r.n := fun r hr => nm_ascii (x.nn r hr)
  have aZ : ∀ r ∈ rows, ∀ z ∈ r.zs, Ascii z := fun r hr z hz => nm_ascii (x.nm z ((x.zs r hr).2 z hz))
  have ndp := x.nd
  have nlp : ∀ a ∈ lw :: (rows.map (·.b) ++ rows.map (·.w2)), a ≠ lp := fun a ha e => (List.nodup_cons.mp ndp).1 (by rw [← e]; exact ha)
  have nd1 := (List.nodup_cons.mp ndp).2
  have nlw : ∀ a ∈ rows.map (·.b) ++ rows.map (·.w2), a ≠ lw := fun a ha e => (List.nodup_cons.mp nd1).1 (by rw [← e]; exact ha)
  have nd2 := (List.nodup_cons.mp nd1).2
  obtain ⟨ndb, ndw, nbw⟩ := List.nodup_append.mp nd2
  have memb : ∀ r ∈ rows, r.b ∈ rows.map (·.b) ∧ r.w2 ∈ rows.map (·.w2) := fun r hr => ⟨List.mem_map.mpr ⟨r, hr, rfl⟩, List.mem_map.mpr ⟨r, hr, rfl⟩⟩
  unfold rd__law_of_works
  with_reducible refine r_cut (fun σ H' => H = H' ∧ ∃ v4, σ = [some (.ref c), some (.ref lw), some (.ref lx), some (.int cell), v4, none]) (fun F hF => ?_) ?_
  · walk_at "s1"
    refine r_ix qx (gx 0 (by decide)) ?_
    walk_at "s1"
    refine iteD (fun hc => ?_) (fun hc => ?_)
    · walk_at "s1"
      rw [hrm]
      refine iteD (fun hc2 => ?_) (fun hc2 => ?_)
      · have hc2 : rows.length < 12 := by omega
        with_reducible refine r_seq ?_
        walk_at "s1"
        refine comp_mapY (ys_list (K := K) (a := lw) (xs := rows.map fun r : WkR => V.ref r.b) 0) (fun i => [some ((rows.map fun r : WkR => V.ref r.b).getD i .non)]) (by rintro j σ' (rfl | ⟨k, rfl⟩) <;> rfl) (fun H' s' => s'.seq qw) (by rw [hrm]; exact Nat.le_trans (show _ ≤ 1000 by omega) line64) (fun i => .str (rows.getD i ⟨0, 0, "", 0, []⟩).n) ?_ ?_
        · intro i hi H' G s' kk
          rw [hrm] at hi
          have et : (rows.map fun r : WkR => V.ref r.b).getD i .non = .ref (rows[i]).b := by simp [List.getD, hi]
          have eg : rows.getD i ⟨0, 0, "", 0, []⟩ = rows[i] := by rw [List.getD_eq_getElem?_getD, List.getElem?_eq_getElem hi]; rfl
          rw [eg] at kk
          rw [et]
          walk_at "s1"
          refine r_ix (SqL.of (s' _ _ (x.hr _ (List.getElem_mem hi)).1)) (atI_nat (j := 0) rfl) ?_
          exact kk H' (Same.refl _)
        intro l1 H1 f1 s1 h1
        rw [hrm, range_getD' (fun r : WkR => V.str r.n) ⟨0, 0, "", 0, []⟩ rows, show rows.map (fun r => V.str r.n) = (rows.map (·.n)).map V.str by rw [List.map_map]; rfl] at h1
        have qx1 := s1.seq qx
        walk_at "s1"
        refine r_ix qx1 (gx 1 (by decide)) ?_
        walk_at "s1"
        refine ⟨rfl, l1, cell, _, rows.map (·.n), rfl, h1, by rw [List.length_map]; omega, fun z H2 s2 hz1 hz2 => ?_⟩
        have s02 := s1.trans s2
        have x2 := x.same s02
        have qx2 := s02.seq qx
        walk_at "s1"
        with_reducible refine r_seq ?_
        walk_at "s1"
        refine ⟨tyL x2.hw, ?_⟩
        walk_at "s1"
        refine r_ix qx2 (gx 2 (by decide)) ?_
        walk_at "s1"
        refine ⟨rfl, _, rfl, fun cost H3 s3 c0 c1 => ?_⟩
        walk_at "s1"
        rename_i w4 H4 f4 s4 h4 b5 H5 f5 s5 h5
        have s05 := ((s02.trans s3).trans s4).trans s5
        have x5 := x.same s05
        refine r_appendN x5.hw (by rw [hrm]; exact Nat.lt_of_lt_of_le (show _ < 1000 by omega) line64) ?_
        have fw : H w4 = none := (s02.trans s3).free f4
        have fb : H b5 = none := ((s02.trans s3).trans s4).free f5
        have hwb : w4 ≠ b5 := ne_of_free h4 f5
        have o5 : ∀ a ∈ fpW lp lw rows, a ≠ w4 ∧ a ≠ b5 := fun a ha => ⟨fun e => x.there a (by simp [ha]) (by rw [e]; exact fw), fun e => x.there a (by simp [ha]) (by rw [e]; exact fb)⟩
        rw [show (rows.map fun r : WkR => V.ref r.b) ++ [V.ref b5] = (rows ++ [WkR.mk b5 w4 z cost []]).map fun r : WkR => V.ref r.b by simp]
        have b6 : But (fpW lp lw rows) H5 (upd H5 lw (.lst ((rows ++ [WkR.mk b5 w4 z cost []]).map fun r : WkR => V.ref r.b))) := But.upd x5.hw (by intro xs z; cases z) fpW_l
        have h6 : upd H5 lw (.lst ((rows ++ [WkR.mk b5 w4 z cost []]).map fun r : WkR => V.ref r.b)) lw = some (.lst ((rows ++ [WkR.mk b5 w4 z cost []]).map fun r : WkR => V.ref r.b)) := upd_same
        have k6 : ∀ a, a ≠ lw → ∀ o, H5 a = some o → upd H5 lw (.lst ((rows ++ [WkR.mk b5 w4 z cost []]).map fun r : WkR => V.ref r.b)) a = some o := fun a e o h => by rw [upd_ne e]; exact h
        generalize upd H5 lw (.lst ((rows ++ [WkR.mk b5 w4 z cost []]).map fun r : WkR => V.ref r.b)) = H6 at *
        have hb6 : H6 b5 = some (.lst [.str z, .int cost, .ref w4]) := k6 _ (Ne.symm (o5 _ fpW_l).2) _ h5
        have hw6 : H6 w4 = some (.lst ([] : List V)) := k6 _ (Ne.symm (o5 _ fpW_l).1) _ (s5 _ _ h4)
        have b06 := (But.of (l := fpW lp lw rows) s05).trans b6
        have c6 := x.ch.but b06 fun a ha z => x.dis a z ha
        obtain ⟨dx, d1, d2, w, wt, X, efp⟩ := id c6
        walk_at "s1"
        refine k_meth X.at_ (lk_no (by decide +kernel)) ?_
        walk_at "s1"
        refine r_ix (SqL.of h6) (v := .ref b5) (by rw [List.map_append]; exact atI_last _ _) ?_
        walk_at "s1"
        refine r_ix (SqL.of hb6) (atI_nat (j := 1) rfl) ?_
        walk_at "s1"
        refine ⟨rfl, c, z, cost, fp, s, rfl, c6, hz1, by rw [hcn]; exact hz2, c0, c1, by omega, fun H8 fp8 c8 b8 n8 => ?_⟩
        have efp' : fpW lp lw (rows ++ [WkR.mk b5 w4 z cost []]) = lp :: lw :: (rows.map (·.b) ++ [b5] ++ (rows.map (·.w2) ++ [w4])) := by unfold fpW; simp
        obtain ⟨w1, w2, w3⟩ := x.next b06 (people' := people) (rows' := rows ++ [WkR.mk b5 w4 z cost []]) (s' := { s with cs := s.cs ++ [(z, cost)] }) (k6 _ (Ne.symm (nlp lw (by simp))) _ x5.hp) h6 (fun r hr => by
            rcases List.mem_append.mp hr with hr | hr
            · exact ⟨k6 _ (nlw _ (by simp [memb r hr])) _ (x5.hr r hr).1, k6 _ (nlw _ (by simp [memb r hr])) _ (x5.hr r hr).2⟩
            · rw [List.mem_singleton.mp hr]; exact ⟨hb6, hw6⟩)
          (by
            rw [efp']
            have p1 : ∀ a ∈ fpW lp lw rows, a ≠ b5 := fun a ha => (o5 a ha).2
            have p2 : ∀ a ∈ fpW lp lw rows, a ≠ w4 := fun a ha => (o5 a ha).1
            have perm : (lp :: lw :: (rows.map (·.b) ++ [b5] ++ (rows.map (·.w2) ++ [w4]))).Perm (b5 :: w4 :: fpW lp lw rows) := by
              unfold fpW
              have e1 : (rows.map (·.b) ++ [b5] ++ (rows.map (·.w2) ++ [w4])).Perm (b5 :: w4 :: (rows.map (·.b) ++ rows.map (·.w2))) := by
                have a1 : (rows.map (·.b) ++ [b5] ++ (rows.map (·.w2) ++ [w4])) = rows.map (·.b) ++ b5 :: (rows.map (·.w2) ++ [w4]) := by simp
                rw [a1]
                refine List.perm_middle.trans (List.Perm.cons _ ?_)
                rw [← List.append_assoc]
                exact List.perm_append_comm
              exact ((e1.cons lw).cons lp).trans (by
                refine (List.Perm.cons lp (List.Perm.swap b5 lw _)).trans ((List.Perm.swap b5 lp _).trans (List.Perm.cons b5 ?_))
                refine (List.Perm.cons lp (List.Perm.swap w4 lw _)).trans (List.Perm.swap w4 lp _))
            refine perm.nodup_iff.mpr (List.nodup_cons.mpr ⟨fun m => ?_, List.nodup_cons.mpr ⟨fun m => p2 _ m rfl, x.nd⟩⟩)
            rcases List.mem_cons.mp m with e | m
            · exact hwb e.symm
            · exact p1 _ m rfl)
          (fun a ha => by
            rw [efp'] at ha
            simp only [List.mem_cons, List.mem_append, List.not_mem_nil, or_false] at ha
            unfold fpW
            simp only [List.mem_cons, List.mem_append]
            rcases ha with e | e | (e | e) | e | e
            · exact .inl (.inl e)
            · exact .inl (.inr (.inl e))
            · exact .inl (.inr (.inr (.inl e)))
            · rw [e]; exact .inr fb
            · exact .inl (.inr (.inr (.inr e)))
            · rw [e]; exact .inr fw)
          c8 b8 n8 x.ep (by show s.cs ++ [(z, cost)] = _; rw [x.ec]; simp) (fun v n => (x.ew v n).trans ⟨fun ⟨r, h1, h2⟩ => ⟨r, by simp [h1], h2⟩, fun ⟨r, h1, h2, h3⟩ => by
            rcases List.mem_append.mp h1 with h1 | h1
            · exact ⟨r, h1, h2, h3⟩
            · rw [List.mem_singleton.mp h1] at h3; cases h3⟩) (fun r hr => by
            rcases List.mem_append.mp hr with hr | hr
            · exact x.zs r hr
            · rw [List.mem_singleton.mp hr]; exact ⟨List.nodup_nil, fun z hz => by cases hz⟩) x.nm (fun r hr => by
            rcases List.mem_append.mp hr with hr | hr
            · exact x.nn r hr
            · rw [List.mem_singleton.mp hr]; exact hz1) x.le (by rw [List.length_append, List.length_singleton]; omega) (Nat.le_succ_of_le x.wl)
        exact q H8 fp8 _ _ _ w1 w2 w3
      · walk_at "s1"
        exact hF _ _ ⟨rfl, _, rfl⟩
    · walk_at "s1"
      exact hF _ _ ⟨rfl, _, rfl⟩
  rintro σ _ ⟨rfl, v4, rfl⟩
  with_reducible refine r_seq ?_
  walk_at "s1"
  rename_i p4 H4 f4 s4 h4
  have x4 := x.same s4
  have dw4 : DatIs K H4 (.ref lw) (.list (rows.map dRw)) := .lst (SqL.of x4.hw) (dat_rws x4.hr)
  have nw : niceD 3 (.list (rows.map dRw)) := nd_list fun d hd => by
    obtain ⟨r, hr, rfl⟩ := List.mem_map.mp hd
    exact nd_rw (aN r hr) (aZ r hr)
  by_cases hp : rows = []
  · refine L2.r_neS (d := .list []) (n := 2) (by rw [hp] at dw4; exact dw4) (.lst (SqL.of h4) .nil) (nd_list fun d hd => by cases hd) (by decide) ?_
    walk_at "s1"
    refine q H4 fp s people rows ⟨x4.ch, x4.hp, x4.hw, x4.hr, x4.nd, x4.dis, x4.ep, x4.ec, x4.ew, x4.zs, x4.nm, x4.nn, x4.le, x4.lr, Nat.le_succ_of_le x4.wl⟩ (But.of s4) New.refl
  · have hpos : 0 < rows.length := List.length_pos_iff.mpr hp
    refine L2.r_neDD (n := 3) dw4 (e := .list []) (.lst (SqL.of h4) .nil) nw (nd_list fun d hd => by cases hd) (by decide) ?_
    rw [same_ff (fun e => hp (by
      have e := PyData.list.inj e
      exact List.map_eq_nil_iff.mp e))]
    have qx4 := s4.seq qx
    have qw4 := s4.seq qw
    walk_at "s1"
    with_reducible refine r_seq ?_
    walk_at "s1"
    refine r_ix qx4 (gx 1 (by decide)) ?_
    walk_at "s1"
    rw [hrm]
    obtain ⟨j, hj, hjl⟩ : ∃ j : Nat, xs.getD 1 0 % (rows.length : Int) = (j : Int) ∧ j < rows.length := by
      have a1 := Int.emod_nonneg (xs.getD 1 0) (show (rows.length : Int) ≠ 0 by omega)
      have a2 := Int.emod_lt_of_pos (xs.getD 1 0) (show 0 < (rows.length : Int) by omega)
      exact ⟨(xs.getD 1 0 % (rows.length : Int)).toNat, by omega, by omega⟩
    rw [hj]
    have hin := List.getElem_mem hjl
    refine r_ix qw4 (atI_nat (j := j) (v := .ref (rows[j]).b) (by simp [hjl])) ?_
    walk_at "s1"
    with_reducible refine r_seq ?_
    walk_at "s1"
    refine ⟨tyL x4.hw, ?_⟩
    walk_at "s1"
    have hdj : (rows.map dRw)[j]? = some (dRw rows[j]) := by rw [List.getElem?_map, List.getElem?_eq_getElem hjl]; rfl
    have nr := x.nr
    refine ⟨lw, _, _, rows.map dRw, dRw rows[j], j, rfl, rfl, x4.hw, dat_rws x4.hr, dat_rw (x4.hr _ hin), nw.mono (by decide), (nd_rw (aN _ hin) (aZ _ hin)).mono (by decide), hdj, fun k hk e => ?_, ?_⟩
    · rw [List.getElem?_map, List.getElem?_eq_getElem (show k < rows.length by omega)] at e
      have e : (rows[k]).n = (rows[j]).n := by
        have e := Option.some.inj e
        unfold dRw at e
        simp at e
        exact e.1
      exact List.pairwise_iff_getElem.mp nr k j (by simp; omega) (by simpa using hjl) hk (by simpa using e)
    have ee : ((rows.map fun r : WkR => V.ref r.b).eraseIdx j) = (rows.eraseIdx j).map fun r : WkR => V.ref r.b := erase_map _ _ _
    rw [ee]
    have b5 : But (fpW lp lw rows) H4 (upd H4 lw (.lst ((rows.eraseIdx j).map fun r : WkR => V.ref r.b))) := But.upd x4.hw (by intro xs z; cases z) fpW_l
    have h5 : upd H4 lw (.lst ((rows.eraseIdx j).map fun r : WkR => V.ref r.b)) lw = some (.lst ((rows.eraseIdx j).map fun r : WkR => V.ref r.b)) := upd_same
    have k5 : ∀ a, a ≠ lw → ∀ o, H4 a = some o → upd H4 lw (.lst ((rows.eraseIdx j).map fun r : WkR => V.ref r.b)) a = some o := fun a e o h => by rw [upd_ne e]; exact h
    generalize upd H4 lw (.lst ((rows.eraseIdx j).map fun r : WkR => V.ref r.b)) = H5 at *
    have b05 := (But.of (l := fpW lp lw rows) s4).trans b5
    have c5 := x.ch.but b05 fun a ha z => x.dis a z ha
    obtain ⟨dx, d1, d2, w, wt, X, efp⟩ := id c5
    have hb5 : H5 (rows[j]).b = some (.lst [.str (rows[j]).n, .int (rows[j]).c, .ref (rows[j]).w2]) := k5 _ (nlw _ (by simp only [List.mem_append]; exact .inl (memb _ hin).1)) _ (x4.hr _ hin).1
    walk_at "s1"
    refine k_meth X.at_ (lk_no (by decide +kernel)) ?_
    walk_at "s1"
    refine r_ix (SqL.of hb5) (atI_nat (j := 0) rfl) ?_
    walk_at "s1"
    have sub : (rows.eraseIdx j).Sublist rows := List.eraseIdx_sublist _ _
    have subf : (fpW lp lw (rows.eraseIdx j)).Sublist (fpW lp lw rows) := ((sub.map _).append (sub.map _)).cons₂ _ |>.cons₂ _
    refine ⟨rfl, c, (rows[j]).n, (rows[j]).c, fp, s, rfl, c5, by rw [x.ec]; exact List.mem_map.mpr ⟨_, hin, rfl⟩, Nat.le_trans x.wl (by omega), fun H8 fp8 c8 b8 n8 => ?_⟩
    have mem_er : ∀ r, r ∈ rows.eraseIdx j ↔ r ∈ rows ∧ r.n ≠ (rows[j]).n := fun r => by
      constructor
      · intro h
        refine ⟨sub.subset h, fun e => ?_⟩
        obtain ⟨k, hk, ek⟩ := List.mem_eraseIdx_iff_getElem.mp h
        obtain ⟨hkl, hkr⟩ := ek
        have : (rows[k]).n = (rows[j]).n := by rw [hkr]; exact e
        rcases Nat.lt_or_gt_of_ne hkl with h' | h'
        · exact List.pairwise_iff_getElem.mp nr k j (by simpa using hk) (by simpa using hjl) h' (by simpa using this)
        · exact List.pairwise_iff_getElem.mp nr j k (by simpa using hjl) (by simpa using hk) h' (by simpa using this.symm)
      · rintro ⟨h1, h2⟩
        obtain ⟨k, hk, rfl⟩ := List.getElem_of_mem h1
        refine List.mem_eraseIdx_iff_getElem.mpr ⟨k, hk, fun e => ?_, rfl⟩
        subst e
        exact h2 rfl
    obtain ⟨w1, w2, w3⟩ := x.next b05 (people' := people) (rows' := rows.eraseIdx j) (s' := withS s (rows[j]).n) (k5 _ (Ne.symm (nlp lw (by simp))) _ x4.hp) h5 (fun r hr => by
        have hr := sub.subset hr
        exact ⟨k5 _ (nlw _ (by simp only [List.mem_append]; exact .inl (memb _ hr).1)) _ (x4.hr r hr).1, k5 _ (nlw _ (by simp only [List.mem_append]; exact .inr (memb _ hr).2)) _ (x4.hr r hr).2⟩)
      (x.nd.sublist subf) (fun a ha => .inl (subf.subset ha)) c8 b8 n8 x.ep
      (by
        show s.cs.filter (fun p => decide (p.1 ≠ (rows[j]).n)) = _
        have e1 := erase_filt (ps := s.cs) (j := j) (n := (rows[j]).n) (x := (rows[j]).c) (by rw [hcn]; exact nr) (by rw [x.ec, List.getElem?_map, List.getElem?_eq_getElem hjl]; rfl)
        rw [← e1, ← List.eraseIdx_eq_take_drop_succ, x.ec, erase_map])
      (fun v n => by
        show (v, n) ∈ s.ws.filter (fun p => !decide (p.2 = (rows[j]).n)) ↔ _
        rw [List.mem_filter, x.ew v n]
        constructor
        · rintro ⟨⟨r, h1, h2, h3⟩, h4⟩
          exact ⟨r, (mem_er r).mpr ⟨h1, by rw [h2]; simpa using h4⟩, h2, h3⟩
        · rintro ⟨r, h1, h2, h3⟩
          obtain ⟨h5, h6⟩ := (mem_er r).mp h1
          exact ⟨⟨r, h5, h2, h3⟩, by rw [← h2]; simpa using h6⟩)
      (fun r hr => x.zs r (sub.subset hr)) x.nm (fun r hr => x.nn r (sub.subset hr)) x.le (Nat.le_trans sub.length_le x.lr) (Nat.le_trans (List.length_filter_le _ _) (Nat.le_succ_of_le x.wl))
    exact q H8 fp8 _ _ _ w1 w2 w3

theorem rk__law_deed : ∀ vs H Q E, sp__law_deed K vs H Q E → rd__law_deed K { nx := fun _ H' => Q .non H', rt := Q } (start ["chest", "people", "works", "xs", "cell"] vs) H := by
  rintro vs H Q E ⟨_, c, lp, lw, lx, cell, xs, fp, s, people, rows, m, rfl, x, hm, hx, hxl, q⟩
  have gx : ∀ j, j < 4 → atI (xs.map V.int) (j : Nat) = some (.int (xs.getD j 0)) := fun j hj => atI_nat (by simp [List.getD, hxl, hj])
  have qx : SqL K H lx (xs.map V.int) := SqL.of hx
  have hfin : ∀ {H3 : Hp}, Same H H3 → ∀ (H' : Hp) (fp' : List Addr) (s' : ChSt) (people' : List Str) (rows' : List WkR), L42 K H' c lp lw fp' s' people' rows' (m + 1) → But (fpW lp lw rows ++ fp) H3 H' → New (fpW lp lw rows ++ fp) (fpW lp lw rows' ++ fp') H3 → Q .non H' := fun s3 H' fp' s' p' r' a1 a2 a3 => q H' fp' s' p' r' a1 ((But.of s3).trans a2) (New.refl.trans a3 (But.of s3))
  have aP : ∀ z ∈ people, Ascii z := fun z hz => nm_ascii (x.nm z hz)
  have nw : niceD 3 (.list (rows.map dRw)) := nd_list fun d hd => by
    obtain ⟨r, hr, rfl⟩ := List.mem_map.mp hd
    exact nd_rw (nm_ascii (x.nn r hr)) (fun z hz => aP z ((x.zs r hr).2 z hz))
  unfold rd__law_deed
  with_reducible refine r_seq ?_
  walk_at "s1"
  refine r_ix qx (gx 0 (by decide)) ?_
  walk_at "s1"
  refine iteD (fun hc => ?_) (fun hc => ?_)
  · walk_at "s1"
    refine r_ix qx (gx 0 (by decide)) ?_
    walk_at "s1"
    rename_i p1 H1 f1 s1 h1 p2 H2 f2 s2 h2
    have e2 : cutV (xs.map V.int) (some 1) none = (xs.drop 1).map V.int := by
      have : cutV (xs.map V.int) (some ((1 : Nat) : Int)) none = (xs.map V.int).drop 1 := cut_from _ _
      refine Eq.trans this ?_
      rw [List.map_drop]
    rw [e2] at h2
    refine r_catN (s2 _ _ h1) h2 (by simp; exact Nat.le_trans (show _ ≤ 1000 by omega) line64) fun p3 H3 f3 s3 h3 => ?_
    have s03 := (s1.trans s2).trans s3
    walk_at "s1"
    exact ⟨rfl, c, lp, lw, p3, cell, (xs.getD 0 0 / 7) :: xs.drop 1, fp, s, people, rows, m, rfl, x.same s03, hm, by rw [h3]; rfl, by simp [hxl], hfin s03⟩
  walk_at "s1"
  with_reducible refine r_cut (fun σ H' => Same H H' ∧ people ≠ [] ∧ rows ≠ [] ∧ σ = [some (.ref c), some (.ref lp), some (.ref lw), some (.ref lx), some (.int cell)]) (fun F hF => ?_) ?_
  · have works : ∀ H', Same H H' → sp__law_of_works K [.ref c, .ref lw, .ref lx, .int cell] H' Q E0 := fun H' s' => ⟨rfl, c, lp, lw, lx, cell, xs, fp, s, people, rows, m, rfl, x.same s', hm, s' _ _ hx, hxl, hfin s'⟩
    walk_at "s1"
    refine r_ix qx (gx 0 (by decide)) ?_
    walk_at "s1"
    refine iteD (fun hc => ?_) (fun hc => ?_)
    · walk_at "s1"
      exact works H (Same.refl _)
    · walk_at "s1"
      rename_i p1 H1 f1 s1 h1
      have d1 : DatIs K H1 (.ref lp) (.list (people.map PyData.str)) := .lst (SqL.of (s1 _ _ x.hp)) (dat_strs _)
      by_cases hp : people = []
      · refine L2.r_eqS (d := .list []) (n := 1) (by rw [hp] at d1; exact d1) (.lst (SqL.of h1) .nil) (nd_list fun d hd => by cases hd) (by decide) ?_
        walk_at "s1"
        exact works H1 s1
      · refine L2.r_eqDD (n := 1) d1 (e := .list []) (.lst (SqL.of h1) .nil) (nd_strs _ aP) (nd_list fun d hd => by cases hd) (by decide) ?_
        rw [same_ff (fun e => hp (List.map_eq_nil_iff.mp (PyData.list.inj e)))]
        walk_at "s1"
        rename_i p2 H2 f2 s2 h2
        have s02 := s1.trans s2
        have x2 := x.same s02
        have d2 : DatIs K H2 (.ref lw) (.list (rows.map dRw)) := .lst (SqL.of x2.hw) (dat_rws x2.hr)
        by_cases hr : rows = []
        · refine L2.r_eqS (d := .list []) (n := 1) (by rw [hr] at d2; exact d2) (.lst (SqL.of h2) .nil) (nd_list fun d hd => by cases hd) (by decide) ?_
          walk_at "s1"
          exact works H2 s02
        · refine L2.r_eqDD (n := 3) d2 (e := .list []) (.lst (SqL.of h2) .nil) nw (nd_list fun d hd => by cases hd) (by decide) ?_
          rw [same_ff (fun e => hr (List.map_eq_nil_iff.mp (PyData.list.inj e)))]
          walk_at "s1"
          exact hF _ _ ⟨s02, hp, hr, rfl⟩
  rintro σ H1 ⟨s1, hp, hr, rfl⟩
  walk_at "s1"
  exact ⟨rfl, c, lp, lw, lx, xs, fp, s, people, rows, m, rfl, x.same s1, hm, s1 _ _ hx, hxl, hp, hr, hfin s1⟩

theorem rk_law : ∀ vs H Q E, sp_law K vs H Q E → rd_law K { nx := fun _ H' => Q .non H', rt := Q } (start ["script", "cell", "chest", "people", "works", "held", "k", "one", "xs", "found", "due", "row"] vs) H := by
  rintro vs H Q E ⟨_, a, ns, rfl, hS, hl63, q⟩
  have hsz := size_eq
  unfold rd_law
  with_reducible refine r_seq ?_
  walk_at "s1"
  refine ⟨rfl, a, ns, 1, rfl, hS, fun cell H1 s1 => ?_⟩
  walk_at "s1"
  with_reducible refine r_seq ?_
  walk_at "s1"
  refine r_make fun c dx f0 g0 n0 => ?_
  refine ⟨rfl, c, dx, rfl, upd_same, fun H2 fp0 x0 b0 w0 => ⟨rfl, ?_⟩⟩
  obtain ⟨s2, e0⟩ := made f0 g0 b0 w0
  walk_at "s1"
  with_reducible refine r_seq ?_
  walk_at "s1"
  rename_i lp H3 f3 s3 h3
  with_reducible refine r_seq ?_
  walk_at "s1"
  rename_i lw H4 f4 s4 h4
  with_reducible refine r_seq ?_
  walk_at "s1"
  rename_i hl H5 f5 s5 h5
  have s45 := s5
  have s35 := s4.trans s5
  have s25 := s3.trans s35
  have s15 := s2.trans s25
  have s05 := s1.trans s15
  have m0 := x0.there
  have f3H : H2 lp = none := f3
  have f4H : H2 lw = none := s3.free f4
  have f5H : H2 hl = none := (s3.trans s4).free f5
  have nlw : lw ≠ lp := (ne_of_free h3 f4).symm
  have nhl1 : hl ≠ lp := (ne_of_free (s4 _ _ h3) f5).symm
  have nhl2 : hl ≠ lw := (ne_of_free h4 f5).symm
  have X : L42 K H5 c lp lw fp0 ⟨[], [], [], 0, 0, 0⟩ [] [] 0 := by
    refine ⟨x0.same s25, s35 _ _ h3, s5 _ _ h4, (by intro r hr; cases hr), ?_, ?_, rfl, rfl, fun v n => ⟨(by intro h; cases h), (by rintro ⟨r, hr, _⟩; cases hr)⟩, (by intro r hr; cases hr), (by intro r hr; cases hr), (by intro r hr; cases hr), Nat.zero_le _, Nat.zero_le _, Nat.le_refl _⟩
    · show [lp, lw].Nodup
      simp [Ne.symm nlw]
    · intro x hx
      have hx : x = lp ∨ x = lw := by simpa [fpW] using hx
      rcases hx with rfl | rfl
      · exact fun m => m0 _ m f3H
      · exact fun m => m0 _ m f4H
  have hF0 : ∀ x ∈ fpW lp lw [] ++ fp0, H x = none := fun x hx => by
    rcases List.mem_append.mp hx with hx | hx
    · have hx : x = lp ∨ x = lw := by simpa [fpW] using hx
      rcases hx with rfl | rfl
      · exact s1.free (s2.free f3H)
      · exact s1.free (s2.free f4H)
    · exact s1.free (e0 x hx)
  have hlF : hl ∉ fpW lp lw [] ++ fp0 := fun m => by
    rcases List.mem_append.mp m with hx | hx
    · have hx : hl = lp ∨ hl = lw := by simpa [fpW] using hx
      rcases hx with e | e
      · exact nhl1 e
      · exact nhl2 e
    · exact m0 _ hx f5H
  have hh0 : H hl = none := s1.free (s2.free f5H)
  have hS5 := s05.seq hS
  with_reducible refine r_cut (fun σ H' => Same H H' ∧ H' hl = some (.lst []) ∧ (∃ fp s people, L42 K H' c lp lw fp s people [] 21 ∧ hl ∉ fpW lp lw [] ++ fp) ∧ ∃ v6, σ = [some (.ref a), some (.int cell), some (.ref c), some (.ref lp), some (.ref lw), some (.ref hl), v6, none, none, none, none, none]) (fun F hF => ?_) ?_
  · walk_at "s1"
    refine ⟨rfl, a, ns, 0, rfl, hS5, fun v Ha sa => ?_⟩
    walk_at "s1"
    obtain ⟨nn, hnn, hn21⟩ : ∃ nn : Nat, v % 21 = (nn : Int) ∧ nn < 21 := ⟨(v % 21).toNat, by omega, by omega⟩
    rw [hnn, show ((nn : Int)).toNat = nn by omega]
    refine for_range (lo := 0) (n := nn) (fun i σ H' => Same H H' ∧ H' hl = some (.lst []) ∧ (∃ fp s, L42 K H' c lp lw fp s ((List.range i).map (nameF cell)) [] i ∧ hl ∉ fpW lp lw [] ++ fp ∧ ∀ x ∈ fpW lp lw [] ++ fp, H x = none) ∧ ∃ v6, σ = [some (.ref a), some (.int cell), some (.ref c), some (.ref lp), some (.ref lw), some (.ref hl), v6, none, none, none, none, none])
      ⟨s05.trans sa, sa _ _ h5, ⟨fp0, _, X.same sa, hlF, hF0⟩, _, rfl⟩ ?_ ?_
    · rintro i σ Hb hi ⟨sb, hb, ⟨fp, s, x, hlf, hf0⟩, v6, rfl⟩
      have hpl : ((List.range i).map (nameF cell)).length = i := by simp
      show tSeq _ _ _ _ _
      with_reducible refine r_seq ?_
      walk_at "s1"
      refine ⟨tyL x.hp, ?_⟩
      walk_at "s1"
      refine ⟨rfl, cell, i, by rw [show (0 + (i : Int)) = (i : Int) by omega], by omega, fun Hc sc => ?_⟩
      have xc := x.same sc
      walk_at "s1"
      refine r_appendN xc.hp (by rw [List.length_map, hpl]; exact Nat.lt_of_lt_of_le (show _ < 1000 by omega) line64) ?_
      have es : (List.range i).map (nameF cell) ++ [nameF cell i] = (List.range (i + 1)).map (nameF cell) := by rw [List.range_succ, List.map_append]; rfl
      rw [show ((List.range i).map (nameF cell)).map V.str ++ [V.str (nameF cell i)] = ((List.range (i + 1)).map (nameF cell)).map V.str by rw [← es]; simp]
      have bd : But (fpW lp lw []) Hc (upd Hc lp (.lst (((List.range (i + 1)).map (nameF cell)).map V.str))) := But.upd xc.hp (by intro xs z; cases z) fpW_p
      have hd : upd Hc lp (.lst (((List.range (i + 1)).map (nameF cell)).map V.str)) lp = some (.lst (((List.range (i + 1)).map (nameF cell)).map V.str)) := upd_same
      have hdw : upd Hc lp (.lst (((List.range (i + 1)).map (nameF cell)).map V.str)) lw = some (.lst ([] : List V)) := by rw [upd_ne nlw]; exact xc.hw
      have hdh : upd Hc lp (.lst (((List.range (i + 1)).map (nameF cell)).map V.str)) hl = some (.lst ([] : List V)) := by rw [upd_ne nhl1]; exact sc _ _ hb
      generalize upd Hc lp (.lst (((List.range (i + 1)).map (nameF cell)).map V.str)) = Hd at *
      have bbd := (But.of (l := fpW lp lw []) sc).trans bd
      have cd := x.ch.but bbd fun y hy z => x.dis y z hy
      obtain ⟨dx', d1, d2, w, wt, XX, efp⟩ := id cd
      walk_at "s1"
      refine k_meth XX.at_ (lk_no (by decide +kernel)) ?_
      walk_at "s1"
      refine r_ix (SqL.of hd) (v := .str (nameF cell i)) (by rw [← es, List.map_append]; exact atI_last _ _) ?_
      walk_at "s1"
      have hnotin : nameF cell i ∉ (List.range i).map (nameF cell) := fun m => by
        obtain ⟨j, hj, e⟩ := List.mem_map.mp m
        have hj := List.mem_range.mp hj
        have := nameF_inj (show j < 21 by omega) (show i < 21 by omega) e
        omega
      have hpsl : s.ps.length = i := by have := congrArg List.length x.ep; rw [List.length_map, hpl] at this; exact this
      refine ⟨rfl, c, nameF cell i, fp, s, rfl, cd, nameF_nm _ _, by rw [x.ep]; exact hnotin, by omega, fun He fp8 c8 b8 n8 => ?_⟩
      obtain ⟨w1, w2, w3⟩ := x.next bbd (people' := (List.range (i + 1)).map (nameF cell)) (rows' := []) (s' := { s with ps := s.ps ++ [(nameF cell i, 0)] }) hd hdw (by intro r hr; cases hr) x.nd (fun y hy => .inl hy) c8 b8 n8
        (by show List.map (fun p : Str × Int => p.1) (s.ps ++ [(nameF cell i, 0)]) = _; rw [List.map_append, x.ep, ← es]; rfl) x.ec x.ew (by intro r hr; cases hr) (fun z hz => by
          obtain ⟨j, _, rfl⟩ := List.mem_map.mp hz
          exact nameF_nm _ _) (by intro r hr; cases hr) (by simp; omega) (Nat.zero_le _) (Nat.le_succ_of_le x.wl)
      walk_at "s1"
      have hhd : Hd hl ≠ none := by rw [hdh]; simp
      refine ⟨same_but sb w2 hf0, b8.1 _ _ (fun m => hlf (by simp [m])) hdh, ⟨fp8, _, w1, fun m => ?_, fun y hy => ?_⟩, _, rfl⟩
      · rcases w3 hl m with e | e
        · exact hlf e
        · rw [hb] at e; cases e
      · rcases w3 y hy with e | e
        · exact hf0 y e
        · exact sb.free e
    · rintro σ Hb ⟨sb, hb, ⟨fp, s, x, hlf, hf0⟩, v6, rfl⟩
      exact hF _ _ ⟨sb, hb, ⟨fp, s, _, ⟨x.ch, x.hp, x.hw, x.hr, x.nd, x.dis, x.ep, x.ec, x.ew, x.zs, x.nm, x.nn, x.le, x.lr, Nat.le_trans x.wl (by omega)⟩, hlf⟩, v6, rfl⟩
  rintro σ Ha ⟨sa, ha, ⟨fp, s, people, x, hlf⟩, v6, rfl⟩
  have hSa := sa.seq hS
  with_reducible refine r_seq ?_
  walk_at "s1"
  rename_i pz Hb fz sb hz
  have hc1 := cut_le (ns.map V.int) 2 62
  obtain ⟨ms, e9, _, _⟩ := cut_ints ns (some ((2 : Nat) : Int)) (some ((62 : Nat) : Int))
  rw [e9, List.length_map] at hc1
  have hz : Hb pz = some (.lst (ms.map V.int)) := by rw [← e9]; exact hz
  have hle : (ms.map V.int).length = ms.length := by simp
  have M : M42 K Hb c lp lw hl pz (ms.map V.int) 21 0 fp s people [] [] := ⟨x.same sb, sb _ _ ha, hlf, hz, (fun m => x.there _ m fz), (fun e => by rw [e, ha] at fz; cases fz), Nat.le_refl _, (by intro h hh; cases hh), (by intro h hh; cases hh)⟩
  refine for_ys (ys_list (K := K) (xs := ms.map V.int) 7) (fun i σ H' => ∃ fp s people rows hs, M42 K H' c lp lw hl pz (ms.map V.int) (21 + i) i fp s people rows hs ∧ ∃ v6 v7 v8, σ = [some (.ref a), some (.int cell), some (.ref c), some (.ref lp), some (.ref lw), some (.ref hl), v6, v7, v8, none, none, none])
    ⟨_, _, _, _, _, M, _, _, _, rfl⟩ (fun i σ H' p => by
      obtain ⟨_, _, _, _, _, M, _⟩ := p
      exact SqL.of M.pz_) ?_ ?_
  · rintro i σ Hc Hd hi ⟨fp, s, people, rows, hs, M, v6, v7, v8, rfl⟩ sd
    have M := M.keep sd
    rw [hle] at hi
    have et : (ms.map V.int).getD i .non = .int (ms.getD i 0) := by simp [List.getD, hi]
    rw [et]
    show tSeq _ _ _ _ _
    with_reducible refine r_seq ?_
    walk_at "s1"
    refine ⟨rfl, _, 4, rfl, by decide, fun lx He fx se hx => ?_⟩
    have M := M.keep se
    walk_at "s1"
    with_reducible refine r_seq ?_
    walk_at "s1"
    refine ⟨rfl, c, lp, lw, lx, cell, _, fp, s, people, rows, 21 + i, rfl, M.x, by omega, hx, spinL_len _ _, fun Hf fp' s' people' rows' xf bf nf => ?_⟩
    have M := M.deed xf bf nf
    walk_at "s1"
    refine iteNS rfl ?_
    walk_at "s1"
    have hlen := M.len
    refine ⟨rfl, c, lp, lw, hl, fp', s', people', rows', _, _, rfl, M.x, M.hl_, by rw [List.length_map]; omega, M.hln, fun Hg t f g ts us bg hg held own => ?_⟩
    have M := M.right bg hg held own
    walk_at "s1"
    exact ⟨_, _, _, _, _, M, _, _, _, rfl⟩
  clear M
  rintro σ Hc ⟨fp, s, people, rows, hs, M, v6, v7, v8, rfl⟩
  have hn60 : hs.length ≤ 60 := by have := M.len; rw [hle] at this; omega
  have hd0 : HR := ⟨0, 0, 0, [], [], []⟩
  have hq : SqL K Hc hl ((hs.map (·.t)).map V.ref) := SqL.of (by rw [M.hl_, List.map_map]; rfl)
  have htl : (hs.map (·.t)).length = hs.length := by simp
  have hget : ∀ i, i < hs.length → hs.getD i ⟨0, 0, 0, [], [], []⟩ ∈ hs := fun i hi => by rw [List.getD_eq_getElem?_getD, List.getElem?_eq_getElem hi]; exact List.getElem_mem hi
  have hY : ∀ H', (∀ t xs, Hc t = some (.tup xs) → H' t = some (.tup xs)) → ∀ i b, (hs.map (·.t))[i]? = some b → SqT K H' b [.ref (hs.getD i ⟨0, 0, 0, [], [], []⟩).f, .ref (hs.getD i ⟨0, 0, 0, [], [], []⟩).g] := fun H' h i b hb => by
    have hi : i < hs.length := by rw [← htl]; exact (List.getElem?_eq_some_iff.mp hb).1
    have e : b = (hs.getD i ⟨0, 0, 0, [], [], []⟩).t := by
      rw [List.getElem?_map, List.getElem?_eq_getElem hi] at hb
      rw [List.getD_eq_getElem?_getD, List.getElem?_eq_getElem hi]
      exact (Option.some.inj hb).symm
    rw [e]
    exact SqT.of (h _ _ (M.held _ (hget i hi)).1.1)
  with_reducible refine r_cut (fun σ H' => Same Hc H' ∧ ∃ v9 v10, σ = [some (.ref a), some (.int cell), some (.ref c), some (.ref lp), some (.ref lw), some (.ref hl), v6, v7, v8, v9, v10, none]) (fun F hF => ?_) ?_
  · walk_at "s1"
    refine for_ys (ys_list2 (K := K) (a := hl) (ts := hs.map (·.t)) (u := fun i => .ref (hs.getD i ⟨0, 0, 0, [], [], []⟩).f) (v := fun i => .ref (hs.getD i ⟨0, 0, 0, [], [], []⟩).g) 9 10) (fun i σ H' => Same Hc H' ∧ ∃ v9 v10, σ = [some (.ref a), some (.int cell), some (.ref c), some (.ref lp), some (.ref lw), some (.ref hl), v6, v7, v8, v9, v10, none])
      ⟨Same.refl _, _, _, rfl⟩ (fun i σ H' p => ⟨p.1.seq hq, hY H' fun t xs z => p.1 _ _ z⟩) ?_ ?_
    · rintro i σ Hd He hi ⟨sd, v9, v10, rfl⟩ se
      have s' := sd.trans se
      rw [htl] at hi
      obtain ⟨h1, h2, _⟩ := M.held _ (hget i hi)
      have bb := But.of (l := []) s'
      show tIfS _ _ _ _ _ _
      walk_at "s1"
      refine L2.r_neS (h1.2.1.but bb (by simp) (by simp)).dat (h1.2.2.1.but bb (by simp) (by simp)).dat (nd_works h2) (by decide) ?_
      walk_at "s1"
      exact ⟨s', _, _, rfl⟩
    · rintro σ Hd ⟨sd, v9, v10, rfl⟩
      exact hF _ _ ⟨sd, v9, v10, rfl⟩
  rintro σ Hd ⟨sd, v9, v10, rfl⟩
  have M := M.keep sd
  have hqd := sd.seq hq
  have tup : ∀ h ∈ hs, ∀ t' ∈ h.tl, ∃ x y, Hd t' = some (.tup [x, y, .ref (innerW Hd t')]) ∧ ∃ zs : List Str, Hd (innerW Hd t') = some (.lst (zs.map V.str)) ∧ zs.length ≤ 20 := fun h hh t' ht => by
    obtain ⟨r, hr, w', z1, z2⟩ := (M.held h hh).1.2.1.tup t' ht
    have e := innerW_of z1
    rw [e]
    exact ⟨_, _, z1, _, z2, (M.held h hh).2.2.2 r hr⟩
  let Ms := hs.flatMap fun h => h.f :: h.tl.map (innerW Hd)
  have mf : ∀ h ∈ hs, h.f ∈ Ms := fun h hh => List.mem_flatMap.mpr ⟨h, hh, by simp⟩
  have mw : ∀ h ∈ hs, ∀ t' ∈ h.tl, innerW Hd t' ∈ Ms := fun h hh t' ht => List.mem_flatMap.mpr ⟨h, hh, List.mem_cons_of_mem _ (List.mem_map.mpr ⟨t', ht, rfl⟩)⟩
  have mP : ∀ y ∈ Ms, y ∉ fpW lp lw rows ++ fp ∧ y ≠ hl := fun y hy => by
    obtain ⟨h, hh, hy⟩ := List.mem_flatMap.mp hy
    rcases List.mem_cons.mp hy with rfl | hy
    · exact (M.held h hh).1.2.2.2.1.1
    · obtain ⟨t', ht, rfl⟩ := List.mem_map.mp hy
      obtain ⟨x, y, z1, _⟩ := tup h hh t' ht
      exact (M.held h hh).1.2.2.2.2 t' (by simp [ht]) _ _ _ z1
  have sepI : ∀ h ∈ hs, ∀ h' ∈ hs, ∀ t' ∈ h'.tl, innerW Hd t' ≠ h.f := fun h hh h' hh' t' ht => by
    obtain ⟨x, y, z1, _⟩ := tup h' hh' t' ht
    exact M.sep h hh h' hh' t' ht _ _ _ z1
  have hlM : hl ∉ Ms := fun m => (mP hl m).2 rfl
  have lpM : lp ∉ Ms := fun m => (mP lp m).1 (by simp [fpW])
  have lenT : ∀ h ∈ hs, h.tl.length ≤ 12 := fun h hh => by
    rw [← Paired.length (M.held h hh).1.2.1.2]; exact (M.held h hh).2.2.1
  have hple : people.length ≤ 20 := M.x.le
  clear_value Ms
  with_reducible refine r_cut (fun σ H' => But Ms Hd H' ∧ ∃ v9 v10 v11, σ = [some (.ref a), some (.int cell), some (.ref c), some (.ref lp), some (.ref lw), some (.ref hl), v6, v7, v8, v9, v10, v11]) (fun F hF => ?_) ?_
  · walk_at "s1"
    refine for_ys (ys_list2 (K := K) (a := hl) (ts := hs.map (·.t)) (u := fun i => .ref (hs.getD i ⟨0, 0, 0, [], [], []⟩).f) (v := fun i => .ref (hs.getD i ⟨0, 0, 0, [], [], []⟩).g) 9 10)
      (fun i σ H' => But Ms Hd H' ∧ (∀ h ∈ hs, H' h.f = some (.lst (h.tl.map V.ref)) ∨ H' h.f = some (.lst [])) ∧ (∀ h ∈ hs, ∀ t' ∈ h.tl, ∃ ys, H' (innerW Hd t') = some (.lst ys) ∧ ys.length ≤ 20 + 240 * i) ∧ ∃ v9 v10 v11, σ = [some (.ref a), some (.int cell), some (.ref c), some (.ref lp), some (.ref lw), some (.ref hl), v6, v7, v8, v9, v10, v11])
      ⟨But.of (Same.refl _), fun h hh => .inl (M.held h hh).1.2.1.1, fun h hh t' ht => ?_, _, _, _, rfl⟩ (fun i σ H' p => ⟨SqL.of (by rw [p.1.1 _ _ hlM M.hl_, List.map_map]; rfl), hY H' fun t xs z => p.1.2.1 _ _ (sd _ _ z)⟩) ?_ ?_
    · obtain ⟨x, y, z1, zs, z2, z3⟩ := tup h hh t' ht
      exact ⟨_, z2, by rw [List.length_map]; omega⟩
    · rintro i σ He Hf hi ⟨be, hf1, hw1, v9, v10, v11, rfl⟩ sf
      rw [htl] at hi
      have hh := hget i hi
      generalize hs.getD i ⟨0, 0, 0, [], [], []⟩ = h at *
      obtain ⟨ws, hws, hsub, hwl⟩ : ∃ ws : List Addr, He h.f = some (.lst (ws.map V.ref)) ∧ (∀ t' ∈ ws, t' ∈ h.tl) ∧ ws.length ≤ 12 := by
        rcases hf1 h hh with e | e
        · exact ⟨h.tl, e, fun _ z => z, lenT h hh⟩
        · exact ⟨[], e, (by intro t' ht; cases ht), Nat.zero_le _⟩
      have bf := be.trans (But.of sf)
      have qws : SqL K Hf h.f (ws.map V.ref) := SqL.of (sf _ _ hws)
      have hwlm : (ws.map V.ref).length = ws.length := by simp
      show tSeq _ _ _ _ _
      with_reducible refine r_cut (fun σ H' => (But Ms Hd H' ∧ (∀ h ∈ hs, H' h.f = some (.lst (h.tl.map V.ref)) ∨ H' h.f = some (.lst [])) ∧ (∀ h ∈ hs, ∀ t' ∈ h.tl, ∃ ys, H' (innerW Hd t') = some (.lst ys) ∧ ys.length ≤ 20 + 240 * (i + 1))) ∧ H' h.f = some (.lst (ws.map V.ref)) ∧ ∃ v10 v11, σ = [some (.ref a), some (.int cell), some (.ref c), some (.ref lp), some (.ref lw), some (.ref hl), v6, v7, v8, some (.ref h.f), v10, v11]) (fun F' hF' => ?_) ?_
      · walk_at "s1"
        refine for_ys (ys_list (K := K) (xs := ws.map V.ref) 11) (fun j σ H' => (But Ms Hd H' ∧ (∀ h ∈ hs, H' h.f = some (.lst (h.tl.map V.ref)) ∨ H' h.f = some (.lst [])) ∧ (∀ h ∈ hs, ∀ t' ∈ h.tl, ∃ ys, H' (innerW Hd t') = some (.lst ys) ∧ ys.length ≤ 20 + 240 * i + 20 * j)) ∧ H' h.f = some (.lst (ws.map V.ref)) ∧ ∃ v10 v11, σ = [some (.ref a), some (.int cell), some (.ref c), some (.ref lp), some (.ref lw), some (.ref hl), v6, v7, v8, some (.ref h.f), v10, v11])
          ⟨⟨bf, fun h' hh' => (hf1 h' hh').imp (fun e => sf _ _ e) (fun e => sf _ _ e), fun h' hh' t' ht => by
              obtain ⟨ys, y1, y2⟩ := hw1 h' hh' t' ht
              exact ⟨ys, sf _ _ y1, by omega⟩⟩, sf _ _ hws, _, _, rfl⟩ (fun j σ H' p => SqL.of p.2.1) ?_ ?_
        · rintro j σ Hg Hh hj ⟨⟨bg, hg1, hg2⟩, hg3, v10, v11, rfl⟩ sh
          rw [hwlm] at hj
          have et : (ws.map V.ref).getD j .non = .ref ws[j] := by simp [List.getD, hj]
          have hti := hsub ws[j] (List.getElem_mem hj)
          obtain ⟨x, y, z1, _⟩ := tup h hh ws[j] hti
          have z1' := sh _ _ (bg.2.1 _ _ z1)
          obtain ⟨ys, y1, y2⟩ := hg2 h hh ws[j] hti
          have y1 := sh _ _ y1
          have hlp : Hh lp = some (.lst (people.map V.str)) := sh _ _ (bg.1 _ _ lpM M.x.hp)
          rw [et]
          show tDrop _ _ _ _
          walk_at "s1"
          refine r_ixT (SqT.of z1') (atI_nat (j := 2) rfl) ?_
          refine ⟨tyL y1, ?_⟩
          walk_at "s1"
          refine ⟨_, _, _, _, rfl, rfl, y1, hlp, by rw [List.length_map, hsz]; omega, ?_⟩
          have bu : But Ms Hh (upd Hh (innerW Hd ws[j]) (.lst (ys ++ people.map V.str))) := But.upd y1 (by intro xs z; cases z) (mw h hh _ hti)
          have kf : ∀ h' ∈ hs, ∀ o, Hh h'.f = some o → upd Hh (innerW Hd ws[j]) (.lst (ys ++ people.map V.str)) h'.f = some o := fun h' hh' o z => by rw [upd_ne (Ne.symm (sepI h' hh' h hh _ hti))]; exact z
          refine ⟨⟨(bg.trans (But.of sh)).trans bu, fun h' hh' => (hg1 h' hh').imp (fun e => kf h' hh' _ (sh _ _ e)) (fun e => kf h' hh' _ (sh _ _ e)), fun h' hh' t' ht => ?_⟩, kf h hh _ (sh _ _ hg3), _, _, rfl⟩
          by_cases e : innerW Hd t' = innerW Hd ws[j]
          · rw [e]
            exact ⟨_, upd_same, by rw [List.length_append, List.length_map]; omega⟩
          · obtain ⟨ys', y3, y4⟩ := hg2 h' hh' t' ht
            exact ⟨ys', by rw [upd_ne e]; exact sh _ _ y3, by omega⟩
        · rintro σ Hg ⟨⟨bg, hg1, hg2⟩, hg3, v10, v11, rfl⟩
          refine hF' _ _ ⟨⟨bg, hg1, fun h' hh' t' ht => ?_⟩, hg3, v10, v11, rfl⟩
          obtain ⟨ys', y3, y4⟩ := hg2 h' hh' t' ht
          exact ⟨ys', y3, by rw [hwlm] at y4; omega⟩
      rintro σ Hg ⟨⟨bg, hg1, hg2⟩, hg3, v10, v11, rfl⟩
      walk_at "s1"
      refine ⟨tyL hg3, h.f, _, rfl, rfl, hg3, ?_⟩
      have bu : But Ms Hg (upd Hg h.f (.lst [])) := But.upd hg3 (by intro xs z; cases z) (mf h hh)
      refine ⟨bg.trans bu, fun h' hh' => ?_, fun h' hh' t' ht => ?_, _, _, _, rfl⟩
      · by_cases e : h'.f = h.f
        · rw [e]; exact .inr upd_same
        · rw [upd_ne e]; exact hg1 h' hh'
      · obtain ⟨ys', y3, y4⟩ := hg2 h' hh' t' ht
        exact ⟨ys', by rw [upd_ne (sepI h hh h' hh' t' ht)]; exact y3, y4⟩
    · rintro σ He ⟨be, _, _, v9, v10, v11, rfl⟩
      exact hF _ _ ⟨be, v9, v10, v11, rfl⟩
  rintro σ He ⟨be, v9', v10', v11', rfl⟩
  have xe := M.x.but be fun y hy m => (mP y m).1 hy
  walk_at "s1"
  rename_i pe Hf fe se he
  refine ⟨rfl, c, lp, lw, pe, fp, s, people, rows, _, [], rfl, xe.same se, he, Nat.zero_le _, fun m => xe.there _ m fe, fun Hg t f g ts us _ _ _ _ => ?_⟩
  exact q Hg

end

/-! ### what the top has written -/
structure Txt (K : PySem.W.Frag) (mg : Str → Option Value) : Prop where
  f__law_nth : FunIn K mg "_law_nth" s__law_nth ["script", "k"]
  m_Chest___init__ : MethIn K "Chest" "__init__" "Chest.__init__" s_Chest___init__ ["self"]
  f__law_due : FunIn K mg "_law_due" s__law_due ["people", "works"]
  m_Chest_wanters : MethIn K "Chest" "wanters" "Chest.wanters" s_Chest_wanters ["self", "work"]
  m_Chest_works : MethIn K "Chest" "works" "Chest.works" s_Chest_works ["self"]
  f__law_counts : FunIn K mg "_law_counts" s__law_counts ["thing"]
  m_Chest_voters : MethIn K "Chest" "voters" "Chest.voters" s_Chest_voters ["self"]
  f__law_right : FunIn K mg "_law_right" s__law_right ["chest", "people", "works", "held"]
  f_is_name : FunIn K mg "is_name" s_is_name ["name"]
  f_check_new_name : FunIn K mg "check_new_name" s_check_new_name ["name", "names"]
  f_check_place : FunIn K mg "check_place" s_check_place ["names", "most"]
  m_Chest_enrol : MethIn K "Chest" "enrol" "Chest.enrol" s_Chest_enrol ["self", "name"]
  f__law_spins : FunIn K mg "_law_spins" s__law_spins ["cell", "many"]
  f__law_name : FunIn K mg "_law_name" s__law_name ["cell", "k"]
  m_Chest_check_voter : MethIn K "Chest" "check_voter" "Chest.check_voter" s_Chest_check_voter ["self", "voter"]
  m_Chest_check_work : MethIn K "Chest" "check_work" "Chest.check_work" s_Chest_check_work ["self", "work"]
  m_Chest_unwant : MethIn K "Chest" "unwant" "Chest.unwant" s_Chest_unwant ["self", "voter", "work"]
  m_Chest_want : MethIn K "Chest" "want" "Chest.want" s_Chest_want ["self", "voter", "work"]
  f__law_of_wishes : FunIn K mg "_law_of_wishes" s__law_of_wishes ["chest", "people", "works", "xs"]
  f__law_fresh : FunIn K mg "_law_fresh" s__law_fresh ["cell", "known", "x"]
  m_Chest_leave : MethIn K "Chest" "leave" "Chest.leave" s_Chest_leave ["self", "name"]
  f__law_of_voters : FunIn K mg "_law_of_voters" s__law_of_voters ["chest", "people", "works", "xs", "cell"]
  f_check_coins : FunIn K mg "check_coins" s_check_coins ["coins", "least"]
  m_Chest_propose : MethIn K "Chest" "propose" "Chest.propose" s_Chest_propose ["self", "work", "cost"]
  m_Chest_withdraw : MethIn K "Chest" "withdraw" "Chest.withdraw" s_Chest_withdraw ["self", "work"]
  f__law_cost : FunIn K mg "_law_cost" s__law_cost ["x"]
  f__law_of_works : FunIn K mg "_law_of_works" s__law_of_works ["chest", "works", "xs", "cell"]
  f__law_deed : FunIn K mg "_law_deed" s__law_deed ["chest", "people", "works", "xs", "cell"]
  f_law : FunIn K mg "law" s_law ["script"]
  c_Chest : ClsIn K mg "Chest"
  cls : Cls K
  z_all : mg "all" = none
  z_bool : mg "bool" = none
  z_int : mg "int" = none
  z_isinstance : mg "isinstance" = none
  z_len : mg "len" = none
  z_list : mg "list" = none
  z_range : mg "range" = none
  z_tuple : mg "tuple" = none
  k_LETTERS : KonS mg "LETTERS" "abcdefghijklmnopqrstuvwxyz"
  k_MOST_AT_ONCE : KonIn mg "MOST_AT_ONCE" 1000000000
  k_MOST_LETTERS : KonIn mg "MOST_LETTERS" 8
  k_MOST_VOTERS : KonIn mg "MOST_VOTERS" 20
  k_MOST_WORKS : KonIn mg "MOST_WORKS" 12
/-! ### the terms -/
section
seal PSs PS PE PA PT PC PI PG
variable {P : Program} {w : World} {K : PySem.W.Frag} {mg : Str → Option Value} {base : Heap}
theorem pf__law_nth (T : Txt K mg) {f : Addr} {cdv : Value} {A : Around} {outer : List Env} {s : Shared} {H : Hp} {E : XK} (hr : Room 0 (A.deeper (PyProof.Rows.envOfC "_law_nth" (defScope s__law_nth) s.heap.objs.size f cdv))) :
    PSs (cxOf CX0 P w K mg base ["script", "k", "cell"] "_law_nth" (defScope s__law_nth) f cdv A outer s H E).nox (defBody s__law_nth) (rd__law_nth K) :=
  (pss_cons (ps_for PassesOwn.never rfl (pi_list (pe_slice sl_list (pv 0) (po_some (pv 1)) (po_some (pe_op op_addI (pv 1) pe_int)))) (pg_name (i := 2) sc__law_nth.nd rfl (Or.inl rfl)) (pss_one (ps_ret (pv 2))))
      (pss_one (ps_ret pe_int)))
theorem cal__law_nth (T : Txt K mg) : Cal P w K mg base 1 "_law_nth" ["script", "k"] (sp__law_nth K) := T.f__law_nth.cal sc__law_nth (spOf_len rfl) (fun f cdv A outer s H E hr => pf__law_nth T hr) rk__law_nth
theorem pf_Chest___init__ (T : Txt K mg) {f : Addr} {cdv : Value} {A : Around} {outer : List Env} {s : Shared} {H : Hp} {E : XK} (hr : Room 0 (A.deeper (PyProof.Rows.envOfC "Chest.__init__" (defScope s_Chest___init__) s.heap.objs.size f cdv))) :
    PSs (cxOf CX0 P w K mg base ["self"] "Chest.__init__" (defScope s_Chest___init__) f cdv A outer s H E).nox (defBody s_Chest___init__) (rd_Chest___init__ K) :=
  (pss_cons (ps_fld (pv 0) pe_dnewK rfl)
      (pss_cons (ps_fld (pv 0) pe_dnewK rfl)
      (pss_cons (ps_fld (pv 0) (pe_lst pa_nil) rfl)
      (pss_cons (ps_fld (pv 0) pe_int rfl)
      (pss_cons (ps_fld (pv 0) pe_int rfl)
      (pss_one (ps_fld (pv 0) pe_int rfl)))))))
theorem mal_Chest___init__ (T : Txt K mg) : CalM CX0 P w K mg base 1 "Chest" "__init__" ["self"] (sp_Chest___init__ K) := T.m_Chest___init__.cal sc_Chest___init__ (spOf_len rfl) (fun f cdv A outer s H E hr => pf_Chest___init__ T hr) (rk_Chest___init__ T.cls)
theorem pf__law_due (T : Txt K mg) {f : Addr} {cdv : Value} {A : Around} {outer : List Env} {s : Shared} {H : Hp} {E : XK} (hr : Room 0 (A.deeper (PyProof.Rows.envOfC "_law_due" (defScope s__law_due) s.heap.objs.size f cdv))) :
    PSs (cxOf CX0 P w K mg base ["people", "works"] "_law_due" (defScope s__law_due) f cdv A outer s H E).nox (defBody s__law_due) (rd__law_due K) :=
  (pss_one (ps_ret (pe_comp (N := ["work", "people"]) (mp := [none, some 0]) rfl ⟨rfl, by decide +kernel, by rfl, rfl, by rfl⟩ (pi_list (pv 1)) (fun _ _ _ _ _ _ => (pg_name (i := 0) (by show List.Nodup (["work", "people"] : List Str); decide +kernel) rfl (Or.inr rfl))) (fun _ _ _ _ _ _ => pifs_nil) (fun _ _ _ _ _ _ => (pe_tup (pa_cons (pe_ix ix_list (pv 0) pe_int (fun _ _ => rfl)) (pa_cons (pe_ix ix_list (pv 0) pe_int (fun _ _ => rfl)) (pa_cons (pe_comp (N := ["name", "work"]) (mp := [none, some 0]) rfl ⟨rfl, by decide +kernel, by rfl, rfl, by rfl⟩ (pi_list (pv 1)) (fun _ _ _ _ _ _ => (pg_name (i := 0) (by show List.Nodup (["name", "work"] : List Str); decide +kernel) rfl (Or.inl rfl))) (fun _ _ _ _ _ _ => (pifs_one (pt_cmpR op_in_seq (pv 0) (pe_ix ix_list (pv 1) pe_int (fun _ _ => rfl)) rfl))) (fun _ _ _ _ _ _ => (pv 0))) pa_nil))))))))
theorem cal__law_due (T : Txt K mg) : Cal P w K mg base 1 "_law_due" ["people", "works"] (sp__law_due K) := T.f__law_due.cal sc__law_due (spOf_len rfl) (fun f cdv A outer s H E hr => pf__law_due T hr) rk__law_due
theorem pf_Chest_wanters (T : Txt K mg) {f : Addr} {cdv : Value} {A : Around} {outer : List Env} {s : Shared} {H : Hp} {E : XK} (hr : Room 0 (A.deeper (PyProof.Rows.envOfC "Chest.wanters" (defScope s_Chest_wanters) s.heap.objs.size f cdv))) :
    PSs (cxOf CX0 P w K mg base ["self", "work"] "Chest.wanters" (defScope s_Chest_wanters) f cdv A outer s H E).nox (defBody s_Chest_wanters) (rd_Chest_wanters K) :=
  (pss_one (ps_ret (pe_thaw (pe_comp (N := ["voter", "work", "self"]) (mp := [none, some 1, some 0]) rfl ⟨rfl, by decide +kernel, by rfl, rfl, by rfl⟩ (pi_keys (pe_fld (pv 0) rfl)) (fun _ _ _ _ _ _ => (pg_name (i := 0) (by show List.Nodup (["voter", "work", "self"] : List Str); decide +kernel) rfl (Or.inl rfl))) (fun _ _ _ _ _ _ => (pifs_one (pt_cmpR (op_inD hr.units) (pe_tup (pa_cons (pv 0) (pa_cons (pv 1) pa_nil))) (pe_fld (pv 2) rfl) rfl))) (fun _ _ _ _ _ _ => (pv 0))))))
theorem mal_Chest_wanters (T : Txt K mg) : CalM CX0 P w K mg base 1 "Chest" "wanters" ["self", "work"] (sp_Chest_wanters K) := T.m_Chest_wanters.cal sc_Chest_wanters (spOf_len rfl) (fun f cdv A outer s H E hr => pf_Chest_wanters T hr) (rk_Chest_wanters T.cls)
theorem pf_Chest_works (T : Txt K mg) {f : Addr} {cdv : Value} {A : Around} {outer : List Env} {s : Shared} {H : Hp} {E : XK} (hr : Room 1 (A.deeper (PyProof.Rows.envOfC "Chest.works" (defScope s_Chest_works) s.heap.objs.size f cdv))) :
    PSs (cxOf CX0 P w K mg base ["self"] "Chest.works" (defScope s_Chest_works) f cdv A outer s H E).nox (defBody s_Chest_works) (rd_Chest_works K) :=
  (pss_one (ps_ret (pe_thaw (pe_comp (N := ["work", "cost", "self"]) (mp := [none, none, some 0]) rfl ⟨rfl, by decide +kernel, by rfl, rfl, by rfl⟩ (pi_items (pe_fld (pv 0) rfl)) (fun _ _ _ _ _ _ => (pg_tup rfl (pgs_cons (pg_name (i := 0) (by show List.Nodup (["work", "cost", "self"] : List Str); decide +kernel) rfl (Or.inl rfl)) (pgs_cons (pg_name (i := 1) (by show List.Nodup (["work", "cost", "self"] : List Str); decide +kernel) rfl (Or.inl rfl)) pgs_nil)))) (fun _ _ _ _ _ _ => pifs_nil) (fun _ _ _ _ _ _ => (pe_tup (pa_cons (pv 0) (pa_cons (pv 1) (pa_cons (pe_mcal (mal_Chest_wanters T) T.c_Chest (hr.mono (by decide)) (pv 2) (pa_cons (pv 0) pa_nil)) pa_nil)))))))))
theorem mal_Chest_works (T : Txt K mg) : CalM CX0 P w K mg base 2 "Chest" "works" ["self"] (sp_Chest_works K) := T.m_Chest_works.cal sc_Chest_works (spOf_len rfl) (fun f cdv A outer s H E hr => pf_Chest_works T hr) (rk_Chest_works T.cls)
theorem pf__law_counts (T : Txt K mg) {f : Addr} {cdv : Value} {A : Around} {outer : List Env} {s : Shared} {H : Hp} {E : XK} (hr : Room 0 (A.deeper (PyProof.Rows.envOfC "_law_counts" (defScope s__law_counts) s.heap.objs.size f cdv))) :
    PSs (cxOf CX0 P w K mg base ["thing"] "_law_counts" (defScope s__law_counts) f cdv A outer s H E).nox (defBody s__law_counts) (rd__law_counts K) :=
  (pss_one (ps_ret (pe_and (pe_not (pe_callB call_isinst (by rfl) T.z_isinstance PyProof.Rows.boot_isinstance (pa_cons (pv 0) (pa_cons (pe_bltn (by rfl) T.z_bool PyProof.Rows.boot_bool rfl) pa_nil)))) (pe_one (pe_callB call_isinst (by rfl) T.z_isinstance PyProof.Rows.boot_isinstance (pa_cons (pv 0) (pa_cons (pe_bltn (by rfl) T.z_int PyProof.Rows.boot_int rfl) pa_nil)))))))
theorem cal__law_counts (T : Txt K mg) : Cal P w K mg base 1 "_law_counts" ["thing"] (sp__law_counts K) := T.f__law_counts.cal sc__law_counts (spOf_len rfl) (fun f cdv A outer s H E hr => pf__law_counts T hr) rk__law_counts
theorem pf_Chest_voters (T : Txt K mg) {f : Addr} {cdv : Value} {A : Around} {outer : List Env} {s : Shared} {H : Hp} {E : XK} (hr : Room 0 (A.deeper (PyProof.Rows.envOfC "Chest.voters" (defScope s_Chest_voters) s.heap.objs.size f cdv))) :
    PSs (cxOf CX0 P w K mg base ["self"] "Chest.voters" (defScope s_Chest_voters) f cdv A outer s H E).nox (defBody s_Chest_voters) (rd_Chest_voters K) :=
  (pss_one (ps_ret (pe_callTy (call_listV rfl) (by rfl) T.z_list PyProof.Rows.boot_list (pa_cons (pe_bm0 PySem.F.plainAttrs_dict PySem.F.slot_dict_items PySem.F.type_dict_items mt_items (pe_fld (pv 0) rfl)) pa_nil))))
theorem mal_Chest_voters (T : Txt K mg) : CalM CX0 P w K mg base 1 "Chest" "voters" ["self"] (sp_Chest_voters K) := T.m_Chest_voters.cal sc_Chest_voters (spOf_len rfl) (fun f cdv A outer s H E hr => pf_Chest_voters T hr) (rk_Chest_voters T.cls)
theorem pf__law_right (T : Txt K mg) {f : Addr} {cdv : Value} {A : Around} {outer : List Env} {s : Shared} {H : Hp} {E : XK} (hr : Room 2 (A.deeper (PyProof.Rows.envOfC "_law_right" (defScope s__law_right) s.heap.objs.size f cdv))) :
    PSs (cxOf CX0 P w K mg base ["chest", "people", "works", "held", "due", "found", "row"] "_law_right" (defScope s__law_right) f cdv A outer s H E).nox (defBody s__law_right) (rd__law_right K) :=
  (pss_cons (ps_set (i := 4) sc__law_right.nd rfl (Or.inl rfl) (pe_cal (cal__law_due T) (hr.mono (by decide)) (pa_cons (pv 1) (pa_cons (pv 2) pa_nil))))
      (pss_cons (ps_set (i := 5) sc__law_right.nd rfl (Or.inl rfl) (pe_mcal0 (mal_Chest_works T) T.c_Chest (hr.mono (by decide)) (pv 0)))
      (pss_cons (ps_if (PW.pt (pw_or (pt_not (pt_val (pe_callB call_isinst (by rfl) T.z_isinstance PyProof.Rows.boot_isinstance (pa_cons (pv 5) (pa_cons (pe_bltn (by rfl) T.z_list PyProof.Rows.boot_list rfl) pa_nil))))) (pw_or1 (pt_cmpR (op_ne_data hr.units) (pv 5) (pv 4) (nomark _))))) (pss_one (ps_ret pe_bl)) pss_nil)
      (pss_cons (ps_for PassesOwn.never rfl (pi_list (pv 5)) (pg_name (i := 6) sc__law_right.nd rfl (Or.inl rfl)) (pss_one (ps_if (PW.pt (pw_or (pt_not (pt_val (pe_callB call_isinst (by rfl) T.z_isinstance PyProof.Rows.boot_isinstance (pa_cons (pv 6) (pa_cons (pe_bltn (by rfl) T.z_tuple PyProof.Rows.boot_tuple rfl) pa_nil))))) (pw_or (pt_not (pt_val (pe_cal (cal__law_counts T) (hr.mono (by decide)) (pa_cons (pe_ix ix_tup (pv 6) pe_int (fun _ _ => rfl)) pa_nil)))) (pw_or1 (pt_not (pt_val (pe_callB call_isinst (by rfl) T.z_isinstance PyProof.Rows.boot_isinstance (pa_cons (pe_ix ix_tup (pv 6) pe_int (fun _ _ => rfl)) (pa_cons (pe_bltn (by rfl) T.z_list PyProof.Rows.boot_list rfl) pa_nil))))))))) (pss_one (ps_ret pe_bl)) pss_nil)))
      (pss_cons (ps_expr (pe_bm PySem.F.plainAttrs_list PySem.F.slot_list_append PySem.F.type_list_append mt_append (pv 3) (pa_cons (pe_tup (pa_cons (pv 5) (pa_cons (pv 4) pa_nil))) pa_nil)))
      (pss_one (ps_ret (pe_cmpR (op_eq_data hr.units) (pe_comp (N := ["name", "coffer"]) (mp := [none, none]) rfl ⟨rfl, by decide +kernel, by rfl, rfl, by rfl⟩ (pi_list (pe_mcal0 (mal_Chest_voters T) T.c_Chest (hr.mono (by decide)) (pv 0))) (fun _ _ _ _ _ _ => (pg_tup rfl (pgs_cons (pg_name (i := 0) (by show List.Nodup (["name", "coffer"] : List Str); decide +kernel) rfl (Or.inl rfl)) (pgs_cons (pg_name (i := 1) (by show List.Nodup (["name", "coffer"] : List Str); decide +kernel) rfl (Or.inl rfl)) pgs_nil)))) (fun _ _ _ _ _ _ => pifs_nil) (fun _ _ _ _ _ _ => (pv 0))) (pv 1) (nomark _)))))))))
theorem cal__law_right (T : Txt K mg) : Cal P w K mg base 3 "_law_right" ["chest", "people", "works", "held"] (sp__law_right K) := T.f__law_right.cal sc__law_right (spOf_len rfl) (fun f cdv A outer s H E hr => pf__law_right T hr) rk__law_right
theorem pf_is_name (T : Txt K mg) {f : Addr} {cdv : Value} {A : Around} {outer : List Env} {s : Shared} {H : Hp} {E : XK} (hr : Room 0 (A.deeper (PyProof.Rows.envOfC "is_name" (defScope s_is_name) s.heap.objs.size f cdv))) :
    PSs (cxOf CX0 P w K mg base ["name"] "is_name" (defScope s_is_name) f cdv A outer s H E).nox (defBody s_is_name) (rd_is_name K) :=
  (pss_one (ps_ret (pe_and (pe_chain op_leI op_leI pe_int (pe_callB call_lenT (by rfl) T.z_len PySem.boot_len (pa_cons (pv 0) pa_nil)) (T.k_MOST_LETTERS.pe (by rfl))) (pe_one (pe_callB (call_all rfl) (by rfl) T.z_all PyProof.Rows.boot_all (pa_cons (pe_comp (N := ["sign"]) (mp := [none]) rfl ⟨rfl, by decide +kernel, by rfl, rfl, by rfl⟩ (pi_text (pv 0)) (fun _ _ _ _ _ _ => (pg_name (i := 0) (by show List.Nodup (["sign"] : List Str); decide +kernel) rfl (Or.inl rfl))) (fun _ _ _ _ _ _ => pifs_nil) (fun _ _ _ _ _ _ => (pe_cmpR op_inS (pv 0) (T.k_LETTERS.pe (by rfl)) rfl))) pa_nil))))))
theorem cal_is_name (T : Txt K mg) : Cal P w K mg base 1 "is_name" ["name"] (sp_is_name K) := T.f_is_name.cal sc_is_name (spOf_len rfl) (fun f cdv A outer s H E hr => pf_is_name T hr) rk_is_name
theorem pf_check_new_name (T : Txt K mg) {f : Addr} {cdv : Value} {A : Around} {outer : List Env} {s : Shared} {H : Hp} {E : XK} (hr : Room 1 (A.deeper (PyProof.Rows.envOfC "check_new_name" (defScope s_check_new_name) s.heap.objs.size f cdv))) :
    PSs (cxOf CX0 P w K mg base ["name", "names"] "check_new_name" (defScope s_check_new_name) f cdv A outer s H E).nox (defBody s_check_new_name) (rd_check_new_name K) :=
  (pss_cons (ps_if (pt_not (pt_val (pe_cal (cal_is_name T) (hr.mono (by decide)) (pa_cons (pv 0) pa_nil)))) (pss_one ps_dead) pss_nil)
      (pss_one (ps_if (pt_cmp (pc_din (hu_of hr) (pv 0) (pv 1))) (pss_one ps_dead) pss_nil)))
theorem cal_check_new_name (T : Txt K mg) : Cal P w K mg base 2 "check_new_name" ["name", "names"] (sp_check_new_name K) := T.f_check_new_name.cal sc_check_new_name (spOf_len rfl) (fun f cdv A outer s H E hr => pf_check_new_name T hr) rk_check_new_name
theorem pf_check_place (T : Txt K mg) {f : Addr} {cdv : Value} {A : Around} {outer : List Env} {s : Shared} {H : Hp} {E : XK} (hr : Room 0 (A.deeper (PyProof.Rows.envOfC "check_place" (defScope s_check_place) s.heap.objs.size f cdv))) :
    PSs (cxOf CX0 P w K mg base ["names", "most"] "check_place" (defScope s_check_place) f cdv A outer s H E).nox (defBody s_check_place) (rd_check_place K) :=
  (pss_one (ps_if (pt_cmpR op_geI (pe_callB call_lenDk (by rfl) T.z_len PySem.boot_len (pa_cons (pv 0) pa_nil)) (pv 1) (nomark _)) (pss_one ps_dead) pss_nil))
theorem cal_check_place (T : Txt K mg) : Cal P w K mg base 1 "check_place" ["names", "most"] (sp_check_place K) := T.f_check_place.cal sc_check_place (spOf_len rfl) (fun f cdv A outer s H E hr => pf_check_place T hr) rk_check_place
theorem pf_Chest_enrol (T : Txt K mg) {f : Addr} {cdv : Value} {A : Around} {outer : List Env} {s : Shared} {H : Hp} {E : XK} (hr : Room 2 (A.deeper (PyProof.Rows.envOfC "Chest.enrol" (defScope s_Chest_enrol) s.heap.objs.size f cdv))) :
    PSs (cxOf CX0 P w K mg base ["self", "name"] "Chest.enrol" (defScope s_Chest_enrol) f cdv A outer s H E).nox (defBody s_Chest_enrol) (rd_Chest_enrol K) :=
  (pss_cons (ps_expr (pe_cal (cal_check_new_name T) (hr.mono (by decide)) (pa_cons (pv 1) (pa_cons (pe_fld (pv 0) rfl) pa_nil))))
      (pss_cons (ps_expr (pe_cal (cal_check_place T) (hr.mono (by decide)) (pa_cons (pe_fld (pv 0) rfl) (pa_cons (T.k_MOST_VOTERS.pe (by rfl)) pa_nil))))
      (pss_one (ps_dput (hu_of hr) (pe_fld (pv 0) rfl) (pv 1) pe_int rfl))))
theorem mal_Chest_enrol (T : Txt K mg) : CalM CX0 P w K mg base 3 "Chest" "enrol" ["self", "name"] (sp_Chest_enrol K) := T.m_Chest_enrol.cal sc_Chest_enrol (spOf_len rfl) (fun f cdv A outer s H E hr => pf_Chest_enrol T hr) (rk_Chest_enrol T.cls)
theorem pf__law_spins (T : Txt K mg) {f : Addr} {cdv : Value} {A : Around} {outer : List Env} {s : Shared} {H : Hp} {E : XK} (hr : Room 0 (A.deeper (PyProof.Rows.envOfC "_law_spins" (defScope s__law_spins) s.heap.objs.size f cdv))) :
    PSs (cxOf CX0 P w K mg base ["cell", "many", "spins", "k", "turn"] "_law_spins" (defScope s__law_spins) f cdv A outer s H E).nox (defBody s__law_spins) (rd__law_spins K) :=
  (pss_cons (ps_set (i := 2) sc__law_spins.nd rfl (Or.inl rfl) (pe_lst pa_nil))
      (pss_cons (ps_for PassesOwn.never rfl (pi_range1 (by rfl) T.z_range (pa_cons (pv 1) pa_nil)) (pg_name (i := 3) sc__law_spins.nd rfl (Or.inl rfl)) (pss_cons (ps_set (i := 4) sc__law_spins.nd rfl (Or.inl rfl) (pe_op op_addI (pe_op op_addI (pe_op op_modI (pv 0) pe_int) (pe_op op_mulI pe_int (pv 3))) pe_int))
      (pss_one (ps_expr (pe_bm PySem.F.plainAttrs_list PySem.F.slot_list_append PySem.F.type_list_append mt_append (pv 2) (pa_cons (pe_op op_modI (pe_op op_divI (pe_op op_mulI (pe_op op_mulI (pv 4) (pv 4)) (pe_op op_addI (pv 4) (pe_op op_mulI pe_int (pv 3)))) pe_int) pe_int) pa_nil))))))
      (pss_one (ps_ret (pv 2)))))
theorem cal__law_spins (T : Txt K mg) : Cal P w K mg base 1 "_law_spins" ["cell", "many"] (sp__law_spins K) := T.f__law_spins.cal sc__law_spins (spOf_len rfl) (fun f cdv A outer s H E hr => pf__law_spins T hr) rk__law_spins
theorem pf__law_name (T : Txt K mg) {f : Addr} {cdv : Value} {A : Around} {outer : List Env} {s : Shared} {H : Hp} {E : XK} (hr : Room 1 (A.deeper (PyProof.Rows.envOfC "_law_name" (defScope s__law_name) s.heap.objs.size f cdv))) :
    PSs (cxOf CX0 P w K mg base ["cell", "k", "letters", "xs", "word", "at"] "_law_name" (defScope s__law_name) f cdv A outer s H E).nox (defBody s__law_name) (rd__law_name K) :=
  (pss_cons (ps_set (i := 2) sc__law_name.nd rfl (Or.inr rfl) pe_str)
      (pss_cons (ps_set (i := 3) sc__law_name.nd rfl (Or.inl rfl) (pe_cal (cal__law_spins T) (hr.mono (by decide)) (pa_cons (pv 0) (pa_cons pe_int pa_nil))))
      (pss_cons (ps_set (i := 4) sc__law_name.nd rfl (Or.inl rfl) (pe_bm PySem.F.plainAttrs_str PySem.F.slot_str_join PySem.F.type_str_join mt_join pe_str (pa_cons (pe_comp (N := ["x", "letters"]) (mp := [none, some 2]) rfl ⟨rfl, by decide +kernel, by rfl, rfl, by rfl⟩ (pi_list (pe_slice sl_list (pv 3) po_none (po_some pe_int))) (fun _ _ _ _ _ _ => (pg_name (i := 0) (by show List.Nodup (["x", "letters"] : List Str); decide +kernel) rfl (Or.inl rfl))) (fun _ _ _ _ _ _ => pifs_nil) (fun _ _ _ _ _ _ => (pe_ix ix_str (pv 1) (pe_op op_modI (pv 0) pe_int) (fun _ _ => rfl)))) pa_nil)))
      (pss_cons (ps_if (pt_cmpR op_eq (pe_op op_modI (pe_ix ix_list (pv 3) pe_int (fun _ _ => rfl)) pe_int) pe_int (nomark _)) (pss_one (ps_ret (pe_op op_addS (pe_ix ix_str (pv 2) (pe_op op_modI (pe_op op_addI (pe_ix ix_list (pv 3) pe_int (fun _ _ => rfl)) (pe_op op_divI (pv 1) pe_int)) pe_int) (fun _ _ => rfl)) (pe_slice sl_str (pv 4) po_none (po_some (pe_op op_modI (pv 1) pe_int)))))) pss_nil)
      (pss_cons (ps_if (pt_cmpR op_eq (pe_op op_modI (pe_ix ix_list (pv 3) pe_int (fun _ _ => rfl)) pe_int) pe_int (nomark _)) (pss_one (ps_ret (pe_op op_addS (pe_slice sl_str (pv 4) (po_some (pe_op op_subI pe_int (pe_op op_modI (pv 1) pe_int))) po_none) (pe_ix ix_str (pv 2) (pe_op op_modI (pe_op op_addI (pe_ix ix_list (pv 3) pe_int (fun _ _ => rfl)) (pe_op op_divI (pv 1) pe_int)) pe_int) (fun _ _ => rfl))))) pss_nil)
      (pss_cons (ps_set (i := 4) sc__law_name.nd rfl (Or.inl rfl) (pe_slice sl_str (pv 4) po_none (po_some (pe_op op_modI (pe_op op_divI (pe_ix ix_list (pv 3) pe_int (fun _ _ => rfl)) pe_int) pe_int))))
      (pss_cons (ps_set (i := 5) sc__law_name.nd rfl (Or.inl rfl) (pe_op op_modI (pe_op op_divI (pe_ix ix_list (pv 3) pe_int (fun _ _ => rfl)) pe_int) (pe_op op_addI (pe_callB call_lenT (by rfl) T.z_len PySem.boot_len (pa_cons (pv 4) pa_nil)) pe_int)))
      (pss_one (ps_ret (pe_op op_addS (pe_op op_addS (pe_slice sl_str (pv 4) po_none (po_some (pv 5))) (pe_ix ix_str (pv 2) (pe_op op_modI (pe_op op_addI (pe_ix ix_list (pv 3) pe_int (fun _ _ => rfl)) (pv 1)) pe_int) (fun _ _ => rfl))) (pe_slice sl_str (pv 4) (po_some (pv 5)) po_none)))))))))))
theorem cal__law_name (T : Txt K mg) : Cal P w K mg base 2 "_law_name" ["cell", "k"] (sp__law_name K) := T.f__law_name.cal sc__law_name (spOf_len rfl) (fun f cdv A outer s H E hr => pf__law_name T hr) rk__law_name
theorem pf_Chest_check_voter (T : Txt K mg) {f : Addr} {cdv : Value} {A : Around} {outer : List Env} {s : Shared} {H : Hp} {E : XK} (hr : Room 0 (A.deeper (PyProof.Rows.envOfC "Chest.check_voter" (defScope s_Chest_check_voter) s.heap.objs.size f cdv))) :
    PSs (cxOf CX0 P w K mg base ["self", "voter"] "Chest.check_voter" (defScope s_Chest_check_voter) f cdv A outer s H E).nox (defBody s_Chest_check_voter) (rd_Chest_check_voter K) :=
  (pss_one (ps_if (pt_cmp (pc_dnotin (hu_of hr) (pv 1) (pe_fld (pv 0) rfl))) (pss_one ps_dead) pss_nil))
theorem mal_Chest_check_voter (T : Txt K mg) : CalM CX0 P w K mg base 1 "Chest" "check_voter" ["self", "voter"] (sp_Chest_check_voter K) := T.m_Chest_check_voter.cal sc_Chest_check_voter (spOf_len rfl) (fun f cdv A outer s H E hr => pf_Chest_check_voter T hr) (rk_Chest_check_voter T.cls)
theorem pf_Chest_check_work (T : Txt K mg) {f : Addr} {cdv : Value} {A : Around} {outer : List Env} {s : Shared} {H : Hp} {E : XK} (hr : Room 0 (A.deeper (PyProof.Rows.envOfC "Chest.check_work" (defScope s_Chest_check_work) s.heap.objs.size f cdv))) :
    PSs (cxOf CX0 P w K mg base ["self", "work"] "Chest.check_work" (defScope s_Chest_check_work) f cdv A outer s H E).nox (defBody s_Chest_check_work) (rd_Chest_check_work K) :=
  (pss_one (ps_if (pt_cmp (pc_dnotin (hu_of hr) (pv 1) (pe_fld (pv 0) rfl))) (pss_one ps_dead) pss_nil))
theorem mal_Chest_check_work (T : Txt K mg) : CalM CX0 P w K mg base 1 "Chest" "check_work" ["self", "work"] (sp_Chest_check_work K) := T.m_Chest_check_work.cal sc_Chest_check_work (spOf_len rfl) (fun f cdv A outer s H E hr => pf_Chest_check_work T hr) (rk_Chest_check_work T.cls)
theorem pf_Chest_unwant (T : Txt K mg) {f : Addr} {cdv : Value} {A : Around} {outer : List Env} {s : Shared} {H : Hp} {E : XK} (hr : Room 1 (A.deeper (PyProof.Rows.envOfC "Chest.unwant" (defScope s_Chest_unwant) s.heap.objs.size f cdv))) :
    PSs (cxOf CX0 P w K mg base ["self", "voter", "work"] "Chest.unwant" (defScope s_Chest_unwant) f cdv A outer s H E).nox (defBody s_Chest_unwant) (rd_Chest_unwant K) :=
  (pss_cons (ps_expr (pe_mcal (mal_Chest_check_voter T) T.c_Chest (hr.mono (by decide)) (pv 0) (pa_cons (pv 1) pa_nil)))
      (pss_cons (ps_expr (pe_mcal (mal_Chest_check_work T) T.c_Chest (hr.mono (by decide)) (pv 0) (pa_cons (pv 2) pa_nil)))
      (pss_one (ps_fld (pv 0) (pe_comp (N := ["wish", "voter", "work"]) (mp := [none, some 1, some 2]) rfl ⟨rfl, by decide +kernel, by rfl, rfl, by rfl⟩ (pi_list (pe_fld (pv 0) rfl)) (fun _ _ _ _ _ _ => (pg_name (i := 0) (by show List.Nodup (["wish", "voter", "work"] : List Str); decide +kernel) rfl (Or.inl rfl))) (fun _ _ _ _ _ _ => (pifs_one (pt_cmpR (op_ne_data hr.units) (pv 0) (pe_tup (pa_cons (pv 1) (pa_cons (pv 2) pa_nil))) (nomark _)))) (fun _ _ _ _ _ _ => (pv 0))) rfl))))
theorem mal_Chest_unwant (T : Txt K mg) : CalM CX0 P w K mg base 2 "Chest" "unwant" ["self", "voter", "work"] (sp_Chest_unwant K) := T.m_Chest_unwant.cal sc_Chest_unwant (spOf_len rfl) (fun f cdv A outer s H E hr => pf_Chest_unwant T hr) (rk_Chest_unwant T.cls)
theorem pf_Chest_want (T : Txt K mg) {f : Addr} {cdv : Value} {A : Around} {outer : List Env} {s : Shared} {H : Hp} {E : XK} (hr : Room 1 (A.deeper (PyProof.Rows.envOfC "Chest.want" (defScope s_Chest_want) s.heap.objs.size f cdv))) :
    PSs (cxOf CX0 P w K mg base ["self", "voter", "work"] "Chest.want" (defScope s_Chest_want) f cdv A outer s H E).nox (defBody s_Chest_want) (rd_Chest_want K) :=
  (pss_cons (ps_expr (pe_mcal (mal_Chest_check_voter T) T.c_Chest (hr.mono (by decide)) (pv 0) (pa_cons (pv 1) pa_nil)))
      (pss_cons (ps_expr (pe_mcal (mal_Chest_check_work T) T.c_Chest (hr.mono (by decide)) (pv 0) (pa_cons (pv 2) pa_nil)))
      (pss_one (ps_if (pt_cmpR (op_ninD hr.units) (pe_tup (pa_cons (pv 1) (pa_cons (pv 2) pa_nil))) (pe_fld (pv 0) rfl) rfl) (pss_one (ps_expr (pe_bm PySem.F.plainAttrs_list PySem.F.slot_list_append PySem.F.type_list_append mt_append (pe_fld (pv 0) rfl) (pa_cons (pe_tup (pa_cons (pv 1) (pa_cons (pv 2) pa_nil))) pa_nil)))) pss_nil))))
theorem mal_Chest_want (T : Txt K mg) : CalM CX0 P w K mg base 2 "Chest" "want" ["self", "voter", "work"] (sp_Chest_want K) := T.m_Chest_want.cal sc_Chest_want (spOf_len rfl) (fun f cdv A outer s H E hr => pf_Chest_want T hr) (rk_Chest_want T.cls)
theorem pf__law_of_wishes (T : Txt K mg) {f : Addr} {cdv : Value} {A : Around} {outer : List Env} {s : Shared} {H : Hp} {E : XK} (hr : Room 2 (A.deeper (PyProof.Rows.envOfC "_law_of_wishes" (defScope s__law_of_wishes) s.heap.objs.size f cdv))) :
    PSs (cxOf CX0 P w K mg base ["chest", "people", "works", "xs", "work", "name", "others"] "_law_of_wishes" (defScope s__law_of_wishes) f cdv A outer s H E).nox (defBody s__law_of_wishes) (rd__law_of_wishes K) :=
  (pss_cons (ps_set (i := 4) sc__law_of_wishes.nd rfl (Or.inr rfl) (pe_ix ix_list (pv 2) (pe_op op_modI (pe_ix ix_list (pv 3) pe_int (fun _ _ => rfl)) (pe_callB call_len_seq (by rfl) T.z_len PySem.boot_len (pa_cons (pv 2) pa_nil))) (fun _ _ => rfl)))
      (pss_cons (ps_set (i := 5) sc__law_of_wishes.nd rfl (Or.inl rfl) (pe_ix ix_list (pv 1) (pe_op op_modI (pe_ix ix_list (pv 3) pe_int (fun _ _ => rfl)) (pe_callB call_len_seq (by rfl) T.z_len PySem.boot_len (pa_cons (pv 1) pa_nil))) (fun _ _ => rfl)))
      (pss_cons (ps_if (PW.pt (pw_and (pt_cmpR op_eq (pe_op op_modI (pe_ix ix_list (pv 3) pe_int (fun _ _ => rfl)) pe_int) pe_int (nomark _)) (pw_and1 (pt_cmpR (op_ne_data hr.units) (pe_ix ix_list (pv 4) pe_int (fun _ _ => rfl)) (pe_lst pa_nil) (nomark _))))) (pss_one (ps_set (i := 5) sc__law_of_wishes.nd rfl (Or.inl rfl) (pe_ix ix_list (pe_ix ix_list (pv 4) pe_int (fun _ _ => rfl)) (pe_op op_modI (pe_ix ix_list (pv 3) pe_int (fun _ _ => rfl)) (pe_callB call_len_seq (by rfl) T.z_len PySem.boot_len (pa_cons (pe_ix ix_list (pv 4) pe_int (fun _ _ => rfl)) pa_nil))) (fun _ _ => rfl)))) pss_nil)
      (pss_cons (ps_setC (i := 6) (N := ["one", "work"]) (mp := [none, some 4]) sc__law_of_wishes.nd rfl (Or.inl rfl) rfl ⟨rfl, by decide +kernel, by rfl, rfl, by rfl⟩ (pi_list (pv 1)) (fun _ _ _ _ _ _ => (pg_name (i := 0) (by show List.Nodup (["one", "work"] : List Str); decide +kernel) rfl (Or.inl rfl))) (fun _ _ _ _ _ _ => (pifs_one (pt_cmpR op_notIn_seq (pv 0) (pe_ix ix_list (pv 1) pe_int (fun _ _ => rfl)) rfl))) (fun _ _ _ _ _ _ => (pv 0)) (by with_unfolding_all rfl))
      (pss_cons (ps_if (PW.pt (pw_and (pt_cmpR op_eq (pe_op op_modI (pe_ix ix_list (pv 3) pe_int (fun _ _ => rfl)) pe_int) pe_int (nomark _)) (pw_and1 (pt_cmpR (op_ne_data hr.units) (pv 6) (pe_lst pa_nil) (nomark _))))) (pss_one (ps_set (i := 5) sc__law_of_wishes.nd rfl (Or.inl rfl) (pe_ix ix_list (pv 6) (pe_op op_modI (pe_ix ix_list (pv 3) pe_int (fun _ _ => rfl)) (pe_callB call_len_seq (by rfl) T.z_len PySem.boot_len (pa_cons (pv 6) pa_nil))) (fun _ _ => rfl)))) pss_nil)
      (pss_cons (ps_if (pt_cmpR op_ltI (pe_op op_modI (pe_ix ix_list (pv 3) pe_int (fun _ _ => rfl)) pe_int) pe_int (nomark _)) (pss_cons (ps_if (pt_cmpR op_notIn_seq (pv 5) (pe_ix ix_list (pv 4) pe_int (fun _ _ => rfl)) rfl) (pss_one (ps_expr (pe_bm PySem.F.plainAttrs_list PySem.F.slot_list_append PySem.F.type_list_append mt_append (pe_ix ix_list (pv 4) pe_int (fun _ _ => rfl)) (pa_cons (pv 5) pa_nil)))) pss_nil)
      (pss_one (ps_ret (pe_mcal (mal_Chest_want T) T.c_Chest (hr.mono (by decide)) (pv 0) (pa_cons (pv 5) (pa_cons (pe_ix ix_list (pv 4) pe_int (fun _ _ => rfl)) pa_nil)))))) pss_nil)
      (pss_cons (ps_if (pt_cmpR op_in_seq (pv 5) (pe_ix ix_list (pv 4) pe_int (fun _ _ => rfl)) rfl) (pss_one (ps_expr (pe_bm PySem.F.plainAttrs_list PySem.F.slot_list_remove PySem.F.type_list_remove (mt_remove hr.units) (pe_ix ix_list (pv 4) pe_int (fun _ _ => rfl)) (pa_cons (pv 5) pa_nil)))) pss_nil)
      (pss_one (ps_ret (pe_mcal (mal_Chest_unwant T) T.c_Chest (hr.mono (by decide)) (pv 0) (pa_cons (pv 5) (pa_cons (pe_ix ix_list (pv 4) pe_int (fun _ _ => rfl)) pa_nil))))))))))))
theorem cal__law_of_wishes (T : Txt K mg) : Cal P w K mg base 3 "_law_of_wishes" ["chest", "people", "works", "xs"] (sp__law_of_wishes K) := T.f__law_of_wishes.cal sc__law_of_wishes (spOf_len rfl) (fun f cdv A outer s H E hr => pf__law_of_wishes T hr) rk__law_of_wishes
theorem pf__law_fresh (T : Txt K mg) {f : Addr} {cdv : Value} {A : Around} {outer : List Env} {s : Shared} {H : Hp} {E : XK} (hr : Room 2 (A.deeper (PyProof.Rows.envOfC "_law_fresh" (defScope s__law_fresh) s.heap.objs.size f cdv))) :
    PSs (cxOf CX0 P w K mg base ["cell", "known", "x", "names"] "_law_fresh" (defScope s__law_fresh) f cdv A outer s H E).nox (defBody s__law_fresh) (rd__law_fresh K) :=
  (pss_cons (ps_setC (i := 3) (N := ["name", "known"]) (mp := [none, some 1]) sc__law_fresh.nd rfl (Or.inl rfl) rfl ⟨rfl, by decide +kernel, by rfl, rfl, by rfl⟩ (pi_list (pe_comp (N := ["k", "cell"]) (mp := [none, some 0]) rfl ⟨rfl, by decide +kernel, by rfl, rfl, by rfl⟩ (pi_range1 (by rfl) T.z_range (pa_cons pe_int pa_nil)) (fun _ _ _ _ _ _ => (pg_name (i := 0) (by show List.Nodup (["k", "cell"] : List Str); decide +kernel) rfl (Or.inl rfl))) (fun _ _ _ _ _ _ => pifs_nil) (fun _ _ _ _ _ _ => (pe_cal (cal__law_name T) (hr.mono (by decide)) (pa_cons (pv 1) (pa_cons (pv 0) pa_nil)))))) (fun _ _ _ _ _ _ => (pg_name (i := 0) (by show List.Nodup (["name", "known"] : List Str); decide +kernel) rfl (Or.inl rfl))) (fun _ _ _ _ _ _ => (pifs_one (pt_cmpR op_notIn_seq (pv 0) (pv 1) rfl))) (fun _ _ _ _ _ _ => (pv 0)) (by with_unfolding_all rfl))
      (pss_one (ps_ret (pe_ix ix_list (pv 3) (pe_op op_modI (pv 2) (pe_callB call_len_seq (by rfl) T.z_len PySem.boot_len (pa_cons (pv 3) pa_nil))) (fun _ _ => rfl)))))
theorem cal__law_fresh (T : Txt K mg) : Cal P w K mg base 3 "_law_fresh" ["cell", "known", "x"] (sp__law_fresh K) := T.f__law_fresh.cal sc__law_fresh (spOf_len rfl) (fun f cdv A outer s H E hr => pf__law_fresh T hr) rk__law_fresh
theorem pf_Chest_leave (T : Txt K mg) {f : Addr} {cdv : Value} {A : Around} {outer : List Env} {s : Shared} {H : Hp} {E : XK} (hr : Room 1 (A.deeper (PyProof.Rows.envOfC "Chest.leave" (defScope s_Chest_leave) s.heap.objs.size f cdv))) :
    PSs (cxOf CX0 P w K mg base ["self", "name"] "Chest.leave" (defScope s_Chest_leave) f cdv A outer s H E).nox (defBody s_Chest_leave) (rd_Chest_leave K) :=
  (pss_cons (ps_expr (pe_mcal (mal_Chest_check_voter T) T.c_Chest (hr.mono (by decide)) (pv 0) (pa_cons (pv 1) pa_nil)))
      (pss_cons (ps_fldaug (pv 0) (pe_dpop1 (pe_fld (pv 0) rfl) (pv 1) ⟨rfl, rfl, rfl, rfl⟩) in_add)
      (pss_one (ps_fld (pv 0) (pe_comp (N := ["voter", "work", "name"]) (mp := [none, none, some 1]) rfl ⟨rfl, by decide +kernel, by rfl, rfl, by rfl⟩ (pi_list (pe_fld (pv 0) rfl)) (fun _ _ _ _ _ _ => (pg_tup rfl (pgs_cons (pg_name (i := 0) (by show List.Nodup (["voter", "work", "name"] : List Str); decide +kernel) rfl (Or.inl rfl)) (pgs_cons (pg_name (i := 1) (by show List.Nodup (["voter", "work", "name"] : List Str); decide +kernel) rfl (Or.inl rfl)) pgs_nil)))) (fun _ _ _ _ _ _ => (pifs_one (pt_cmpR op_ne (pv 0) (pv 2) (nomark _)))) (fun _ _ _ _ _ _ => (pe_tup (pa_cons (pv 0) (pa_cons (pv 1) pa_nil))))) rfl))))
theorem mal_Chest_leave (T : Txt K mg) : CalM CX0 P w K mg base 2 "Chest" "leave" ["self", "name"] (sp_Chest_leave K) := T.m_Chest_leave.cal sc_Chest_leave (spOf_len rfl) (fun f cdv A outer s H E hr => pf_Chest_leave T hr) (rk_Chest_leave T.cls)
theorem pf__law_of_voters (T : Txt K mg) {f : Addr} {cdv : Value} {A : Around} {outer : List Env} {s : Shared} {H : Hp} {E : XK} (hr : Room 3 (A.deeper (PyProof.Rows.envOfC "_law_of_voters" (defScope s__law_of_voters) s.heap.objs.size f cdv))) :
    PSs (cxOf CX0 P w K mg base ["chest", "people", "works", "xs", "cell", "name", "work"] "_law_of_voters" (defScope s__law_of_voters) f cdv A outer s H E).nox (defBody s__law_of_voters) (rd__law_of_voters K) :=
  (pss_cons (ps_if (PW.pt (pw_and (pt_cmpR op_eq (pe_op op_modI (pe_ix ix_list (pv 3) pe_int (fun _ _ => rfl)) pe_int) pe_int (nomark _)) (pw_and1 (pt_cmpR op_ltI (pe_callB call_len_seq (by rfl) T.z_len PySem.boot_len (pa_cons (pv 1) pa_nil)) pe_int (nomark _))))) (pss_cons (ps_set (i := 5) sc__law_of_voters.nd rfl (Or.inl rfl) (pe_cal (cal__law_fresh T) (hr.mono (by decide)) (pa_cons (pv 4) (pa_cons (pv 1) (pa_cons (pe_ix ix_list (pv 3) pe_int (fun _ _ => rfl)) pa_nil)))))
      (pss_cons (ps_expr (pe_bm PySem.F.plainAttrs_list PySem.F.slot_list_append PySem.F.type_list_append mt_append (pv 1) (pa_cons (pv 5) pa_nil)))
      (pss_one (ps_ret (pe_mcal (mal_Chest_enrol T) T.c_Chest (hr.mono (by decide)) (pv 0) (pa_cons (pv 5) pa_nil)))))) pss_nil)
      (pss_cons (ps_if (pt_cmpR (op_ne_data hr.units) (pv 1) (pe_lst pa_nil) (nomark _)) (pss_cons (ps_set (i := 5) sc__law_of_voters.nd rfl (Or.inl rfl) (pe_ix ix_list (pv 1) (pe_op op_modI (pe_ix ix_list (pv 3) pe_int (fun _ _ => rfl)) (pe_callB call_len_seq (by rfl) T.z_len PySem.boot_len (pa_cons (pv 1) pa_nil))) (fun _ _ => rfl)))
      (pss_cons (ps_expr (pe_bm PySem.F.plainAttrs_list PySem.F.slot_list_remove PySem.F.type_list_remove (mt_remove hr.units) (pv 1) (pa_cons (pv 5) pa_nil)))
      (pss_cons (ps_for PassesOwn.never rfl (pi_list (pv 2)) (pg_name (i := 6) sc__law_of_voters.nd rfl (Or.inl rfl)) (pss_one (ps_if (pt_cmpR op_in_seq (pv 5) (pe_ix ix_list (pv 6) pe_int (fun _ _ => rfl)) rfl) (pss_one (ps_expr (pe_bm PySem.F.plainAttrs_list PySem.F.slot_list_remove PySem.F.type_list_remove (mt_remove hr.units) (pe_ix ix_list (pv 6) pe_int (fun _ _ => rfl)) (pa_cons (pv 5) pa_nil)))) pss_nil)))
      (pss_one (ps_ret (pe_mcal (mal_Chest_leave T) T.c_Chest (hr.mono (by decide)) (pv 0) (pa_cons (pv 5) pa_nil))))))) pss_nil)
      (pss_one (ps_ret pe_non))))
theorem cal__law_of_voters (T : Txt K mg) : Cal P w K mg base 4 "_law_of_voters" ["chest", "people", "works", "xs", "cell"] (sp__law_of_voters K) := T.f__law_of_voters.cal sc__law_of_voters (spOf_len rfl) (fun f cdv A outer s H E hr => pf__law_of_voters T hr) rk__law_of_voters
theorem pf_check_coins (T : Txt K mg) {f : Addr} {cdv : Value} {A : Around} {outer : List Env} {s : Shared} {H : Hp} {E : XK} (hr : Room 0 (A.deeper (PyProof.Rows.envOfC "check_coins" (defScope s_check_coins) s.heap.objs.size f cdv))) :
    PSs (cxOf CX0 P w K mg base ["coins", "least"] "check_coins" (defScope s_check_coins) f cdv A outer s H E).nox (defBody s_check_coins) (rd_check_coins K) :=
  (pss_one (ps_if (PW.pt (pw_or (pt_cmpR op_ltI (pv 0) (pv 1) (nomark _)) (pw_or1 (pt_cmpR op_gtI (pv 0) (T.k_MOST_AT_ONCE.pe (by rfl)) (nomark _))))) (pss_one ps_dead) pss_nil))
theorem cal_check_coins (T : Txt K mg) : Cal P w K mg base 1 "check_coins" ["coins", "least"] (sp_check_coins K) := T.f_check_coins.cal sc_check_coins (spOf_len rfl) (fun f cdv A outer s H E hr => pf_check_coins T hr) rk_check_coins
theorem pf_Chest_propose (T : Txt K mg) {f : Addr} {cdv : Value} {A : Around} {outer : List Env} {s : Shared} {H : Hp} {E : XK} (hr : Room 2 (A.deeper (PyProof.Rows.envOfC "Chest.propose" (defScope s_Chest_propose) s.heap.objs.size f cdv))) :
    PSs (cxOf CX0 P w K mg base ["self", "work", "cost"] "Chest.propose" (defScope s_Chest_propose) f cdv A outer s H E).nox (defBody s_Chest_propose) (rd_Chest_propose K) :=
  (pss_cons (ps_expr (pe_cal (cal_check_new_name T) (hr.mono (by decide)) (pa_cons (pv 1) (pa_cons (pe_fld (pv 0) rfl) pa_nil))))
      (pss_cons (ps_expr (pe_cal (cal_check_coins T) (hr.mono (by decide)) (pa_cons (pv 2) (pa_cons pe_int pa_nil))))
      (pss_cons (ps_expr (pe_cal (cal_check_place T) (hr.mono (by decide)) (pa_cons (pe_fld (pv 0) rfl) (pa_cons (T.k_MOST_WORKS.pe (by rfl)) pa_nil))))
      (pss_one (ps_dput (hu_of hr) (pe_fld (pv 0) rfl) (pv 1) (pv 2) rfl)))))
theorem mal_Chest_propose (T : Txt K mg) : CalM CX0 P w K mg base 3 "Chest" "propose" ["self", "work", "cost"] (sp_Chest_propose K) := T.m_Chest_propose.cal sc_Chest_propose (spOf_len rfl) (fun f cdv A outer s H E hr => pf_Chest_propose T hr) (rk_Chest_propose T.cls)
theorem pf_Chest_withdraw (T : Txt K mg) {f : Addr} {cdv : Value} {A : Around} {outer : List Env} {s : Shared} {H : Hp} {E : XK} (hr : Room 1 (A.deeper (PyProof.Rows.envOfC "Chest.withdraw" (defScope s_Chest_withdraw) s.heap.objs.size f cdv))) :
    PSs (cxOf CX0 P w K mg base ["self", "work"] "Chest.withdraw" (defScope s_Chest_withdraw) f cdv A outer s H E).nox (defBody s_Chest_withdraw) (rd_Chest_withdraw K) :=
  (pss_cons (ps_expr (pe_mcal (mal_Chest_check_work T) T.c_Chest (hr.mono (by decide)) (pv 0) (pa_cons (pv 1) pa_nil)))
      (pss_cons (ps_expr (pe_dpop1 (pe_fld (pv 0) rfl) (pv 1) ⟨rfl, rfl, rfl, rfl⟩))
      (pss_one (ps_fld (pv 0) (pe_comp (N := ["voter", "other", "work"]) (mp := [none, none, some 1]) rfl ⟨rfl, by decide +kernel, by rfl, rfl, by rfl⟩ (pi_list (pe_fld (pv 0) rfl)) (fun _ _ _ _ _ _ => (pg_tup rfl (pgs_cons (pg_name (i := 0) (by show List.Nodup (["voter", "other", "work"] : List Str); decide +kernel) rfl (Or.inl rfl)) (pgs_cons (pg_name (i := 1) (by show List.Nodup (["voter", "other", "work"] : List Str); decide +kernel) rfl (Or.inl rfl)) pgs_nil)))) (fun _ _ _ _ _ _ => (pifs_one (pt_cmpR op_ne (pv 1) (pv 2) (nomark _)))) (fun _ _ _ _ _ _ => (pe_tup (pa_cons (pv 0) (pa_cons (pv 1) pa_nil))))) rfl))))
theorem mal_Chest_withdraw (T : Txt K mg) : CalM CX0 P w K mg base 2 "Chest" "withdraw" ["self", "work"] (sp_Chest_withdraw K) := T.m_Chest_withdraw.cal sc_Chest_withdraw (spOf_len rfl) (fun f cdv A outer s H E hr => pf_Chest_withdraw T hr) (rk_Chest_withdraw T.cls)
theorem pf__law_cost (T : Txt K mg) {f : Addr} {cdv : Value} {A : Around} {outer : List Env} {s : Shared} {H : Hp} {E : XK} (hr : Room 0 (A.deeper (PyProof.Rows.envOfC "_law_cost" (defScope s__law_cost) s.heap.objs.size f cdv))) :
    PSs (cxOf CX0 P w K mg base ["x"] "_law_cost" (defScope s__law_cost) f cdv A outer s H E).nox (defBody s__law_cost) (rd__law_cost K) :=
  (pss_cons (ps_if (pt_cmpR op_eq (pe_op op_modI (pv 0) pe_int) pe_int (nomark _)) (pss_one (ps_ret (pe_ix ix_list (pe_lst (pa_cons pe_int (pa_cons pe_int (pa_cons (pe_op op_powI pe_int pe_int) (pa_cons (pe_op op_subI (pe_op op_powI pe_int pe_int) pe_int) pa_nil))))) (pe_op op_modI (pe_op op_divI (pv 0) pe_int) pe_int) (fun _ _ => rfl)))) pss_nil)
      (pss_cons (ps_if (pt_cmpR op_eq (pe_op op_modI (pv 0) pe_int) pe_int (nomark _)) (pss_one (ps_ret (pe_op op_addI pe_int (pe_op op_modI (pe_op op_divI (pv 0) pe_int) pe_int)))) pss_nil)
      (pss_one (ps_ret (pe_op op_addI pe_int (pe_op op_modI (pe_op op_mulI (pv 0) pe_int) (pe_op op_powI pe_int pe_int)))))))
theorem cal__law_cost (T : Txt K mg) : Cal P w K mg base 1 "_law_cost" ["x"] (sp__law_cost K) := T.f__law_cost.cal sc__law_cost (spOf_len rfl) (fun f cdv A outer s H E hr => pf__law_cost T hr) rk__law_cost
theorem pf__law_of_works (T : Txt K mg) {f : Addr} {cdv : Value} {A : Around} {outer : List Env} {s : Shared} {H : Hp} {E : XK} (hr : Room 3 (A.deeper (PyProof.Rows.envOfC "_law_of_works" (defScope s__law_of_works) s.heap.objs.size f cdv))) :
    PSs (cxOf CX0 P w K mg base ["chest", "works", "xs", "cell", "name", "work"] "_law_of_works" (defScope s__law_of_works) f cdv A outer s H E).nox (defBody s__law_of_works) (rd__law_of_works K) :=
  (pss_cons (ps_if (PW.pt (pw_and (pt_cmpR op_gtI (pe_op op_modI (pe_op op_divI (pe_ix ix_list (pv 2) pe_int (fun _ _ => rfl)) pe_int) pe_int) pe_int (nomark _)) (pw_and1 (pt_cmpR op_ltI (pe_callB call_len_seq (by rfl) T.z_len PySem.boot_len (pa_cons (pv 1) pa_nil)) pe_int (nomark _))))) (pss_cons (ps_set (i := 4) sc__law_of_works.nd rfl (Or.inl rfl) (pe_cal (cal__law_fresh T) (hr.mono (by decide)) (pa_cons (pv 3) (pa_cons (pe_comp (N := ["work"]) (mp := [none]) rfl ⟨rfl, by decide +kernel, by rfl, rfl, by rfl⟩ (pi_list (pv 1)) (fun _ _ _ _ _ _ => (pg_name (i := 0) (by show List.Nodup (["work"] : List Str); decide +kernel) rfl (Or.inl rfl))) (fun _ _ _ _ _ _ => pifs_nil) (fun _ _ _ _ _ _ => (pe_ix ix_list (pv 0) pe_int (fun _ _ => rfl)))) (pa_cons (pe_ix ix_list (pv 2) pe_int (fun _ _ => rfl)) pa_nil)))))
      (pss_cons (ps_expr (pe_bm PySem.F.plainAttrs_list PySem.F.slot_list_append PySem.F.type_list_append mt_append (pv 1) (pa_cons (pe_lst (pa_cons (pv 4) (pa_cons (pe_cal (cal__law_cost T) (hr.mono (by decide)) (pa_cons (pe_ix ix_list (pv 2) pe_int (fun _ _ => rfl)) pa_nil)) (pa_cons (pe_lst pa_nil) pa_nil)))) pa_nil)))
      (pss_one (ps_ret (pe_mcal (mal_Chest_propose T) T.c_Chest (hr.mono (by decide)) (pv 0) (pa_cons (pv 4) (pa_cons (pe_ix ix_list (pe_ix ix_list (pv 1) (pe_un un_neg pe_int) (fun _ _ => rfl)) pe_int (fun _ _ => rfl)) pa_nil))))))) pss_nil)
      (pss_cons (ps_if (pt_cmpR (op_ne_data hr.units) (pv 1) (pe_lst pa_nil) (nomark _)) (pss_cons (ps_set (i := 5) sc__law_of_works.nd rfl (Or.inl rfl) (pe_ix ix_list (pv 1) (pe_op op_modI (pe_ix ix_list (pv 2) pe_int (fun _ _ => rfl)) (pe_callB call_len_seq (by rfl) T.z_len PySem.boot_len (pa_cons (pv 1) pa_nil))) (fun _ _ => rfl)))
      (pss_cons (ps_expr (pe_bm PySem.F.plainAttrs_list PySem.F.slot_list_remove PySem.F.type_list_remove (mt_remove hr.units) (pv 1) (pa_cons (pv 5) pa_nil)))
      (pss_one (ps_ret (pe_mcal (mal_Chest_withdraw T) T.c_Chest (hr.mono (by decide)) (pv 0) (pa_cons (pe_ix ix_list (pv 5) pe_int (fun _ _ => rfl)) pa_nil)))))) pss_nil)
      (pss_one (ps_ret pe_non))))
theorem cal__law_of_works (T : Txt K mg) : Cal P w K mg base 4 "_law_of_works" ["chest", "works", "xs", "cell"] (sp__law_of_works K) := T.f__law_of_works.cal sc__law_of_works (spOf_len rfl) (fun f cdv A outer s H E hr => pf__law_of_works T hr) rk__law_of_works
theorem pf__law_deed (T : Txt K mg) {f : Addr} {cdv : Value} {A : Around} {outer : List Env} {s : Shared} {H : Hp} {E : XK} (hr : Room 4 (A.deeper (PyProof.Rows.envOfC "_law_deed" (defScope s__law_deed) s.heap.objs.size f cdv))) :
    PSs (cxOf CX0 P w K mg base ["chest", "people", "works", "xs", "cell"] "_law_deed" (defScope s__law_deed) f cdv A outer s H E).nox (defBody s__law_deed) (rd__law_deed K) :=
  (pss_cons (ps_if (pt_cmpR op_eq (pe_op op_modI (pe_ix ix_list (pv 3) pe_int (fun _ _ => rfl)) pe_int) pe_int (nomark _)) (pss_one (ps_ret (pe_cal (cal__law_of_voters T) (hr.mono (by decide)) (pa_cons (pv 0) (pa_cons (pv 1) (pa_cons (pv 2) (pa_cons (pe_op op_cat (pe_lst (pa_cons (pe_op op_divI (pe_ix ix_list (pv 3) pe_int (fun _ _ => rfl)) pe_int) pa_nil)) (pe_slice sl_list (pv 3) (po_some pe_int) po_none)) (pa_cons (pv 4) pa_nil)))))))) pss_nil)
      (pss_cons (ps_if (PW.pt (pw_or (pt_cmpR op_ltI (pe_op op_modI (pe_ix ix_list (pv 3) pe_int (fun _ _ => rfl)) pe_int) pe_int (nomark _)) (pw_or (pt_cmpR (op_eq_data hr.units) (pv 1) (pe_lst pa_nil) (nomark _)) (pw_or1 (pt_cmpR (op_eq_data hr.units) (pv 2) (pe_lst pa_nil) (nomark _)))))) (pss_one (ps_ret (pe_cal (cal__law_of_works T) (hr.mono (by decide)) (pa_cons (pv 0) (pa_cons (pv 2) (pa_cons (pv 3) (pa_cons (pv 4) pa_nil))))))) pss_nil)
      (pss_one (ps_ret (pe_cal (cal__law_of_wishes T) (hr.mono (by decide)) (pa_cons (pv 0) (pa_cons (pv 1) (pa_cons (pv 2) (pa_cons (pv 3) pa_nil)))))))))
theorem cal__law_deed (T : Txt K mg) : Cal P w K mg base 5 "_law_deed" ["chest", "people", "works", "xs", "cell"] (sp__law_deed K) := T.f__law_deed.cal sc__law_deed (spOf_len rfl) (fun f cdv A outer s H E hr => pf__law_deed T hr) rk__law_deed
theorem pf_law (T : Txt K mg) {f : Addr} {cdv : Value} {A : Around} {outer : List Env} {s : Shared} {H : Hp} {E : XK} (hr : Room 5 (A.deeper (PyProof.Rows.envOfC "law" (defScope s_law) s.heap.objs.size f cdv))) :
    PSs (cxOf CX0 P w K mg base ["script", "cell", "chest", "people", "works", "held", "k", "one", "xs", "found", "due", "row"] "law" (defScope s_law) f cdv A outer s H E).nox (defBody s_law) (rd_law K) :=
  (pss_cons (ps_set (i := 1) sc_law.nd rfl (Or.inl rfl) (pe_cal (cal__law_nth T) (hr.mono (by decide)) (pa_cons (pv 0) (pa_cons pe_int pa_nil))))
      (pss_cons (ps_set (i := 2) sc_law.nd rfl (Or.inl rfl) (pe_mkcal0 (mal_Chest___init__ T) T.c_Chest (hr.mono (by decide))))
      (pss_cons (ps_set (i := 3) sc_law.nd rfl (Or.inl rfl) (pe_lst pa_nil))
      (pss_cons (ps_set (i := 4) sc_law.nd rfl (Or.inl rfl) (pe_lst pa_nil))
      (pss_cons (ps_set (i := 5) sc_law.nd rfl (Or.inl rfl) (pe_lst pa_nil))
      (pss_cons (ps_for PassesOwn.never rfl (pi_range1 (by rfl) T.z_range (pa_cons (pe_op op_modI (pe_cal (cal__law_nth T) (hr.mono (by decide)) (pa_cons (pv 0) (pa_cons pe_int pa_nil))) pe_int) pa_nil)) (pg_name (i := 6) sc_law.nd rfl (Or.inl rfl)) (pss_cons (ps_expr (pe_bm PySem.F.plainAttrs_list PySem.F.slot_list_append PySem.F.type_list_append mt_append (pv 3) (pa_cons (pe_cal (cal__law_name T) (hr.mono (by decide)) (pa_cons (pv 1) (pa_cons (pv 6) pa_nil))) pa_nil)))
      (pss_one (ps_expr (pe_mcal (mal_Chest_enrol T) T.c_Chest (hr.mono (by decide)) (pv 2) (pa_cons (pe_ix ix_list (pv 3) (pe_un un_neg pe_int) (fun _ _ => rfl)) pa_nil))))))
      (pss_cons (ps_for PassesOwn.never rfl (pi_list (pe_slice sl_list (pv 0) (po_some pe_int) (po_some pe_int))) (pg_name (i := 7) sc_law.nd rfl (Or.inl rfl)) (pss_cons (ps_set (i := 8) sc_law.nd rfl (Or.inl rfl) (pe_cal (cal__law_spins T) (hr.mono (by decide)) (pa_cons (pv 7) (pa_cons pe_int pa_nil))))
      (pss_cons (ps_if (pt_cmpR op_notN (pe_cal (cal__law_deed T) (hr.mono (by decide)) (pa_cons (pv 2) (pa_cons (pv 3) (pa_cons (pv 4) (pa_cons (pv 8) (pa_cons (pv 1) pa_nil)))))) pe_non (nomark _)) (pss_one (ps_ret pe_bl)) pss_nil)
      (pss_one (ps_if (pt_not (pt_val (pe_cal (cal__law_right T) (hr.mono (by decide)) (pa_cons (pv 2) (pa_cons (pv 3) (pa_cons (pv 4) (pa_cons (pv 5) pa_nil))))))) (pss_one (ps_ret pe_bl)) pss_nil)))))
      (pss_cons (ps_for PassesOwn.never rfl (pi_list (pv 5)) (pg_tup rfl (pgs_cons (pg_name (i := 9) sc_law.nd rfl (Or.inl rfl)) (pgs_cons (pg_name (i := 10) sc_law.nd rfl (Or.inl rfl)) pgs_nil))) (pss_one (ps_if (pt_cmpR (op_ne_data hr.units) (pv 9) (pv 10) (nomark _)) (pss_one (ps_ret pe_bl)) pss_nil)))
      (pss_cons (ps_for PassesOwn.never rfl (pi_list (pv 5)) (pg_tup rfl (pgs_cons (pg_name (i := 9) sc_law.nd rfl (Or.inl rfl)) (pgs_cons (pg_name (i := 10) sc_law.nd rfl (Or.inl rfl)) pgs_nil))) (pss_cons (ps_for PassesOwn.never rfl (pi_list (pv 9)) (pg_name (i := 11) sc_law.nd rfl (Or.inl rfl)) (pss_one (ps_expr (pe_bm PySem.F.plainAttrs_list PySem.F.slot_list_extend PySem.F.type_list_extend mt_extend (pe_ix ix_tup (pv 11) pe_int (fun _ _ => rfl)) (pa_cons (pv 3) pa_nil)))))
      (pss_one (ps_expr (pe_bm0 PySem.F.plainAttrs_list PySem.F.slot_list_clear PySem.F.type_list_clear mt_clear (pv 9))))))
      (pss_one (ps_ret (pe_cal (cal__law_right T) (hr.mono (by decide)) (pa_cons (pv 2) (pa_cons (pv 3) (pa_cons (pv 4) (pa_cons (pe_lst pa_nil) pa_nil))))))))))))))))
end

end My
open PySem PySem.W PyProof.Rows

-- twins that the head would lay out at length are switched off: their names are taken
noncomputable def PySem.W.Fast.tw4103089191945627713 : Unit := ()
noncomputable def PySem.W.Fast.tw14718735240675389189 : Unit := ()
noncomputable def PySem.W.Fast.tw14748479488255505711 : Unit := ()
noncomputable def PySem.W.Fast.tw11631715369506102492 : Unit := ()
noncomputable def PySem.W.Fast.tw2765332442262777472 : Unit := ()
noncomputable def PySem.W.Fast.tw12450594264422817316 : Unit := ()
noncomputable def PySem.W.Fast.tw15115938348279297379 : Unit := ()
noncomputable def PySem.W.Fast.tw4331055174477616492 : Unit := ()
noncomputable def PySem.W.Fast.tw11898716655512345470 : Unit := ()
noncomputable def PySem.W.Fast.tw17950078376267703205 : Unit := ()
noncomputable def PySem.W.Fast.tw886750791313188381 : Unit := ()
noncomputable def PySem.W.Fast.tw2594728336322456724 : Unit := ()
noncomputable def PySem.W.Fast.tw7635310380148998454 : Unit := ()
noncomputable def PySem.W.Fast.tw2586882271754786715 : Unit := ()
noncomputable def PySem.W.Fast.tw10289430768197671639 : Unit := ()
noncomputable def PySem.W.Fast.tw11306434237663050931 : Unit := ()
noncomputable def PySem.W.Fast.tw15957149080046481348 : Unit := ()
noncomputable def PySem.W.Fast.tw15953864436868390340 : Unit := ()
noncomputable def PySem.W.Fast.tw11888379976603325124 : Unit := ()
noncomputable def PySem.W.Fast.tw3173985681441059076 : Unit := ()
noncomputable def PySem.W.Fast.tw5918020980665023355 : Unit := ()
noncomputable def PySem.W.Fast.tw8824400113420583540 : Unit := ()
noncomputable def PySem.W.Fast.tw2998746445973559710 : Unit := ()
noncomputable def PySem.W.Fast.tw18022404458905098851 : Unit := ()
noncomputable def PySem.W.Fast.tw12384610223852108966 : Unit := ()
noncomputable def PySem.W.Fast.tw4811063382151804327 : Unit := ()
noncomputable def PySem.W.Fast.tw16211489758596828472 : Unit := ()
noncomputable def PySem.W.Fast.tw4763527407725443721 : Unit := ()
noncomputable def PySem.W.Fast.tw793561462234151202 : Unit := ()
noncomputable def PySem.W.Fast.tw10094915341196712342 : Unit := ()
noncomputable def PySem.W.Fast.tw2435885812198034916 : Unit := ()
noncomputable def PySem.W.Fast.tw1298617392103446206 : Unit := ()
noncomputable def PySem.W.Fast.tw17858278042212348097 : Unit := ()
noncomputable def PySem.W.Fast.tw18125881479565431014 : Unit := ()
noncomputable def PySem.W.Fast.tw16565299226485406926 : Unit := ()
noncomputable def PySem.W.Fast.tw4591648644891404282 : Unit := ()
noncomputable def PySem.W.Fast.tw8332320080090851095 : Unit := ()
noncomputable def PySem.W.Fast.tw330559937235011145 : Unit := ()
noncomputable def PySem.W.Fast.tw2640020401406906440 : Unit := ()
noncomputable def PySem.W.Fast.tw18277452684439609047 : Unit := ()
noncomputable def PySem.W.Fast.tw13894098171834809262 : Unit := ()
noncomputable def PySem.W.Fast.tw5192659090731264921 : Unit := ()
noncomputable def PySem.W.Fast.tw858223515934579089 : Unit := ()
noncomputable def PySem.W.Fast.tw127147463830771795 : Unit := ()
noncomputable def PySem.W.Fast.tw8897255413566809120 : Unit := ()
noncomputable def PySem.W.Fast.tw3191294100666114185 : Unit := ()
noncomputable def PySem.W.Fast.tw7120220825352188374 : Unit := ()

set_option maxRecDepth 100000 in
set_option maxHeartbeats 0 in
theorem PySem.Challenge.cw_purse_k42_wishes_and_proposals_holds : PySem.Challenge.rw_purse_k42_wishes_and_proposals.Holds := by
  w_on; o_law; k_head; (case hw => w_witness2)
  k_fill
  refine L2.walk_law (l := PySem.Challenge.rw_purse_k42_wishes_and_proposals) (k := 6) rfl rfl ⟨rfl, by decide, by decide⟩ (fun w h Y => PySem.W.kIn_of Y) ?F
  case F =>
    intro w mg fa h KX G hmg
    have h__law_nth : L2.FunIn (L2.KOf KX) mg "_law_nth" My.s__law_nth ["script", "k"] := by
      dsimp only [L2.KOf]
      refine' L2.fun_in KX G ?a ?l ?c ?k ?b
      (case a => k_is); (case l => k_is); (case c => k_is); (case k => k_is); (case b => exact fun _ _ _ _ _ _ us hl => match us, hl with | [_, _], _ => rfl)
    have m_Chest___init__ : L2.MethIn (L2.KOf KX) "Chest" "__init__" "Chest.__init__" My.s_Chest___init__ ["self"] := by
      dsimp only [L2.KOf]
      refine' L2.meth_in (h := h) ?a ?a4 ?fn ?l ?c ?k ?b
      (case a => k_is); (case a4 => k_is); (case fn => k_is); (case l => k_is); (case c => k_is); (case k => k_is); (case b => exact fun _ _ _ _ _ _ us hl => match us, hl with | [_], _ => rfl)
    have h__law_due : L2.FunIn (L2.KOf KX) mg "_law_due" My.s__law_due ["people", "works"] := by
      dsimp only [L2.KOf]
      refine' L2.fun_in KX G ?a ?l ?c ?k ?b
      (case a => k_is); (case l => k_is); (case c => k_is); (case k => k_is); (case b => exact fun _ _ _ _ _ _ us hl => match us, hl with | [_, _], _ => rfl)
    have m_Chest_wanters : L2.MethIn (L2.KOf KX) "Chest" "wanters" "Chest.wanters" My.s_Chest_wanters ["self", "work"] := by
      dsimp only [L2.KOf]
      refine' L2.meth_in (h := h) ?a ?a4 ?fn ?l ?c ?k ?b
      (case a => k_is); (case a4 => k_is); (case fn => k_is); (case l => k_is); (case c => k_is); (case k => k_is); (case b => exact fun _ _ _ _ _ _ us hl => match us, hl with | [_, _], _ => rfl)
    have m_Chest_works : L2.MethIn (L2.KOf KX) "Chest" "works" "Chest.works" My.s_Chest_works ["self"] := by
      dsimp only [L2.KOf]
      refine' L2.meth_in (h := h) ?a ?a4 ?fn ?l ?c ?k ?b
      (case a => k_is); (case a4 => k_is); (case fn => k_is); (case l => k_is); (case c => k_is); (case k => k_is); (case b => exact fun _ _ _ _ _ _ us hl => match us, hl with | [_], _ => rfl)
    have h__law_counts : L2.FunIn (L2.KOf KX) mg "_law_counts" My.s__law_counts ["thing"] := by
      dsimp only [L2.KOf]
      refine' L2.fun_in KX G ?a ?l ?c ?k ?b
      (case a => k_is); (case l => k_is); (case c => k_is); (case k => k_is); (case b => exact fun _ _ _ _ _ _ us hl => match us, hl with | [_], _ => rfl)
    have m_Chest_voters : L2.MethIn (L2.KOf KX) "Chest" "voters" "Chest.voters" My.s_Chest_voters ["self"] := by
      dsimp only [L2.KOf]
      refine' L2.meth_in (h := h) ?a ?a4 ?fn ?l ?c ?k ?b
      (case a => k_is); (case a4 => k_is); (case fn => k_is); (case l => k_is); (case c => k_is); (case k => k_is); (case b => exact fun _ _ _ _ _ _ us hl => match us, hl with | [_], _ => rfl)
    have h__law_right : L2.FunIn (L2.KOf KX) mg "_law_right" My.s__law_right ["chest", "people", "works", "held"] := by
      dsimp only [L2.KOf]
      refine' L2.fun_in KX G ?a ?l ?c ?k ?b
      (case a => k_is); (case l => k_is); (case c => k_is); (case k => k_is); (case b => exact fun _ _ _ _ _ _ us hl => match us, hl with | [_, _, _, _], _ => rfl)
    have h_is_name : L2.FunIn (L2.KOf KX) mg "is_name" My.s_is_name ["name"] := by
      dsimp only [L2.KOf]
      refine' L2.fun_in KX G ?a ?l ?c ?k ?b
      (case a => k_is); (case l => k_is); (case c => k_is); (case k => k_is); (case b => exact fun _ _ _ _ _ _ us hl => match us, hl with | [_], _ => rfl)
    have h_check_new_name : L2.FunIn (L2.KOf KX) mg "check_new_name" My.s_check_new_name ["name", "names"] := by
      dsimp only [L2.KOf]
      refine' L2.fun_in KX G ?a ?l ?c ?k ?b
      (case a => k_is); (case l => k_is); (case c => k_is); (case k => k_is); (case b => exact fun _ _ _ _ _ _ us hl => match us, hl with | [_, _], _ => rfl)
    have h_check_place : L2.FunIn (L2.KOf KX) mg "check_place" My.s_check_place ["names", "most"] := by
      dsimp only [L2.KOf]
      refine' L2.fun_in KX G ?a ?l ?c ?k ?b
      (case a => k_is); (case l => k_is); (case c => k_is); (case k => k_is); (case b => exact fun _ _ _ _ _ _ us hl => match us, hl with | [_, _], _ => rfl)
    have m_Chest_enrol : L2.MethIn (L2.KOf KX) "Chest" "enrol" "Chest.enrol" My.s_Chest_enrol ["self", "name"] := by
      dsimp only [L2.KOf]
      refine' L2.meth_in (h := h) ?a ?a4 ?fn ?l ?c ?k ?b
      (case a => k_is); (case a4 => k_is); (case fn => k_is); (case l => k_is); (case c => k_is); (case k => k_is); (case b => exact fun _ _ _ _ _ _ us hl => match us, hl with | [_, _], _ => rfl)
    have h__law_spins : L2.FunIn (L2.KOf KX) mg "_law_spins" My.s__law_spins ["cell", "many"] := by
      dsimp only [L2.KOf]
      refine' L2.fun_in KX G ?a ?l ?c ?k ?b
      (case a => k_is); (case l => k_is); (case c => k_is); (case k => k_is); (case b => exact fun _ _ _ _ _ _ us hl => match us, hl with | [_, _], _ => rfl)
    have h__law_name : L2.FunIn (L2.KOf KX) mg "_law_name" My.s__law_name ["cell", "k"] := by
      dsimp only [L2.KOf]
      refine' L2.fun_in KX G ?a ?l ?c ?k ?b
      (case a => k_is); (case l => k_is); (case c => k_is); (case k => k_is); (case b => exact fun _ _ _ _ _ _ us hl => match us, hl with | [_, _], _ => rfl)
    have m_Chest_check_voter : L2.MethIn (L2.KOf KX) "Chest" "check_voter" "Chest.check_voter" My.s_Chest_check_voter ["self", "voter"] := by
      dsimp only [L2.KOf]
      refine' L2.meth_in (h := h) ?a ?a4 ?fn ?l ?c ?k ?b
      (case a => k_is); (case a4 => k_is); (case fn => k_is); (case l => k_is); (case c => k_is); (case k => k_is); (case b => exact fun _ _ _ _ _ _ us hl => match us, hl with | [_, _], _ => rfl)
    have m_Chest_check_work : L2.MethIn (L2.KOf KX) "Chest" "check_work" "Chest.check_work" My.s_Chest_check_work ["self", "work"] := by
      dsimp only [L2.KOf]
      refine' L2.meth_in (h := h) ?a ?a4 ?fn ?l ?c ?k ?b
      (case a => k_is); (case a4 => k_is); (case fn => k_is); (case l => k_is); (case c => k_is); (case k => k_is); (case b => exact fun _ _ _ _ _ _ us hl => match us, hl with | [_, _], _ => rfl)
    have m_Chest_unwant : L2.MethIn (L2.KOf KX) "Chest" "unwant" "Chest.unwant" My.s_Chest_unwant ["self", "voter", "work"] := by
      dsimp only [L2.KOf]
      refine' L2.meth_in (h := h) ?a ?a4 ?fn ?l ?c ?k ?b
      (case a => k_is); (case a4 => k_is); (case fn => k_is); (case l => k_is); (case c => k_is); (case k => k_is); (case b => exact fun _ _ _ _ _ _ us hl => match us, hl with | [_, _, _], _ => rfl)
    have m_Chest_want : L2.MethIn (L2.KOf KX) "Chest" "want" "Chest.want" My.s_Chest_want ["self", "voter", "work"] := by
      dsimp only [L2.KOf]
      refine' L2.meth_in (h := h) ?a ?a4 ?fn ?l ?c ?k ?b
      (case a => k_is); (case a4 => k_is); (case fn => k_is); (case l => k_is); (case c => k_is); (case k => k_is); (case b => exact fun _ _ _ _ _ _ us hl => match us, hl with | [_, _, _], _ => rfl)
    have h__law_of_wishes : L2.FunIn (L2.KOf KX) mg "_law_of_wishes" My.s__law_of_wishes ["chest", "people", "works", "xs"] := by
      dsimp only [L2.KOf]
      refine' L2.fun_in KX G ?a ?l ?c ?k ?b
      (case a => k_is); (case l => k_is); (case c => k_is); (case k => k_is); (case b => exact fun _ _ _ _ _ _ us hl => match us, hl with | [_, _, _, _], _ => rfl)
    have h__law_fresh : L2.FunIn (L2.KOf KX) mg "_law_fresh" My.s__law_fresh ["cell", "known", "x"] := by
      dsimp only [L2.KOf]
      refine' L2.fun_in KX G ?a ?l ?c ?k ?b
      (case a => k_is); (case l => k_is); (case c => k_is); (case k => k_is); (case b => exact fun _ _ _ _ _ _ us hl => match us, hl with | [_, _, _], _ => rfl)
    have m_Chest_leave : L2.MethIn (L2.KOf KX) "Chest" "leave" "Chest.leave" My.s_Chest_leave ["self", "name"] := by
      dsimp only [L2.KOf]
      refine' L2.meth_in (h := h) ?a ?a4 ?fn ?l ?c ?k ?b
      (case a => k_is); (case a4 => k_is); (case fn => k_is); (case l => k_is); (case c => k_is); (case k => k_is); (case b => exact fun _ _ _ _ _ _ us hl => match us, hl with | [_, _], _ => rfl)
    have h__law_of_voters : L2.FunIn (L2.KOf KX) mg "_law_of_voters" My.s__law_of_voters ["chest", "people", "works", "xs", "cell"] := by
      dsimp only [L2.KOf]
      refine' L2.fun_in KX G ?a ?l ?c ?k ?b
      (case a => k_is); (case l => k_is); (case c => k_is); (case k => k_is); (case b => exact fun _ _ _ _ _ _ us hl => match us, hl with | [_, _, _, _, _], _ => rfl)
    have h_check_coins : L2.FunIn (L2.KOf KX) mg "check_coins" My.s_check_coins ["coins", "least"] := by
      dsimp only [L2.KOf]
      refine' L2.fun_in KX G ?a ?l ?c ?k ?b
      (case a => k_is); (case l => k_is); (case c => k_is); (case k => k_is); (case b => exact fun _ _ _ _ _ _ us hl => match us, hl with | [_, _], _ => rfl)
    have m_Chest_propose : L2.MethIn (L2.KOf KX) "Chest" "propose" "Chest.propose" My.s_Chest_propose ["self", "work", "cost"] := by
      dsimp only [L2.KOf]
      refine' L2.meth_in (h := h) ?a ?a4 ?fn ?l ?c ?k ?b
      (case a => k_is); (case a4 => k_is); (case fn => k_is); (case l => k_is); (case c => k_is); (case k => k_is); (case b => exact fun _ _ _ _ _ _ us hl => match us, hl with | [_, _, _], _ => rfl)
    have m_Chest_withdraw : L2.MethIn (L2.KOf KX) "Chest" "withdraw" "Chest.withdraw" My.s_Chest_withdraw ["self", "work"] := by
      dsimp only [L2.KOf]
      refine' L2.meth_in (h := h) ?a ?a4 ?fn ?l ?c ?k ?b
      (case a => k_is); (case a4 => k_is); (case fn => k_is); (case l => k_is); (case c => k_is); (case k => k_is); (case b => exact fun _ _ _ _ _ _ us hl => match us, hl with | [_, _], _ => rfl)
    have h__law_cost : L2.FunIn (L2.KOf KX) mg "_law_cost" My.s__law_cost ["x"] := by
      dsimp only [L2.KOf]
      refine' L2.fun_in KX G ?a ?l ?c ?k ?b
      (case a => k_is); (case l => k_is); (case c => k_is); (case k => k_is); (case b => exact fun _ _ _ _ _ _ us hl => match us, hl with | [_], _ => rfl)
    have h__law_of_works : L2.FunIn (L2.KOf KX) mg "_law_of_works" My.s__law_of_works ["chest", "works", "xs", "cell"] := by
      dsimp only [L2.KOf]
      refine' L2.fun_in KX G ?a ?l ?c ?k ?b
      (case a => k_is); (case l => k_is); (case c => k_is); (case k => k_is); (case b => exact fun _ _ _ _ _ _ us hl => match us, hl with | [_, _, _, _], _ => rfl)
    have h__law_deed : L2.FunIn (L2.KOf KX) mg "_law_deed" My.s__law_deed ["chest", "people", "works", "xs", "cell"] := by
      dsimp only [L2.KOf]
      refine' L2.fun_in KX G ?a ?l ?c ?k ?b
      (case a => k_is); (case l => k_is); (case c => k_is); (case k => k_is); (case b => exact fun _ _ _ _ _ _ us hl => match us, hl with | [_, _, _, _, _], _ => rfl)
    have h_law : L2.FunIn (L2.KOf KX) mg "law" My.s_law ["script"] := by
      dsimp only [L2.KOf]
      refine' L2.fun_in KX G ?a ?l ?c ?k ?b
      (case a => k_is); (case l => k_is); (case c => k_is); (case k => k_is); (case b => exact fun _ _ _ _ _ _ us hl => match us, hl with | [_], _ => rfl)
    have c_Chest : L2.ClsIn (L2.KOf KX) mg "Chest" := by
      dsimp only [L2.KOf]
      refine' L2.cls_in KX G ?a ?pg ?hd ?po ?sa ?mk ?kp
      (case a => k_is); (case pg => k_is); (case hd => k_is); (case po => k_is); (case sa => k_is); (case mk => k_is); (case kp => k_is)
    have n_Chest_purses : L2.NoAttr (L2.KOf KX) (L2.clsA (L2.KOf KX) "Chest") "purses" := by
      dsimp only [L2.KOf]
      refine' L2.noattr_in ?a ?n
      (case a => k_is); (case n => k_is)
    have n_Chest_costs : L2.NoAttr (L2.KOf KX) (L2.clsA (L2.KOf KX) "Chest") "costs" := by
      dsimp only [L2.KOf]
      refine' L2.noattr_in ?a ?n
      (case a => k_is); (case n => k_is)
    have n_Chest_wishes : L2.NoAttr (L2.KOf KX) (L2.clsA (L2.KOf KX) "Chest") "wishes" := by
      dsimp only [L2.KOf]
      refine' L2.noattr_in ?a ?n
      (case a => k_is); (case n => k_is)
    have n_Chest_unshared : L2.NoAttr (L2.KOf KX) (L2.clsA (L2.KOf KX) "Chest") "unshared" := by
      dsimp only [L2.KOf]
      refine' L2.noattr_in ?a ?n
      (case a => k_is); (case n => k_is)
    have n_Chest_gifts : L2.NoAttr (L2.KOf KX) (L2.clsA (L2.KOf KX) "Chest") "gifts" := by
      dsimp only [L2.KOf]
      refine' L2.noattr_in ?a ?n
      (case a => k_is); (case n => k_is)
    have n_Chest_outlay : L2.NoAttr (L2.KOf KX) (L2.clsA (L2.KOf KX) "Chest") "outlay" := by
      dsimp only [L2.KOf]
      refine' L2.noattr_in ?a ?n
      (case a => k_is); (case n => k_is)
    have cls : My.Cls (L2.KOf KX) := ⟨c_Chest.cls, n_Chest_purses, n_Chest_costs, n_Chest_wishes, n_Chest_unshared, n_Chest_gifts, n_Chest_outlay⟩
    have z_all : mg "all" = none := by
      refine' L2.mg_name KX G ?z; (case z => k_is)
    have z_bool : mg "bool" = none := by
      refine' L2.mg_name KX G ?z; (case z => k_is)
    have z_int : mg "int" = none := by
      refine' L2.mg_name KX G ?z; (case z => k_is)
    have z_isinstance : mg "isinstance" = none := by
      refine' L2.mg_name KX G ?z; (case z => k_is)
    have z_len : mg "len" = none := by
      refine' L2.mg_name KX G ?z; (case z => k_is)
    have z_list : mg "list" = none := by
      refine' L2.mg_name KX G ?z; (case z => k_is)
    have z_range : mg "range" = none := by
      refine' L2.mg_name KX G ?z; (case z => k_is)
    have z_tuple : mg "tuple" = none := by
      refine' L2.mg_name KX G ?z; (case z => k_is)
    have k_LETTERS : L2.KonS mg "LETTERS" "abcdefghijklmnopqrstuvwxyz" := by
      refine' L2.konS_in KX G ?z; (case z => k_is)
    have k_MOST_AT_ONCE : L2.KonIn mg "MOST_AT_ONCE" 1000000000 := by
      refine' L2.kon_in KX G ?z; (case z => k_is)
    have k_MOST_LETTERS : L2.KonIn mg "MOST_LETTERS" 8 := by
      refine' L2.kon_in KX G ?z; (case z => k_is)
    have k_MOST_VOTERS : L2.KonIn mg "MOST_VOTERS" 20 := by
      refine' L2.kon_in KX G ?z; (case z => k_is)
    have k_MOST_WORKS : L2.KonIn mg "MOST_WORKS" 12 := by
      refine' L2.kon_in KX G ?z; (case z => k_is)
    exact L2.FunIn.law h_law hmg My.sc_law (L2.spOf_len rfl) (fun base f cdv A outer s H E hr => My.pf_law ⟨h__law_nth, m_Chest___init__, h__law_due, m_Chest_wanters, m_Chest_works, h__law_counts, m_Chest_voters, h__law_right, h_is_name, h_check_new_name, h_check_place, m_Chest_enrol, h__law_spins, h__law_name, m_Chest_check_voter, m_Chest_check_work, m_Chest_unwant, m_Chest_want, h__law_of_wishes, h__law_fresh, m_Chest_leave, h__law_of_voters, h_check_coins, m_Chest_propose, m_Chest_withdraw, h__law_cost, h__law_of_works, h__law_deed, h_law, c_Chest, cls, z_all, z_bool, z_int, z_isinstance, z_len, z_list, z_range, z_tuple, k_LETTERS, k_MOST_AT_ONCE, k_MOST_LETTERS, k_MOST_VOTERS, k_MOST_WORKS⟩ hr) My.rk_law

