import PyProof.Rows.All
import Wide.All
import OpenK.AllK
import Wide.FinOn
import PyProof.EqAt
import PyProof.EqKinds
import PyProof.TupleCall
import KE.BitLaws
import Open.SpecLaws
import KE.OsHead
import KE.OsGo
import PyProof.ZipIter
import PyProof.ListNew
import PySem.Challenge.RW_shoelaces_s01_answers
set_option Elab.async false
set_option linter.all false
set_option maxRecDepth 100000
/-! THE HAND LAYER, for ints, bools, texts, own classes, lists, tuples, dicts, comprehensions, walks over dicts, enumerate, zip, reversed, texts, calls, loops. Paste it whole ahead of your own text; what your proof does not reach may be deleted. -/
namespace L2
open PySem PySem.Spec PyProof.Rows

/-- a key: an int or a str -/
abbrev Key := Sum Int Str
def keyIs : Key → Value → Bool
  | .inl k, v => Value.isInt k v
  | .inr x, v => Value.isStrOf x v
def keyH (w : World) : Key → Int
  | .inl k => hashInt k
  | .inr x => hashStr w x
theorem keyIs_shape : ∀ {k : Key} {v : Value}, keyIs k v = true → (∃ i t, k = Sum.inl i ∧ v = Value.int i t) ∨ (∃ x t, k = Sum.inr x ∧ v = Value.str x t)
  | .inl i, v, h => by
    obtain ⟨t, e⟩ := Value.isInt_shape (k := i) (v := v) h
    exact .inl ⟨i, t, rfl, e⟩
  | .inr x, v, h => by
    obtain ⟨t, e⟩ := Value.isStrOf_shape (x := x) (v := v) h
    exact .inr ⟨x, t, rfl, e⟩
theorem key_ll (a b : Int) : decide ((Sum.inl a : Key) = Sum.inl b) = (a == b) := by
  by_cases e : a = b
  · subst e; simp
  · have h : ¬ (Sum.inl a : Key) = Sum.inl b := fun q => e (Sum.inl.inj q)
    rw [decide_eq_false h]
    exact (beq_eq_false_iff_ne.mpr e).symm
theorem key_rr (a b : Str) : decide ((Sum.inr a : Key) = Sum.inr b) = decide (a = b) := by
  by_cases e : a = b
  · subst e; simp
  · have h : ¬ (Sum.inr a : Key) = Sum.inr b := fun q => e (Sum.inr.inj q)
    rw [decide_eq_false h, decide_eq_false e]
theorem key_lr (a : Int) (b : Str) : decide ((Sum.inl a : Key) = Sum.inr b) = false := decide_eq_false (fun q => nomatch q)
theorem key_rl (a : Str) (b : Int) : decide ((Sum.inr a : Key) = Sum.inl b) = false := decide_eq_false (fun q => nomatch q)

def mixKind (prog : Program) (w : World) : PySem.KeyKind prog w Key where
  is := keyIs
  hash := keyH w
  inj := fun v a b ha hb => by
    rcases keyIs_shape ha with ⟨i, t, rfl, rfl⟩ | ⟨x, t, rfl, rfl⟩
    · rcases keyIs_shape hb with ⟨j, u, rfl, e⟩ | ⟨y, u, rfl, e⟩
      · injection e with e1 _; rw [e1]
      · exact nomatch e
    · rcases keyIs_shape hb with ⟨j, u, rfl, e⟩ | ⟨y, u, rfl, e⟩
      · exact nomatch e
      · injection e with e1 _; rw [e1]
  byValue := fun k v h => by
    rcases keyIs_shape h with ⟨i, t, rfl, rfl⟩ | ⟨x, t, rfl, rfl⟩ <;> rfl
  pyHash := fun hv h => by
    rcases keyIs_shape hv with ⟨i, t, rfl, rfl⟩ | ⟨x, t, rfl, rfl⟩
    · exact wpAny_pyHash_int h
    · exact wpAny_pyHash_str h
  eqBool := fun hu hv h => by
    rcases keyIs_shape hu with ⟨i, t, rfl, rfl⟩ | ⟨x, t, rfl, rfl⟩
    · rcases keyIs_shape hv with ⟨j, u, rfl, rfl⟩ | ⟨y, u, rfl, rfl⟩
      · rw [key_ll] at h; exact wpAny_eqBool_int h
      · rw [key_lr] at h; exact SeqAt.EqAt.int_str i t y u _ _ _ _ h
    · rcases keyIs_shape hv with ⟨j, u, rfl, rfl⟩ | ⟨y, u, rfl, rfl⟩
      · rw [key_rl] at h; exact SeqAt.EqAt.str_int x t j u _ _ _ _ h
      · rw [key_rr] at h; exact wpAny_eqBool_str h
  «strs» := fun k x t v h => by
    rcases keyIs_shape h with ⟨i, u, rfl, e⟩ | ⟨y, u, rfl, e⟩
    · exact nomatch e
    · injection e with e1 _
      subst e1
      cases v <;> rfl

end L2

namespace L2
open PySem PySem.Spec PyProof.Rows

/-- a value, without the heap -/
inductive V where
  | non | bl (b : Bool) | int (i : Int) | str (x : Str) | byt (b : Array UInt8) | flt (b : UInt64) | ref (a : Addr) | ty (n : String)
  deriving DecidableEq

def RelV : V → Value → Prop
  | .non, u => u = Value.none
  | .bl b, u => u = Value.bool b
  | .int i, u => ∃ t, u = Value.int i t
  | .str x, u => ∃ t, u = Value.str x t
  | .byt b, u => ∃ t, u = Value.bytes b t
  | .flt b, u => ∃ t, u = Value.float b t
  | .ref a, u => u = Value.ref a
  | .ty n, u => u = Value.type n

abbrev Vals : List V → List Value → Prop := Paired RelV
theorem Vals.length {xs : List V} {us : List Value} (r : Vals xs us) : xs.length = us.length := Paired.length r
theorem Vals.get : ∀ {xs : List V} {us : List Value} {i : Nat} {x : V}, Vals xs us → xs[i]? = some x → ∃ u, us[i]? = some u ∧ RelV x u
  | _, _, _, _, .nil, e => by simp at e
  | _, _, 0, _, .cons r _, e => by simp at e; subst e; exact ⟨_, rfl, r⟩
  | _, _, i + 1, x, .cons _ t, e => by
    obtain ⟨u, h1, h2⟩ := Vals.get (i := i) (x := x) t (by simpa using e)
    exact ⟨u, by simpa using h1, h2⟩
theorem Vals.append : ∀ {xs ys : List V} {us ws : List Value}, Vals xs us → Vals ys ws → Vals (xs ++ ys) (us ++ ws)
  | _, _, _, _, .nil, s => s
  | _, _, _, _, .cons r t, s => .cons r (Vals.append t s)
theorem Vals.take : ∀ {xs : List V} {us : List Value} (n : Nat), Vals xs us → Vals (xs.take n) (us.take n)
  | _, _, 0, _ => .nil
  | _, _, _ + 1, .nil => .nil
  | _, _, n + 1, .cons r t => .cons r (Vals.take n t)
theorem Vals.drop : ∀ {xs : List V} {us : List Value} (n : Nat), Vals xs us → Vals (xs.drop n) (us.drop n)
  | _, _, 0, r => r
  | _, _, _ + 1, .nil => .nil
  | _, _, n + 1, .cons _ t => Vals.drop n t
def RelO : Option V → Option Value → Prop
  | some v, some u => RelV v u
  | none, none => True
  | _, _ => False
def KV {κ : Type} : List (κ × V) → List (κ × Value) → Prop := Paired fun (p : κ × V) (q : κ × Value) => p.1 = q.1 ∧ RelV p.2 q.2

/-- a key of a dict (00_mix): an int or a text -/
def kV : Key → V
  | .inl i => .int i
  | .inr x => .str x

/-- what stands at a tracked address -/
inductive HO where
  /-- a list -/
  | lst (xs : List V)
  /-- a tuple (never changes) -/
  | tup (xs : List V)
  /-- a dict whose keys are ints and texts; one whose keys are tuples of ints and texts (the empty one is both) -/
  | dK (kvs : List (Key × V)) | dT (kvs : List (List Key × V))
  /-- a set of ints: its members, its size -/
  | set (S : Int → Bool) (n : Nat)
  /-- an instance of the class at C, its dict at dx, its attributes -/
  | ins (C dx : Addr) (fs : List (Str × V))
  /-- the dict of the instance at x -/
  | own (x : Addr)
  /-- the dict of an exception -/
  | xd (fs : List (Str × V))
  /-- a bound method, f of x -/
  | met (f x : Addr)
  /-- a range object lo, lo + 1, .. below hi -/
  | rng (lo hi : Int)
  /-- a thing that is known to the object (the script; a dict while a loop walks it): read, never written while it is so -/
  | frz (o : Obj) (u : HO)
  /-- a code object's table -/
  | tbl (ps : Array Value)
  /-- any other thing, by what is true of its one object (a def of one's own: SetO a S n := HO.ext fun h => ..) -/
  | ext (φ : Heap → Prop)

abbrev Hp := Addr → Option HO
def upd (H : Hp) (a : Addr) (o : HO) : Hp := fun b => if b = a then some o else H b
theorem upd_same {H : Hp} {a : Addr} {o : HO} : upd H a o a = some o := by unfold upd; rw [if_pos rfl]
theorem upd_ne {H : Hp} {a b : Addr} {o : HO} (h : b ≠ a) : upd H a o b = H b := by unfold upd; rw [if_neg h]
/-- two objects of different content stand apart -/
theorem ne_of {H : Hp} {a b : Addr} {o u : HO} (h : H a = some o) (h' : H b = some u) (d : o ≠ u) : a ≠ b := by
  intro e; subst e; rw [h] at h'; exact d (Option.some.inj h')
theorem ne_of_none {H : Hp} {a b : Addr} {o : HO} (h : H a = some o) (h' : H b = none) : a ≠ b := by
  intro e; subst e; rw [h] at h'; cases h'

section
variable (P : Program) (w : World)
def ObjOk (H : Hp) (h : Heap) (a : Addr) : HO → Prop
  | .lst xs => xs.length ≤ sizeLine ∧ ∃ (its : List Value) (n : Nat), Vals xs its ∧ h.get? a = some { cls := .type "list", data := .seq its.toArray n }
  | .tup xs => xs.length ≤ sizeLine ∧ ∃ its : List Value, Vals xs its ∧ IsTup h a its.toArray
  | .dK kvs => kvs.length ≤ sizeLine ∧ (a == sysModules) = false ∧ ∃ vs, KV kvs vs ∧ h.DictOf (mixKind P w) a vs
  | .dT kvs => kvs.length ≤ sizeLine ∧ (a == sysModules) = false ∧ ∃ xs : List (List Key × Addr × Value),
      Paired (fun (p : List Key × V) (q : List Key × Addr × Value) => p.1 = q.1 ∧ H q.2.1 = some (.tup (p.1.map kV)) ∧ RelV p.2 q.2.2) kvs xs ∧
      ∃ o es ep, h.get? a = some o ∧ o.ExactDict ∧ o.data = .dict es ep ∧ es.toList = xs.map (entryOfKey (tupleKind (mixKind P w))) ∧ (xs.map (·.1)).Nodup
  | .set S n => h.SetOf (intKind P w) a S n
  | .ins C dx fs => H dx = some (.own a) ∧ fs.length ≤ 1000 ∧ dx ≠ a ∧ h.get? a = some (PySem.W.instObj C dx) ∧
      ∃ mA, h.Ns1 dx mA ∧ (∀ f, RelO (fs.lookup f) (mA f)) ∧ PySem.Within mA (fs.map (·.1))
  | .own _ => ∃ o, h.get? a = some o
  | .xd fs => ∃ mA, h.Ns1 a mA ∧ ∀ f, RelO (fs.lookup f) (mA f)
  | .rng lo hi => ∃ t u v, h.get? a = some { cls := .type "range", data := .fields #[.int lo t, .int hi u, .int 1 v] }
  | .frz o u => h.get? a = some o ∧ ObjOk H h a u
  | .tbl ps => h.get? a = some { cls := .none, data := .fields ps }
  | .met f x => h.get? a = some (PySem.W.methodObj (.ref f) (.ref x))
  | .ext φ => φ h ∧ (∃ o, h.get? a = some o) ∧ ∀ h1 h2 : Heap, φ h1 → (∀ o, h1.get? a = some o → h2.get? a = some o) → φ h2
/-- the abstract heap is held -/
def HOk (H : Hp) (h : Heap) : Prop := ∀ a o, H a = some o → ObjOk P w H h a o
end

section
variable {P : Program} {w : World} {H H' : Hp} {h h' : Heap} {a : Addr} {o : HO}
theorem ObjOk.lt (x : ObjOk P w H h a o) : a < h.objs.size := by
  cases o with
  | lst xs => obtain ⟨_, _, _, _, e⟩ := x; exact Heap.lt_size e
  | tup xs => obtain ⟨_, _, _, p⟩ := x; exact p.lt
  | dK kvs => obtain ⟨_, _, _, _, o, _, _, e, _⟩ := x; exact Heap.lt_size e
  | dT kvs => obtain ⟨_, _, _, _, o, _, _, e, _⟩ := x; exact Heap.lt_size e
  | set S n => obtain ⟨o, _, _, _, e, _⟩ := x; exact Heap.lt_size e
  | ins C dx fs => obtain ⟨_, _, _, e, _⟩ := x; exact Heap.lt_size e
  | own y => obtain ⟨_, e⟩ := x; exact Heap.lt_size e
  | xd fs => obtain ⟨_, ⟨_, _, _, e, _⟩, _⟩ := x; exact Heap.lt_size e
  | rng lo hi => obtain ⟨_, _, _, e⟩ := x; exact Heap.lt_size e
  | frz ob u => obtain ⟨e, _⟩ := x; exact Heap.lt_size e
  | tbl ps => exact Heap.lt_size (show h.get? a = some _ from x)
  | met f y => exact Heap.lt_size (show h.get? a = some _ from x)
  | ext φ => obtain ⟨_, ⟨_, e⟩, _⟩ := x; exact Heap.lt_size e
theorem Paired.mapP {α β : Type} {F G : α → β → Prop} : ∀ {l₁ : List α} {l₂ : List β}, Paired F l₁ l₂ → (∀ a b, F a b → G a b) → Paired G l₁ l₂
  | _, _, .nil, _ => .nil
  | _, _, .cons r t, f => .cons (f _ _ r) (Paired.mapP t f)
/-- what an object's description leans on: its own object, its own dict, the tuples -/
theorem ObjOk.stay (x : ObjOk P w H h a o) (k : ∀ b u, (b = a ∨ H b = some (.own a)) → h.get? b = some u → h'.get? b = some u)
    (ho : ∀ b, H b = some (.own a) → H' b = some (.own a)) (ht : ∀ b xs, H b = some (.tup xs) → H' b = some (.tup xs)) : ObjOk P w H' h' a o := by
  induction o with
  | lst xs => obtain ⟨z, its, n, r, e⟩ := x; exact ⟨z, its, n, r, k _ _ (.inl rfl) e⟩
  | tup xs => obtain ⟨z, its, r, ob, e, c⟩ := x; exact ⟨z, its, r, ob, k _ _ (.inl rfl) e, c⟩
  | dK kvs => obtain ⟨z, y, vs, r, ob, es, ep, e, c⟩ := x; exact ⟨z, y, vs, r, ob, es, ep, k _ _ (.inl rfl) e, c⟩
  | dT kvs =>
    obtain ⟨z, y, xs, r, ob, es, ep, e, c⟩ := x
    exact ⟨z, y, xs, Paired.mapP r fun p q z => ⟨z.1, ht _ _ z.2.1, z.2.2⟩, ob, es, ep, k _ _ (.inl rfl) e, c⟩
  | set S n => obtain ⟨ob, es, ep, t, e, c⟩ := x; exact ⟨ob, es, ep, t, k _ _ (.inl rfl) e, c⟩
  | ins C dx fs =>
    obtain ⟨d, z, ne, e, mA, ⟨od, es, ep, e2, c⟩, r⟩ := x
    exact ⟨ho _ d, z, ne, k _ _ (.inl rfl) e, mA, ⟨od, es, ep, k _ _ (.inr d) e2, c⟩, r⟩
  | own y => obtain ⟨ob, e⟩ := x; exact ⟨ob, k _ _ (.inl rfl) e⟩
  | xd fs => obtain ⟨mA, ⟨od, es, ep, e, c⟩, r⟩ := x; exact ⟨mA, ⟨od, es, ep, k _ _ (.inl rfl) e, c⟩, r⟩
  | rng lo hi => obtain ⟨t, u, v, e⟩ := x; exact ⟨t, u, v, k _ _ (.inl rfl) e⟩
  | frz ob u ih => obtain ⟨e, q⟩ := x; exact ⟨k _ _ (.inl rfl) e, ih q⟩
  | tbl ps =>
    have e : h.get? a = some { cls := .none, data := .fields ps } := x
    show h'.get? a = some { cls := .none, data := .fields ps }
    exact k a _ (.inl rfl) e
  | met f y =>
    have e : h.get? a = some (PySem.W.methodObj (.ref f) (.ref y)) := x
    show h'.get? a = some (PySem.W.methodObj (.ref f) (.ref y))
    exact k a _ (.inl rfl) e
  | ext φ => obtain ⟨p, ⟨o, e⟩, st⟩ := x; exact ⟨st _ _ p fun o q => k _ _ (.inl rfl) q, ⟨o, k _ _ (.inl rfl) e⟩, st⟩
theorem HOk.lt (x : HOk P w H h) (e : H a = some o) : a < h.objs.size := (x a o e).lt
theorem HOk.fresh (x : HOk P w H h) (e : h.objs.size ≤ a) : H a = none := by
  cases q : H a with
  | none => rfl
  | some u => exact absurd (Nat.lt_of_lt_of_le (x.lt q) e) (Nat.lt_irrefl _)
/-- every object of the heap is kept -/
theorem HOk.kept (x : HOk P w H h) (k : ∀ b u, h.get? b = some u → h'.get? b = some u) : HOk P w H h' := fun a o e =>
  (x a o e).stay (fun b u _ q => k b u q) (fun _ q => q) fun _ _ q => q
/-- a new object is laid and tracked -/
theorem HOk.laid (x : HOk P w H h) (k : ∀ b u, h.get? b = some u → h'.get? b = some u) (hp : h.objs.size ≤ a) (new : ObjOk P w (upd H a o) h' a o) : HOk P w (upd H a o) h' := fun b u e => by
  have hn := x.fresh hp
  by_cases hb : b = a
  · subst hb; rw [upd_same] at e; cases e; exact new
  · rw [upd_ne hb] at e
    exact (x b u e).stay (fun c v _ q => k c v q) (fun c q => by rw [upd_ne (ne_of_none q hn)]; exact q) fun c xs q => by rw [upd_ne (ne_of_none q hn)]; exact q
end

/-- what may be read as u: it is u, or a known u -/
def Rd (H : Hp) (a : Addr) (u : HO) : Prop := H a = some u ∨ ∃ o, H a = some (.frz o u)
theorem Rd.ok {P : Program} {w : World} {H : Hp} {h : Heap} {a : Addr} {u : HO} (r : Rd H a u) (x : HOk P w H h) : ObjOk P w H h a u := by
  rcases r with r | ⟨o, r⟩
  · exact x a u r
  · obtain ⟨_, q⟩ := x a _ r
    exact q
/-- what may be written -/
def Mut : Option HO → Prop
  | some (.lst _) => True
  | some (.dK _) => True
  | some (.dT _) => True
  | some (.set _ _) => True
  | some (.ins _ _ _) => True
  | some (.ext _) => True
  | _ => False
section
variable {P : Program} {w : World} {H : Hp} {h h' : Heap} {x e : Addr} {o' : HO}
/-- the object at e is changed: x itself, or the dict of the instance x -/
theorem HOk.write (ok : HOk P w H h) (mu : Mut (H x)) (he : e = x ∨ H e = some (.own x)) (k : ∀ b u, b ≠ e → h.get? b = some u → h'.get? b = some u) (heo : ∃ u, h'.get? e = some u)
    (new : ObjOk P w (upd H x o') h' x o') : HOk P w (upd H x o') h' := fun b u q => by
  have nown : ∀ c y, H c = some (.own y) → c ≠ x := fun c y r z => by subst z; rw [r] at mu; exact mu
  have ntup : ∀ c xs, H c = some (.tup xs) → c ≠ x := fun c xs r z => by subst z; rw [r] at mu; exact mu
  by_cases hb : b = x
  · subst hb; rw [upd_same] at q; cases q; exact new
  · rw [upd_ne hb] at q
    by_cases hbe : b = e
    · have q' : H b = some (.own x) := by
        rcases he with z | z
        · exact absurd (hbe.trans z) hb
        · rw [hbe]; exact z
      rw [q] at q'; cases q'
      obtain ⟨v, hv⟩ := heo
      exact ⟨v, by rw [hbe]; exact hv⟩
    · refine (ok b u q).stay (fun c v hc r => k c v ?_ r) (fun c r => by rw [upd_ne (nown c b r)]; exact r) fun c xs r => by rw [upd_ne (ntup c xs r)]; exact r
      rcases hc with rfl | hc
      · exact hbe
      · rintro rfl
        rcases he with z | z
        · exact nown c b hc z
        · rw [hc] at z; cases z; exact hb rfl
end

/-! ### kept unless tracked; of the frames at fs (the callers') the slots may change (an exception that passes writes there); of the records at ex (iterators) nothing is said -/
structure Un (fs ex : List Addr) (H H' : Hp) (h h' : Heap) : Prop where
  keep : ∀ b o, h.get? b = some o → H b = none → b ∉ fs → b ∉ ex → h'.get? b = some o
  slot : ∀ b o, h.get? b = some o → H b = none → b ∈ fs → b ∉ ex → ∃ sl, h'.get? b = some { o with slots := sl }
  free : ∀ b o, h.get? b = some o → H b = none → b ∉ ex → H' b = none
  there : ∀ b o, h.get? b = some o → b ∉ ex → ∃ o', h'.get? b = some o'
  tups : ∀ b xs, H b = some (.tup xs) → H' b = some (.tup xs)
  frzs : ∀ b o u, H b = some (.frz o u) → H' b = some (.frz o u)
  tbls : ∀ b ps, H b = some (.tbl ps) → ∃ more, H' b = some (.tbl (ps ++ more))
section
variable {fs fs' ex ex' : List Addr} {H H1 H2 : Hp} {h h1 h2 h' : Heap} {a x e : Addr} {o : HO}
theorem Un.any (u : Un fs ex H H1 h h1) {b : Addr} {ob : Obj} (q : h.get? b = some ob) (n : H b = none) (hx : b ∉ ex) : ∃ sl, h1.get? b = some { ob with slots := sl } := by
  by_cases hb : b ∈ fs
  · exact u.slot b ob q n hb hx
  · exact ⟨ob.slots, u.keep b ob q n hb hx⟩
theorem Un.kept (k : ∀ b u, h.get? b = some u → h'.get? b = some u) : Un fs ex H H h h' :=
  ⟨fun b ob q _ _ _ => k b ob q, fun b ob q _ _ _ => ⟨ob.slots, k b ob q⟩, fun _ _ _ n _ => n, fun b ob q _ => ⟨ob, k b ob q⟩, fun _ _ q => q, fun _ _ _ q => q, fun _ ps q => ⟨#[], by rw [q]; simp⟩⟩
theorem Un.refl : Un fs ex H H h h := Un.kept fun _ _ q => q
theorem Un.laid (k : ∀ b u, h.get? b = some u → h'.get? b = some u) (hp : h.objs.size ≤ a) (hn : H a = none) : Un fs ex H (upd H a o) h h' where
  keep := fun b u q _ _ _ => k b u q
  slot := fun b u q _ _ _ => ⟨u.slots, k b u q⟩
  free := fun b u q n _ => by rw [upd_ne (Nat.ne_of_lt (Nat.lt_of_lt_of_le (Heap.lt_size q) hp))]; exact n
  there := fun b u q _ => ⟨u, k b u q⟩
  tups := fun b xs q => by rw [upd_ne (ne_of_none q hn)]; exact q
  frzs := fun b u xs q => by rw [upd_ne (ne_of_none q hn)]; exact q
  tbls := fun b ps q => ⟨#[], by rw [upd_ne (ne_of_none q hn), q]; simp⟩
theorem Un.write (mu : Mut (H x)) (he : e = x ∨ H e = some (.own x)) (k : ∀ b u, b ≠ e → h.get? b = some u → h'.get? b = some u) (heo : ∃ u, h'.get? e = some u) : Un fs ex H (upd H x o) h h' := by
  have hx : ∀ b, H b = none → b ≠ x := fun b n z => by subst z; rw [n] at mu; exact mu
  have hb : ∀ b, H b = none → b ≠ e := fun b n z => by
    subst z
    rcases he with r | r
    · exact hx b n r
    · rw [n] at r; cases r
  have hm : ∀ b u, H b = some u → ¬ Mut (some u) → b ≠ x := fun b u q nm z => by subst z; rw [q] at mu; exact nm mu
  refine ⟨fun b u q n _ _ => k b u (hb b n) q, fun b u q n _ _ => ⟨u.slots, k b u (hb b n) q⟩, fun b u q n _ => by rw [upd_ne (hx b n)]; exact n, fun b u q _ => ?_,
    fun b xs q => by rw [upd_ne (hm b _ q fun z => z)]; exact q, fun b u xs q => by rw [upd_ne (hm b _ q fun z => z)]; exact q, fun b ps q => ⟨#[], by rw [upd_ne (hm b _ q fun z => z), q]; simp⟩⟩
  by_cases hbe : b = e
  · subst hbe; exact heo
  · exact ⟨u, k b u hbe q⟩
end

/-! ### the heap without what is tracked -/
def trk (h : Heap) (H : Hp) : List Addr := (List.range h.objs.size).filter fun a => (H a).isSome
def hidT (h : Heap) (H : Hp) : Heap := PySem.W.hideAll h (trk h H)
theorem hidT_size (h : Heap) (H : Hp) : (hidT h H).objs.size = h.objs.size := PySem.W.hideAll_size _ _
theorem hidT_get {h : Heap} {H : Hp} {b : Addr} {o : Obj} (e : h.get? b = some o) (n : H b = none) : (hidT h H).get? b = some o :=
  PySem.W.hideAll_get _ e fun hm => by
    have q : (H b).isSome = true := (List.mem_filter.mp hm).2
    rw [n] at q; simp at q
theorem of_hidT {h : Heap} {H : Hp} {b : Addr} {o : Obj} (e : (hidT h H).get? b = some o) : h.get? b = some o ∧ H b = none := by
  have e' : h.get? b = some o := PySem.W.of_hideAll (trk h H) e
  refine ⟨e', ?_⟩
  cases q : H b with
  | none => rfl
  | some x =>
    have hm : b ∈ trk h H := List.mem_filter.mpr ⟨List.mem_range.mpr (Heap.lt_size e'), by simp [q]⟩
    have z : (hidT h H).get? b = none := PySem.W.hideAll_none (trk h H) hm
    rw [z] at e; cases e

/-! ### OpenK's ledger, filled with every new object but one -/
end L2

namespace L2
open PySem PySem.Spec PyProof.Rows

/-- the module's facts, over the base: the heap at the law's entry without what is tracked there -/
structure Mod (K : PySem.W.Frag) (mg : Str → Option Value) (base : Heap) : Prop where
  kin : K.In base
  glob : base.Ns mainGlobals mg
  blt : ∃ mb, base.Ns builtinsNs mb ∧ ∀ x : Str, x ≠ "__name__" → mb x = bootBuiltins x
  nolimit : base.NoLimit

/-- the context: a def's body (or a comprehension's block) running. base: fixed through the whole law; s₀, H₀: the entry; outer: the frames whose slots others may change (a def's callers); stack: all frames that run;
   ex: iterators that were made ahead of the entry and are walked here (a comprehension's); fn: the names whose cells were made at the entry (a def: all; a comprehension's block: its own); calm: not within an except suite; pn: pins that every state bears; xe: what is wanted of an exception that leaves the code -/
structure Cx where
  prog : Program
  w : World
  K : PySem.W.Frag
  mg : Str → Option Value
  base : Heap
  A : Around
  N : List Str
  s_0 : Shared
  H_0 : Hp
  env : Env
  outer : List Env
  stack : List Env
  ex : List Addr
  fn : Str → Bool
  calm : Bool
  pn : List (Addr × Obj)
  xe : Value → Shared → Prop
/-- the callers' frames -/
def frs (l : List Env) : List Addr := l.filterMap (·.frame)
abbrev Cx.fs (X : Cx) : List Addr := frs X.outer

def Vis (sc : Scope) (x : Str) : Prop := sc.names.lookup x = some .local ∨ sc.names.lookup x = some .cell ∨ sc.names.lookup x = some .free
def Loc (sc : Scope) (x : Str) : Prop := sc.names.lookup x = some .local ∨ sc.names.lookup x = some .cell
def Look (env : Env) (h : Heap) (m : Str → Option Value) (x : Str) (u : Value) : Prop :=
  (env.kindOf x = some .local ∧ m x = some u) ∨ ((env.kindOf x = some .cell ∨ env.kindOf x = some .free) ∧ ∃ c, env.cells.lookup x = some c ∧ h.IsCell c (some u))

structure Cx.Ok (X : Cx) : Prop where
  mod : Mod X.K X.mg X.base
  kind : X.env.scope.kind = .function
  glob : X.env.globals = mainGlobals
  blt : X.env.builtins = builtinsNs
  above : X.s_0.heap.objs.size ≤ X.env.locals
  inj : ∀ x y c, X.env.cells.lookup x = some c → X.env.cells.lookup y = some c → x = y
  has : ∀ x, (X.env.kindOf x = some .cell ∨ X.env.kindOf x = some .free) → ∃ c, X.env.cells.lookup x = some c
  cab : ∀ x c, X.fn x = true → X.env.cells.lookup x = some c → X.s_0.heap.objs.size ≤ c
  hd : X.calm = true → X.A.handled = none
  frames : X.A.frames = some X.stack
  stk : X.stack = X.outer ∨ (X.stack = X.env :: X.outer ∧ X.env.frame = some X.env.locals)
  exf : ∀ b ∈ X.ex, b ≠ X.env.locals ∧ ∀ x c, X.env.cells.lookup x = some c → c ≠ b
  bs : ∀ b o, X.base.get? b = some o → X.s_0.heap.get? b = some o ∧ X.H_0 b = none
  bsz : X.base.objs.size ≤ X.s_0.heap.objs.size
  noex : ∀ b o, X.base.get? b = some o → b ∉ X.ex
  exfs : ∀ b ∈ X.ex, b ∉ X.fs
  funs : X.s_0.heap.FunFrames X.base X.outer
  frf : ∀ b ∈ X.fs, X.H_0 b = none

structure Inv (X : Cx) (pins : List (Addr × Obj)) (σ : List (Option V)) (H : Hp) (s : Shared) : Prop where
  ok : X.Ok
  os : s.os = X.s_0.os
  bare : AllBare s.gens
  base : Un X.fs X.ex X.H_0 H X.s_0.heap s.heap
  loc : ∃ m, s.heap.Ns X.env.locals m ∧ ∀ (i : Nat) (x : Str) (v : V), X.N[i]? = some x → σ[i]? = some (some v) → Vis X.env.scope x → ∃ u, RelV v u ∧ Look X.env s.heap m x u
  cell : ∀ x c, X.env.cells.lookup x = some c → ∃ v, s.heap.IsCell c v
  free : H X.env.locals = none
  freeC : ∀ x c, X.env.cells.lookup x = some c → H c = none
  pin : ∀ p ∈ X.pn ++ pins, s.heap.get? p.1 = some p.2 ∧ H p.1 = none ∧ p.1 ≠ X.env.locals ∧ p.1 ∉ X.fs ∧ ∀ v, p.2.data ≠ .cell v
  hok : HOk X.prog X.w H s.heap
  len : σ.length = X.N.length

section
variable {X : Cx} {pins : List (Addr × Obj)} {σ : List (Option V)} {H H' : Hp} {s : Shared} {h' : Heap}

theorem Cx.Ok.nofr (ok : X.Ok) {b : Addr} {o : Obj} (e : X.base.get? b = some o) : b ∉ X.fs := fun hb => by
  have := (ok.funs.mem hb).1
  rw [e] at this; cases this
theorem Inv.bs (I : Inv X pins σ H s) : ∀ b o, X.base.get? b = some o → s.heap.get? b = some o ∧ H b = none := fun b o e =>
  ⟨I.base.keep b o (I.ok.bs b o e).1 (I.ok.bs b o e).2 (I.ok.nofr e) (I.ok.noex b o e), I.base.free b o (I.ok.bs b o e).1 (I.ok.bs b o e).2 (I.ok.noex b o e)⟩
theorem Inv.bk (I : Inv X pins σ H s) : ∀ b o, X.base.get? b = some o → s.heap.get? b = some o := fun b o e => (I.bs b o e).1
theorem Inv.mod (I : Inv X pins σ H s) : Mod X.K X.mg X.base := I.ok.mod
theorem Inv.kIn (I : Inv X pins σ H s) : X.K.In s.heap := I.ok.mod.kin.keeps I.bk
theorem Inv.lt (I : Inv X pins σ H s) : X.env.locals < s.heap.objs.size := let ⟨_, hn, _⟩ := I.loc; hn.lt
theorem Inv.sz (I : Inv X pins σ H s) : X.s_0.heap.objs.size ≤ s.heap.objs.size := Nat.le_trans I.ok.above (Nat.le_of_lt I.lt)
theorem Inv.nofs (I : Inv X pins σ H s) {a : Addr} (h : s.heap.objs.size ≤ a) : a ∉ X.fs := fun hb => by
  obtain ⟨_, o, ho, _⟩ := I.ok.funs.mem hb
  exact absurd (Nat.lt_of_lt_of_le (Heap.lt_size ho) (Nat.le_trans I.sz h)) (Nat.lt_irrefl _)
theorem Inv.cne (I : Inv X pins σ H s) : ∀ x c, X.env.cells.lookup x = some c → c ≠ X.env.locals := fun x c e z => by
  obtain ⟨v, o, ho, hd⟩ := I.cell x c e
  obtain ⟨m, ⟨o', es, ep, ho', hd', _⟩, _⟩ := I.loc
  rw [z, ho'] at ho; cases ho; rw [hd'] at hd; cases hd
theorem Inv.funs (I : Inv X pins σ H s) : s.heap.FunFrames X.base X.outer := by
  have all : ∀ (l : List Env), (∀ b ∈ frs l, b ∈ X.fs) → X.s_0.heap.FunFrames X.base l → s.heap.FunFrames X.base l := by
    intro l
    induction l with
    | nil => intro _ _; trivial
    | cons env r ih =>
      intro hs hl
      obtain ⟨hk, ⟨L, o, hf, hn, ho, hd⟩, hr⟩ := hl
      have hL : L ∈ X.fs := hs L (by unfold frs; rw [List.filterMap_cons, hf]; exact List.mem_cons_self)
      obtain ⟨sl, e⟩ := I.base.slot L o ho (I.ok.frf L hL) hL fun z => I.ok.exfs L z hL
      exact ⟨hk, ⟨L, _, hf, hn, e, hd⟩, ih (fun b hb => hs b (by unfold frs; rw [List.filterMap_cons, hf]; exact List.mem_cons_of_mem _ hb)) hr⟩
  exact all X.outer (fun _ hb => hb) I.ok.funs

/-- the frames that run, for a call -/
theorem Inv.stack (I : Inv X pins σ H s) : s.heap.FunFrames X.base X.stack := by
  rcases I.ok.stk with e | ⟨e, hf⟩
  · rw [e]; exact I.funs
  · rw [e]
    obtain ⟨m, hn, _⟩ := I.loc
    refine .cons (by rw [I.ok.kind]; decide) hf hn ?_ I.funs
    exact Heap.get?_none_of_le (Nat.le_trans I.ok.bsz I.ok.above)
theorem Inv.stkSub (I : Inv X pins σ H s) : ∀ b ∈ frs X.stack, b ∈ X.env.locals :: X.fs := fun b hb => by
  rcases I.ok.stk with e | ⟨e, hf⟩
  · rw [e] at hb; exact List.mem_cons_of_mem _ hb
  · rw [e] at hb
    unfold frs at hb
    rw [List.filterMap_cons, hf] at hb
    exact hb
theorem Inv.stkFree (I : Inv X pins σ H s) : ∀ b ∈ frs X.stack, H b = none := fun b hb => by
  rcases List.mem_cons.mp (I.stkSub b hb) with e | hb
  · rw [e]; exact I.free
  · obtain ⟨_, o, ho, _⟩ := I.ok.funs.mem hb
    exact I.base.free b o ho (I.ok.frf b hb) fun z => I.ok.exfs b z hb

/-- THE STEP: the untracked objects but the frame and the records at ch are kept (the callers' frames up to slots), the frame's map is kept, the new abstract heap is held -/
theorem Inv.step {g' : Array GenState} {t' : Nat} {d' : Drawn} {ch : List Addr} (I : Inv X pins σ H s)
    (hch : ∀ b ∈ ch, (b ∈ X.ex ∨ X.s_0.heap.objs.size ≤ b) ∧ b ≠ X.env.locals ∧ (∀ x c, X.env.cells.lookup x = some c → c ≠ b) ∧ ∀ p ∈ X.pn ++ pins, p.1 ≠ b)
    (keep : ∀ b o, b ≠ X.env.locals → b ∉ X.fs → b ∉ ch → s.heap.get? b = some o → H b = none → h'.get? b = some o)
    (slot : ∀ b o, b ≠ X.env.locals → b ∈ X.fs → b ∉ ch → s.heap.get? b = some o → H b = none → ∃ sl, h'.get? b = some { o with slots := sl }) (free : ∀ b o, b ∉ ch → s.heap.get? b = some o → H b = none → H' b = none)
    (there : ∀ b o, b ∉ ch → s.heap.get? b = some o → ∃ o', h'.get? b = some o')
    (tups : ∀ b xs, H b = some (.tup xs) → H' b = some (.tup xs)) (frzs : ∀ b o u, H b = some (.frz o u) → H' b = some (.frz o u)) (tbls : ∀ b ps, H b = some (.tbl ps) → ∃ more, H' b = some (.tbl (ps ++ more)))
    (ns : ∀ m, s.heap.Ns X.env.locals m → h'.Ns X.env.locals m) (hok : HOk X.prog X.w H' h') (hg : AllBare g') :
    Inv X pins σ H' { s with heap := h', gens := g', drawn := d', toks := t' } := by
  have neL : ∀ b o, X.s_0.heap.get? b = some o → b ≠ X.env.locals := fun b o e => Nat.ne_of_lt (Nat.lt_of_lt_of_le (Heap.lt_size e) I.ok.above)
  have neC : ∀ b o, X.s_0.heap.get? b = some o → b ∉ X.ex → b ∉ ch := fun b o e hx hb => by
    rcases (hch b hb).1 with z | z
    · exact hx z
    · exact absurd (Nat.lt_of_lt_of_le (Heap.lt_size e) z) (Nat.lt_irrefl _)
  have cellK : ∀ x c, X.env.cells.lookup x = some c → ∀ v, s.heap.IsCell c v → h'.IsCell c v := fun x c e v ⟨o, ho, hd⟩ => by
    have nch : c ∉ ch := fun z => (hch c z).2.2.1 x c e rfl
    by_cases hc : c ∈ X.fs
    · obtain ⟨sl, q⟩ := slot c o (I.cne x c e) hc nch ho (I.freeC x c e)
      exact ⟨_, q, hd⟩
    · exact ⟨o, keep c o (I.cne x c e) hc nch ho (I.freeC x c e), hd⟩
  refine ⟨I.ok, I.os, hg, ⟨fun b o e n hb hx => ?_, fun b o e n hb hx => ?_, fun b o e n hx => ?_, fun b o e hx => ?_, fun b xs e => tups b xs (I.base.tups b xs e), fun b o xs e => frzs b o xs (I.base.frzs b o xs e), fun b ps e => ?_⟩, ?_, fun x c e => ?_, ?_, fun x c e => ?_, fun p hp => ?_, hok, I.len⟩
  · exact keep b o (neL b o e) hb (neC b o e hx) (I.base.keep b o e n hb hx) (I.base.free b o e n hx)
  · obtain ⟨sl, e1⟩ := I.base.slot b o e n hb hx
    obtain ⟨sl', e2⟩ := slot b _ (neL b o e) hb (neC b o e hx) e1 (I.base.free b o e n hx)
    exact ⟨sl', e2⟩
  · obtain ⟨o', e1⟩ := I.base.there b o e hx
    exact free b o' (neC b o e hx) e1 (I.base.free b o e n hx)
  · obtain ⟨o', e1⟩ := I.base.there b o e hx
    exact there b o' (neC b o e hx) e1
  · obtain ⟨m1, e1⟩ := I.base.tbls b ps e
    obtain ⟨m2, e2⟩ := tbls b _ e1
    exact ⟨m1 ++ m2, by rw [e2, Array.append_assoc]⟩
  · obtain ⟨m, hn, hl⟩ := I.loc
    refine ⟨m, ns m hn, fun i x v e1 e2 e3 => ?_⟩
    obtain ⟨u, r, l⟩ := hl i x v e1 e2 e3
    refine ⟨u, r, ?_⟩
    rcases l with l | ⟨k, c, e, z⟩
    · exact .inl l
    · exact .inr ⟨k, c, e, cellK x c e _ z⟩
  · obtain ⟨v, z⟩ := I.cell x c e
    exact ⟨v, cellK x c e v z⟩
  · obtain ⟨m, ⟨o, _, _, ho, _⟩, _⟩ := I.loc
    exact free _ o (fun z => (hch _ z).2.1 rfl) ho I.free
  · obtain ⟨v, o, ho, hd⟩ := I.cell x c e
    exact free c o (fun z => (hch c z).2.2.1 x c e rfl) ho (I.freeC x c e)
  · obtain ⟨e, n, ne, nf, d⟩ := I.pin p hp
    have nch : p.1 ∉ ch := fun z => (hch p.1 z).2.2.2 p hp rfl
    exact ⟨keep p.1 p.2 ne nf nch e n, free p.1 p.2 nch e n, ne, nf, d⟩
/-- .. where the frame's own object is kept too -/
theorem Inv.un {t' : Nat} (I : Inv X pins σ H s) (u : Un X.fs [] H H' s.heap h') (hok : HOk X.prog X.w H' h') : Inv X pins σ H' { s with heap := h', toks := t' } := by
  obtain ⟨m, ⟨o, es, ep, ho, r⟩, _⟩ := id I.loc
  obtain ⟨sl, hL⟩ := u.any ho I.free (by simp)
  exact I.step (g' := s.gens) (d' := s.drawn) (ch := []) (fun _ z => nomatch z) (fun b o _ hb _ e n => u.keep b o e n hb (by simp)) (fun b o _ hb _ e n => u.slot b o e n hb (by simp)) (fun b o _ e n => u.free b o e n (by simp)) (fun b o _ e => u.there b o e (by simp)) u.tups u.frzs u.tbls (fun m' hm => by
    obtain ⟨o', es', ep', ho', r'⟩ := hm
    rw [ho] at ho'; cases ho'
    exact ⟨_, es', ep', hL, r'⟩) hok I.bare
/-- behind a call (or a comprehension's block): the slots of this frame may have changed too, the records at ch may have turned -/
theorem Inv.call {g' : Array GenState} {t' : Nat} {d' : Drawn} {ch : List Addr} (I : Inv X pins σ H s) (u : Un (frs X.stack) ch H H' s.heap h') (hok : HOk X.prog X.w H' h') (hg : AllBare g')
    (hch : ∀ b ∈ ch, (b ∈ X.ex ∨ X.s_0.heap.objs.size ≤ b) ∧ b ≠ X.env.locals ∧ (∀ x c, X.env.cells.lookup x = some c → c ≠ b) ∧ ∀ p ∈ X.pn ++ pins, p.1 ≠ b) :
    Inv X pins σ H' { s with heap := h', gens := g', drawn := d', toks := t' } := by
  obtain ⟨m, ⟨o, es, ep, ho, r⟩, _⟩ := id I.loc
  obtain ⟨sl, hL⟩ := u.any ho I.free fun z => (hch _ z).2.1 rfl
  exact I.step (ch := ch) hch (fun b o hL hb hc e n => u.keep b o e n (fun z => (List.mem_cons.mp (I.stkSub b z)).elim hL hb) hc) (fun b o _ _ hc e n => u.any e n hc) (fun b o hc e n => u.free b o e n hc) (fun b o hc e => u.there b o e hc) u.tups u.frzs u.tbls (fun m' hm => by
    obtain ⟨o', es', ep', ho', r'⟩ := hm
    rw [ho] at ho'; cases ho'
    exact ⟨_, es', ep', hL, r'⟩) hok hg
/-- an untracked record of ours (an iterator) has turned -/
theorem Inv.turned {t' : Nat} {it : Addr} (I : Inv X pins σ H s) (k : ∀ b o, b ≠ it → s.heap.get? b = some o → h'.get? b = some o) (hn : H it = none) (hL : it ≠ X.env.locals)
    (h1 : it ∈ X.ex ∨ X.s_0.heap.objs.size ≤ it) (h2 : ∀ x c, X.env.cells.lookup x = some c → c ≠ it) (h3 : ∀ p ∈ X.pn ++ pins, p.1 ≠ it) : Inv X pins σ H { s with heap := h', toks := t' } := by
  have nit : ∀ b u, H b = some u → b ≠ it := fun b u e z => by rw [z, hn] at e; cases e
  refine I.step (g' := s.gens) (d' := s.drawn) (ch := [it]) (fun b hb => ?_) (fun b o _ _ hc e _ => k b o (fun z => hc (by simp [z])) e) (fun b o _ _ hc e _ => ⟨o.slots, k b o (fun z => hc (by simp [z])) e⟩) (fun _ _ _ _ n => n)
    (fun b o hc e => ⟨o, k b o (fun z => hc (by simp [z])) e⟩) (fun _ _ e => e) (fun _ _ _ e => e) (fun b ps e => ⟨#[], by rw [e]; simp⟩) (fun m hm => ?_) (fun b u e => ?_) I.bare
  · have e : b = it := by simpa using hb
    subst e
    exact ⟨h1, hL, h2, h3⟩
  · obtain ⟨o, es, ep, ho, r⟩ := hm
    exact ⟨o, es, ep, k _ o (Ne.symm hL) ho, r⟩
  · refine (I.hok b u e).stay (fun c v hc q => k c v ?_ q) (fun _ q => q) fun _ _ q => q
    rcases hc with z | z
    · rw [z]; exact nit b u e
    · exact nit c _ z
theorem Inv.tok (I : Inv X pins σ H s) (t : Nat) : Inv X pins σ H { s with toks := t } := I.un (h' := s.heap) (t' := t) Un.refl I.hok
/-- all objects kept -/
theorem Inv.kept {t' : Nat} (I : Inv X pins σ H s) (k : ∀ b u, s.heap.get? b = some u → h'.get? b = some u) : Inv X pins σ H { s with heap := h', toks := t' } := I.un (Un.kept k) (I.hok.kept k)
/-- a new object laid and tracked -/
theorem Inv.laid {a : Addr} {o : HO} {t' : Nat} (I : Inv X pins σ H s) (k : ∀ b u, s.heap.get? b = some u → h'.get? b = some u) (hp : s.heap.objs.size ≤ a) (new : ObjOk X.prog X.w (upd H a o) h' a o) :
    Inv X pins σ (upd H a o) { s with heap := h', toks := t' } := I.un (Un.laid k hp (I.hok.fresh hp)) (I.hok.laid k hp new)
/-- an object written -/
theorem Inv.write {x e : Addr} {o : HO} {t' : Nat} (I : Inv X pins σ H s) (mu : Mut (H x)) (he : e = x ∨ H e = some (.own x)) (k : ∀ b u, b ≠ e → s.heap.get? b = some u → h'.get? b = some u) (heo : ∃ u, h'.get? e = some u)
    (new : ObjOk X.prog X.w (upd H x o) h' x o) : Inv X pins σ (upd H x o) { s with heap := h', toks := t' } := I.un (Un.write mu he k heo) (I.hok.write mu he k heo new)
/-- forgetting slots, pins -/
theorem Inv.weak {σ' : List (Option V)} (I : Inv X pins σ H s) (hl : σ'.length = σ.length) (w : ∀ (i : Nat) v, σ'[i]? = some (some v) → σ[i]? = some (some v)) : Inv X pins σ' H s :=
  ⟨I.ok, I.os, I.bare, I.base, let ⟨m, hn, hl'⟩ := I.loc; ⟨m, hn, fun i x v e1 e2 e3 => hl' i x v e1 (w i v e2) e3⟩, I.cell, I.free, I.freeC, I.pin, I.hok, hl.trans I.len⟩
theorem Inv.pins_of {pins' : List (Addr × Obj)} (I : Inv X pins σ H s) (h : ∀ p ∈ pins', s.heap.get? p.1 = some p.2 ∧ H p.1 = none ∧ p.1 ≠ X.env.locals ∧ p.1 ∉ X.fs ∧ ∀ v, p.2.data ≠ .cell v) : Inv X pins' σ H s :=
  ⟨I.ok, I.os, I.bare, I.base, I.loc, I.cell, I.free, I.freeC, fun p hp => (List.mem_append.mp hp).elim (fun z => I.pin p (List.mem_append_left _ z)) (h p), I.hok, I.len⟩

theorem nodup_ix {N : List Str} (hN : N.Nodup) {i j : Nat} {x : Str} (a : N[i]? = some x) (b : N[j]? = some x) : i = j := by
  obtain ⟨h1, e1⟩ := List.getElem?_eq_some_iff.mp a
  obtain ⟨h2, e2⟩ := List.getElem?_eq_some_iff.mp b
  exact (List.getElem_inj hN).mp (e1.trans e2.symm)

/-- a name is stored; what changed -/
theorem store_ok2 {M : Model} {A : Around} {E : Value → Shared → Prop} {i : Nat} {x : Str} {v : V} {u : Value} {Q : Unit → Shared → Prop} (I : Inv X pins σ H s) (hN : X.N.Nodup) (hi : X.N[i]? = some x) (hx : Loc X.env.scope x) (r : RelV v u)
    (h : ∀ s', Inv X pins (σ.set i (some v)) H s' → (∃ a, Heap.SameBut a s.heap s'.heap ∧ (a = X.env.locals ∨ X.env.cells.lookup x = some a)) → Q () s') (hf : X.fn x = true ∨ X.env.scope.names.lookup x = some .local := by first | exact .inl rfl | exact .inr rfl | assumption) : wpAny M A (storeName X.env x u) Q E s := by
  obtain ⟨m, hn, hl⟩ := id I.loc
  have hcls : (X.env.scope.kind == .class || (X.env.scope.kind == .module && X.env.locals != X.env.globals)) = false := by rw [I.ok.kind]; rfl
  have hiσ : i < σ.length := by rw [I.len]; exact (List.getElem?_eq_some_iff.mp hi).1
  have cne := I.cne
  have tracked : ∀ {a : Addr} {h' : Heap}, (∃ o, s.heap.get? a = some o ∧ H a = none) → Heap.SameBut a s.heap h' → HOk X.prog X.w H h' := fun {a h'} ha hs b ob e => by
    obtain ⟨_, _, hfree⟩ := ha
    refine (I.hok b ob e).stay (fun c w' hc q => (hs.2 c ?_).trans q) (fun _ q => q) fun _ _ q => q
    rintro rfl
    rcases hc with rfl | hc
    · rw [hfree] at e; cases e
    · rw [hfree] at hc; cases hc
  rcases hx with hk | hk
  · refine wpAny_storeName_local hk hn (fun h' hn' hs => ?_) hcls
    obtain ⟨oL, _, _, hoL, _⟩ := id hn
    refine h _ ⟨I.ok, I.os, I.bare, ⟨fun b o e n hb hx => ?_, fun b o e n hb hx => ?_, I.base.free, fun b o e hx => ?_, I.base.tups, I.base.frzs, I.base.tbls⟩, ⟨_, hn', fun j y v' e1 e2 e3 => ?_⟩, fun y c e => ?_, I.free, I.freeC, fun p hp => ?_, tracked ⟨oL, hoL, I.free⟩ hs, by simpa using I.len⟩ ⟨_, hs, .inl rfl⟩
    · exact (hs.2 b (Nat.ne_of_lt (Nat.lt_of_lt_of_le (Heap.lt_size e) I.ok.above))).trans (I.base.keep b o e n hb hx)
    · obtain ⟨sl, e1⟩ := I.base.slot b o e n hb hx
      exact ⟨sl, (hs.2 b (Nat.ne_of_lt (Nat.lt_of_lt_of_le (Heap.lt_size e) I.ok.above))).trans e1⟩
    · obtain ⟨o', e1⟩ := I.base.there b o e hx
      exact ⟨o', (hs.2 b (Nat.ne_of_lt (Nat.lt_of_lt_of_le (Heap.lt_size e) I.ok.above))).trans e1⟩
    · by_cases hj : j = i
      · subst hj
        rw [hi] at e1; cases e1
        rw [List.getElem?_set_self hiσ] at e2
        cases e2
        exact ⟨u, r, .inl ⟨hk, by simp⟩⟩
      · rw [List.getElem?_set_ne (Ne.symm hj)] at e2
        obtain ⟨u', r', q⟩ := hl j y v' e1 e2 e3
        refine ⟨u', r', ?_⟩
        rcases q with ⟨k, e⟩ | ⟨k, c, e, z⟩
        · refine .inl ⟨k, ?_⟩
          have : y ≠ x := fun e => hj (nodup_ix hN e1 (e ▸ hi))
          simp [this, e]
        · exact .inr ⟨k, c, e, z.sameBut hs (cne y c e)⟩
    · obtain ⟨w', z⟩ := I.cell y c e
      exact ⟨w', z.sameBut hs (cne y c e)⟩
    · obtain ⟨e, n, ne, nf, d⟩ := I.pin p hp
      exact ⟨(hs.2 p.1 ne).trans e, n, ne, nf, d⟩
  · have hfn : X.fn x = true := by
      rcases hf with z | z
      · exact z
      · rw [z] at hk; cases hk
    obtain ⟨c, hc⟩ := I.ok.has x (.inl hk)
    obtain ⟨w', z⟩ := I.cell x c hc
    refine wpAny_storeName_cell I.ok.kind hk hc z (fun h' hc' hs => ?_)
    obtain ⟨oc, hoc, hocd⟩ := id z
    refine h { s with heap := h' } ⟨I.ok, I.os, I.bare, ⟨fun b o e n hb hx => ?_, fun b o e n hb hx => ?_, I.base.free, fun b o e hx => ?_, I.base.tups, I.base.frzs, I.base.tbls⟩, ⟨m, hn.sameBut hs (Ne.symm (cne x c hc)), fun j y v' e1 e2 e3 => ?_⟩, fun y c' e => ?_, I.free, I.freeC, fun p hp => ?_, tracked ⟨oc, hoc, I.freeC x c hc⟩ hs, by simpa using I.len⟩ ⟨c, hs, .inr hc⟩
    · exact (hs.2 b (Nat.ne_of_lt (Nat.lt_of_lt_of_le (Heap.lt_size e) (I.ok.cab x c hfn hc)))).trans (I.base.keep b o e n hb hx)
    · obtain ⟨sl, e1⟩ := I.base.slot b o e n hb hx
      exact ⟨sl, (hs.2 b (Nat.ne_of_lt (Nat.lt_of_lt_of_le (Heap.lt_size e) (I.ok.cab x c hfn hc)))).trans e1⟩
    · obtain ⟨o', e1⟩ := I.base.there b o e hx
      exact ⟨o', (hs.2 b (Nat.ne_of_lt (Nat.lt_of_lt_of_le (Heap.lt_size e) (I.ok.cab x c hfn hc)))).trans e1⟩
    · by_cases hj : j = i
      · subst hj
        rw [hi] at e1; cases e1
        rw [List.getElem?_set_self hiσ] at e2
        cases e2
        exact ⟨u, r, .inr ⟨.inl hk, c, hc, hc'⟩⟩
      · rw [List.getElem?_set_ne (Ne.symm hj)] at e2
        obtain ⟨u', r', q⟩ := hl j y v' e1 e2 e3
        refine ⟨u', r', ?_⟩
        rcases q with q | ⟨k, c', e, z'⟩
        · exact .inl q
        · refine .inr ⟨k, c', e, z'.sameBut hs ?_⟩
          rintro rfl
          exact hj (nodup_ix hN e1 (I.ok.inj _ _ _ e hc ▸ hi))
    · by_cases hcc : c' = c
      · subst hcc; exact ⟨_, hc'⟩
      · obtain ⟨w2, z2⟩ := I.cell y c' e
        exact ⟨w2, z2.sameBut hs hcc⟩
    · obtain ⟨e, n, ne, nf, d⟩ := I.pin p hp
      refine ⟨(hs.2 p.1 ?_).trans e, n, ne, nf, d⟩
      intro q
      rw [q, hoc] at e
      have q' : oc = p.2 := Option.some.inj e
      exact d w' (by rw [← q']; exact hocd)
theorem store_ok {M : Model} {A : Around} {E : Value → Shared → Prop} {i : Nat} {x : Str} {v : V} {u : Value} {Q : Unit → Shared → Prop} (I : Inv X pins σ H s) (hN : X.N.Nodup) (hi : X.N[i]? = some x) (hx : Loc X.env.scope x) (r : RelV v u)
    (h : ∀ s', Inv X pins (σ.set i (some v)) H s' → Q () s') (hf : X.fn x = true ∨ X.env.scope.names.lookup x = some .local := by first | exact .inl rfl | exact .inr rfl | assumption) : wpAny M A (storeName X.env x u) Q E s :=
  store_ok2 I hN hi hx r (fun s' I' _ => h s' I') hf
/-- behind a call or a block, the state as it is -/
theorem Inv.call' {s' : Shared} {ch : List Addr} (I : Inv X pins σ H s) (ho : s'.os = s.os) (u : Un (frs X.stack) ch H H' s.heap s'.heap) (hok : HOk X.prog X.w H' s'.heap) (hg : AllBare s'.gens)
    (hch : ∀ b ∈ ch, (b ∈ X.ex ∨ X.s_0.heap.objs.size ≤ b) ∧ b ≠ X.env.locals ∧ (∀ x c, X.env.cells.lookup x = some c → c ≠ b) ∧ ∀ p ∈ X.pn ++ pins, p.1 ≠ b) : Inv X pins σ H' s' := by
  obtain ⟨h', g', d', t', o'⟩ := s'
  have e : o' = s.os := ho
  subst e
  exact I.call (g' := g') (t' := t') (d' := d') u hok hg hch
end

/-! ### the judgements -/
/-- an exception: its class, its own dict's address (where it has one), the abstract heap behind it -/
abbrev XK := Value → Option Addr → Hp → Prop
abbrev St := List (Option V)
abbrev VK := V → Hp → Prop
/-- an expression's reading; a test's; an argument list's -/
abbrev TE := St → Hp → VK → Prop
abbrev TT := St → Hp → (Bool → Hp → Prop) → Prop
abbrev TA := St → Hp → (List V → Hp → Prop) → Prop
/-- what is wanted behind a statement -/
structure Ends where
  nx : St → Hp → Prop
  rt : VK
  bk : St → Hp → Prop := fun _ _ => False
  ct : St → Hp → Prop := fun _ _ => False
abbrev TS := Ends → St → Hp → Prop

def EP (X : Cx) (pins : List (Addr × Obj)) (σ : St) (Q : VK) (u : Value) (s' : Shared) : Prop := ∃ v H', Inv X pins σ H' s' ∧ RelV v u ∧ Q v H'
def TP (X : Cx) (pins : List (Addr × Obj)) (σ : St) (Q : Bool → Hp → Prop) (b : Bool) (s' : Shared) : Prop := ∃ H', Inv X pins σ H' s' ∧ Q b H'
def AP (X : Cx) (pins : List (Addr × Obj)) (σ : St) (Q : List V → Hp → Prop) (us : List Value) (s' : Shared) : Prop := ∃ vs H', Inv X pins σ H' s' ∧ Vals vs us ∧ Q vs H'
def SP (X : Cx) (pins : List (Addr × Obj)) (D : Ends) (f : Flow) (s' : Shared) : Prop :=
  match f with
  | .next => ∃ σ' H', Inv X pins σ' H' s' ∧ D.nx σ' H'
  | .brk => ∃ σ' H', Inv X pins σ' H' s' ∧ D.bk σ' H'
  | .cont => ∃ σ' H', Inv X pins σ' H' s' ∧ D.ct σ' H'
  | .ret u => ∃ v σ' H', Inv X pins σ' H' s' ∧ RelV v u ∧ D.rt v H'

def PE (X : Cx) (e : Expr) (t : TE) : Prop :=
  ∀ (pins : List (Addr × Obj)) (s : Shared) (σ : St) (H : Hp) (Q : VK), Inv X pins σ H s → t σ H Q → wpAny (model X.prog X.w) X.A (eval e X.env) (EP X pins σ Q) X.xe s
def PT (X : Cx) (e : Expr) (t : TT) : Prop :=
  ∀ (pins : List (Addr × Obj)) (s : Shared) (σ : St) (H : Hp) (Q : Bool → Hp → Prop), Inv X pins σ H s → t σ H Q → wpAny (model X.prog X.w) X.A (isTrue e X.env (eval e X.env)) (TP X pins σ Q) X.xe s
/-- a test whatever its 'whole' is (and, or) -/
def PW (X : Cx) (e : Expr) (t : TT) : Prop :=
  ∀ (whole : Sem Value) (pins : List (Addr × Obj)) (s : Shared) (σ : St) (H : Hp) (Q : Bool → Hp → Prop), Inv X pins σ H s → t σ H Q → wpAny (model X.prog X.w) X.A (isTrue e X.env whole) (TP X pins σ Q) X.xe s
theorem PW.pt {X : Cx} {e : Expr} {t : TT} (h : PW X e t) : PT X e t := h _
/-- an argument list (no star), from the left -/
def PA (X : Cx) (es : List Expr) (t : TA) : Prop :=
  ∀ (pos : Pos) (pins : List (Addr × Obj)) (s : Shared) (σ : St) (H : Hp) (Q : List V → Hp → Prop), Inv X pins σ H s → t σ H Q → wpAny (model X.prog X.w) X.A (spliced (backTo pos (starEach es X.env))) (AP X pins σ Q) X.xe s
def PS (X : Cx) (st : Stmt) (t : TS) : Prop :=
  ∀ (pins : List (Addr × Obj)) (s : Shared) (σ : St) (H : Hp) (D : Ends), Inv X pins σ H s → t D σ H → wpAny (model X.prog X.w) X.A (exec st X.env) (SP X pins D) X.xe s
def PSs (X : Cx) (st : List Stmt) (t : TS) : Prop :=
  ∀ (pins : List (Addr × Obj)) (s : Shared) (σ : St) (H : Hp) (D : Ends), Inv X pins σ H s → t D σ H → wpAny (model X.prog X.w) X.A (execs st X.env) (SP X pins D) X.xe s
/-- weaken the end -/
theorem thn {α : Type} {t : Sem α} {Q Q' : α → Shared → Prop} {M : Model} {A : Around} {E : Value → Shared → Prop} {s : Shared} (h : wpAny M A t Q E s) (hQ : ∀ a s, Q a s → Q' a s) : wpAny M A t Q' E s := wpAny_mono h hQ fun _ _ x => x
end L2

namespace L2
open PySem PySem.Spec PyProof.Rows
section
variable {X : Cx}

/-! ### names and constants -/
def tVar (i : Nat) : TE := fun σ H Q => ∃ v, σ[i]? = some (some v) ∧ Q v H
def tC (v : V) : TE := fun _ H Q => Q v H
theorem pe_var {i : Nat} {x : Str} {pos : Pos} (hN : X.N[i]? = some x) (hv : Vis X.env.scope x) (hd : (x == ("__debug__" : Str)) = false := by decide) (hcd : (x == ("__classdict__" : Str)) = false := by decide) : PE X (.Name x pos) (tVar i) := by
  intro pins s σ H Q I h
  obtain ⟨v, e, h⟩ := h
  obtain ⟨m, hn, hl⟩ := I.loc
  obtain ⟨u, r, l⟩ := hl i x v hN e hv
  have fin : EP X pins σ Q u s := ⟨v, H, I, r, h⟩
  rcases l with ⟨hk, hm⟩ | ⟨hk, c, hc, hcell⟩
  · exact wpAny_Name (wpAny_loadName_local I.ok.kind hk hn hm fin) hd
  · rcases hk with hk | hk
    · exact wpAny_Name (wpAny_loadName_cell I.ok.kind hk hc hcell fin) hd
    · exact wpAny_Name (wpAny_loadName_free I.ok.kind hk hc hcell fin hcd) hd
theorem pe_int {i j pos} : PE X (.Constant (.int i) j pos) (tC (.int i)) := fun _ _ _ H _ I h => wpAny_Constant_int ⟨.int i, H, I.tok _, ⟨_, rfl⟩, h⟩
theorem pe_bl {b j pos} : PE X (.Constant (.bool b) j pos) (tC (.bl b)) := fun _ _ _ H _ I h => Constant_bool ⟨.bl b, H, I, rfl, h⟩
/-- a global name of the def -/
def Gl (X : Cx) (x : Str) : Prop := X.env.kindOf x = some .globalImplicit
theorem ld_glob {E : Value → Shared → Prop} {pins : List (Addr × Obj)} {s : Shared} {σ : St} {H : Hp} {x : Str} {u : Value} {pos : Pos} {Q : Value → Shared → Prop} (I : Inv X pins σ H s) (hg : Gl X x) (hm : X.mg x = some u) (h : Q u s)
    (hd : (x == ("__debug__" : Str)) = false := by decide) : wpAny (model X.prog X.w) X.A (eval (.Name x pos) X.env) Q E s :=
  Calls.Name_function_global I.ok.kind hg (Calls.loadGlobal_global (by rw [I.ok.glob]; exact I.mod.glob.keeps I.bk) hm h) hd
theorem ld_blt {E : Value → Shared → Prop} {pins : List (Addr × Obj)} {s : Shared} {σ : St} {H : Hp} {x : Str} {u : Value} {pos : Pos} {Q : Value → Shared → Prop} (I : Inv X pins σ H s) (hg : Gl X x) (hm : X.mg x = none) (hv : bootBuiltins x = some u) (h : Q u s)
    (hn : x ≠ "__name__" := by decide) (hd : (x == ("__debug__" : Str)) = false := by decide) : wpAny (model X.prog X.w) X.A (eval (.Name x pos) X.env) Q E s := by
  obtain ⟨mb, h1, h2⟩ := I.mod.blt
  exact Calls.Name_function_global I.ok.kind hg (Calls.loadGlobal_builtin (by rw [I.ok.glob]; exact I.mod.glob.keeps I.bk) hm (by rw [I.ok.blt]; exact h1.keeps I.bk) ((h2 x hn).trans hv) h) hd
/-- a module's constant, a class, a function, as a value -/
theorem pe_glob {x : Str} {v : V} {u : Value} {pos : Pos} (hg : Gl X x) (hm : X.mg x = some u) (r : RelV v u) (hd : (x == ("__debug__" : Str)) = false := by decide) : PE X (.Name x pos) (tC v) :=
  fun _ _ _ H _ I h => ld_glob I hg hm ⟨v, H, I, r, h⟩ hd
/-! ### arithmetic -/
variable {a b : Expr} {ta tb : TE} {pos : Pos}
/-! ### comparisons -/
/-- a comparison as a value, as a test -/
def tB (t : TE) : TT := fun σ H Q => t σ H fun x H1 => ∃ c, x = .bl c ∧ Q c H1
/-- an expression whose value is a bool, as a test -/
theorem pt_val {e : Expr} {t : TE} (h : PE X e t) (he : ∀ whole, isTrue e X.env whole = (do let v ← whole; standAt e.pos; holding [v] (truthy v)) := by intro _; rfl) : PT X e (tB t) := by
  intro pins s σ H Q I hw
  refine isTrue_plain (thn (h pins s σ H _ I hw) fun v s1 ⟨x, H1, I1, r1, q1⟩ => ?_) (he _)
  obtain ⟨d, rfl, q⟩ := q1
  cases r1
  exact wpAny_truthy_bool ⟨H1, I1, q⟩

/-! ### and, or, not -/
variable {tA tB' : TT} {rest : List Expr}
def tAnd (t u : TT) : TT := fun σ H Q => t σ H fun c H1 => if c = true then u σ H1 Q else Q false H1
def tOr (t u : TT) : TT := fun σ H Q => t σ H fun c H1 => if c = true then Q true H1 else u σ H1 Q
def tNot (t : TT) : TT := fun σ H Q => t σ H fun c H1 => Q (!c) H1
theorem pw_and1 (ha : PT X a tA) : PW X (.BoolOp .And [a] pos) tA := by
  intro wh pins s σ H Q I h
  refine isTrue_and (thn (ha pins s σ H Q I h) fun c s1 e => ?_)
  cases c with
  | true => exact isTrue_and_nil e
  | false => exact e
theorem pw_or1 (ha : PT X a tA) : PW X (.BoolOp .Or [a] pos) tA := by
  intro wh pins s σ H Q I h
  refine isTrue_or (thn (ha pins s σ H Q I h) fun c s1 e => ?_)
  cases c with
  | false => exact isTrue_or_nil e
  | true => exact e
theorem pw_and (ha : PT X a tA) (hb : PW X (.BoolOp .And (b :: rest) pos) tB') : PW X (.BoolOp .And (a :: b :: rest) pos) (tAnd tA tB') := by
  intro wh pins s σ H Q I h
  refine isTrue_and (thn (ha pins s σ H _ I h) fun c s1 ⟨H1, I1, q1⟩ => ?_)
  cases c with
  | true => exact hb wh pins s1 σ H1 Q I1 q1
  | false => exact ⟨H1, I1, q1⟩
theorem pw_or (ha : PT X a tA) (hb : PW X (.BoolOp .Or (b :: rest) pos) tB') : PW X (.BoolOp .Or (a :: b :: rest) pos) (tOr tA tB') := by
  intro wh pins s σ H Q I h
  refine isTrue_or (thn (ha pins s σ H _ I h) fun c s1 ⟨H1, I1, q1⟩ => ?_)
  cases c with
  | true => exact ⟨H1, I1, q1⟩
  | false => exact hb wh pins s1 σ H1 Q I1 q1
theorem pt_not (ha : PT X a tA) : PT X (.UnaryOp .Not a pos) (tNot tA) := by
  intro pins s σ H Q I h
  exact isTrue_not (ha pins s σ H (fun c H1 => Q (!c) H1) I h)
def tOrV (ta tb : TE) : TE := fun σ H Q => ta σ H fun x H1 => ∃ c, x = .bl c ∧ if c = true then Q (.bl true) H1 else tb σ H1 Q
theorem pe_one {op} {t : TE} (h : PE X a t) : PE X (.BoolOp op [a] pos) t := fun pins s σ H Q I hw => BoolOp_one (h pins s σ H Q I hw)
theorem pe_or (ha : PE X a ta) (hb : PE X (.BoolOp .Or (b :: rest) pos) tb) : PE X (.BoolOp .Or (a :: b :: rest) pos) (tOrV ta tb) := by
  intro pins s σ H Q I h
  refine BoolOp_or (thn (ha pins s σ H _ I h) fun v s1 ⟨x, H1, I1, r1, q1⟩ => ?_)
  obtain ⟨c, rfl, q1⟩ := q1
  cases r1
  refine wpAny_truthy_bool ?_
  cases c with
  | false => exact hb pins s1 σ H1 Q I1 q1
  | true => exact ⟨.bl true, H1, I1, rfl, q1⟩
/-- a if t else b -/
def tIf (t : TT) (ta tb : TE) : TE := fun σ H Q => t σ H fun c H1 => if c = true then ta σ H1 Q else tb σ H1 Q
theorem pe_ifExp {c : Expr} (hc : PT X c tA) (ha : PE X a ta) (hb : PE X b tb) : PE X (.IfExp c a b pos) (tIf tA ta tb) := by
  intro pins s σ H Q I h
  refine wpAny_IfExp (thn (hc pins s σ H _ I h) fun d s1 ⟨H1, I1, q1⟩ => ?_)
  cases d with
  | true => exact ha pins s1 σ H1 Q I1 q1
  | false => exact hb pins s1 σ H1 Q I1 q1
end
end L2

namespace L2
open PySem PySem.Spec PyProof.Rows

/-! ### a list, a tuple that is read: tracked, frozen, or an object of the module -/
def SqL (K : PySem.W.Frag) (H : Hp) (a : Addr) (xs : List V) : Prop :=
  Rd H a (.lst xs) ∨
    ∃ (o : Obj) (its : Array Value) (n : Nat), K.lookup a = some o ∧ o.cls = .type "list" ∧ o.dict = none ∧ o.data = .seq its n ∧ its.size ≤ sizeLine ∧ Vals xs its.toList
def SqT (K : PySem.W.Frag) (H : Hp) (a : Addr) (xs : List V) : Prop :=
  Rd H a (.tup xs) ∨
    ∃ (o : Obj) (its : Array Value) (n : Nat), K.lookup a = some o ∧ o.cls = .type "tuple" ∧ o.data = .seq its n ∧ its.size ≤ sizeLine ∧ Vals xs its.toList
def absV : Value → Option V
  | .none => some .non
  | .bool b => some (.bl b)
  | .int i _ => some (.int i)
  | .str x _ => some (.str x)
  | .bytes b _ => some (.byt b)
  | .float b _ => some (.flt b)
  | .ref a => some (.ref a)
  | .type n => some (.ty n)
  | _ => none
theorem RelV.abs {x : V} {u : Value} (r : RelV x u) : absV u = some x := by
  cases x with
  | non => cases r; rfl
  | bl _ => cases r; rfl
  | int _ => obtain ⟨t, rfl⟩ := r; rfl
  | str _ => obtain ⟨t, rfl⟩ := r; rfl
  | byt _ => obtain ⟨t, rfl⟩ := r; rfl
  | flt _ => obtain ⟨t, rfl⟩ := r; rfl
  | ref _ => cases r; rfl
  | ty _ => cases r; rfl
theorem RelV.inj {x y : V} {u : Value} (r : RelV x u) (q : RelV y u) : x = y := Option.some.inj (r.abs.symm.trans q.abs)
theorem Vals.inj : ∀ {xs ys : List V} {us : List Value}, Vals xs us → Vals ys us → xs = ys
  | _, _, _, .nil, .nil => rfl
  | _, _, _, .cons r t, .cons r' t' => by rw [r.inj r', Vals.inj t t']
section
variable {X : Cx} {pins : List (Addr × Obj)} {σ : St} {H : Hp} {s : Shared} {a : Addr} {xs ys : List V}
theorem SqL.of {K : PySem.W.Frag} (h : H a = some (.lst xs)) : SqL K H a xs := .inl (.inl h)
theorem SqT.of {K : PySem.W.Frag} (h : H a = some (.tup xs)) : SqT K H a xs := .inl (.inl h)
theorem Inv.list (I : Inv X pins σ H s) (h : SqL X.K H a xs) : ∃ its : List Value, Vals xs its ∧ PlainL s.heap a its.toArray ∧ xs.length ≤ sizeLine := by
  rcases h with h | ⟨o, its, n, hk, hc, hd, hs, hz, r⟩
  · obtain ⟨z, its, n, r, e⟩ := h.ok I.hok
    exact ⟨its, r, ⟨_, n, e, rfl, rfl, rfl⟩, z⟩
  · refine ⟨its.toList, r, ⟨o, n, I.kIn a o hk, hc, hd, by simpa using hs⟩, ?_⟩
    have e := r.length
    simp only [Array.length_toList] at e
    omega
theorem Inv.tuple (I : Inv X pins σ H s) (h : SqT X.K H a xs) : ∃ its : List Value, Vals xs its ∧ IsTup s.heap a its.toArray ∧ xs.length ≤ sizeLine := by
  rcases h with h | ⟨o, its, n, hk, hc, hs, hz, r⟩
  · obtain ⟨z, its, r, p⟩ := h.ok I.hok
    exact ⟨its, r, p, z⟩
  · refine ⟨its.toList, r, ⟨o, I.kIn a o hk, hc, n, by simpa using hs⟩, ?_⟩
    have e := r.length
    simp only [Array.length_toList] at e
    omega
theorem Inv.list_inj (I : Inv X pins σ H s) (h : SqL X.K H a xs) (h' : SqL X.K H a ys) : xs = ys := by
  obtain ⟨its, r, ⟨o, n, e, _, _, d⟩, _⟩ := I.list h
  obtain ⟨its', r', ⟨o', n', e', _, _, d'⟩, _⟩ := I.list h'
  rw [e] at e'; cases e'
  rw [d] at d'
  injection d' with d1 _
  have : its = its' := by simpa using congrArg Array.toList d1
  subst this
  exact r.inj r'
end

/-! ### another wish about exceptions -/
abbrev Cx.wish (X : Cx) (E : Value → Shared → Prop) : Cx := { X with xe := E }
/-- no exception leaves -/
abbrev Cx.nox (X : Cx) : Cx := X.wish fun _ _ => False
theorem Cx.Ok.wish {X : Cx} (ok : X.Ok) (E : Value → Shared → Prop) : (X.wish E).Ok :=
  ⟨ok.mod, ok.kind, ok.glob, ok.blt, ok.above, ok.inj, ok.has, ok.cab, ok.hd, ok.frames, ok.stk, ok.exf, ok.bs, ok.bsz, ok.noex, ok.exfs, ok.funs, ok.frf⟩
theorem Cx.Ok.unwish {X : Cx} {E : Value → Shared → Prop} (ok : (X.wish E).Ok) : X.Ok :=
  ⟨ok.mod, ok.kind, ok.glob, ok.blt, ok.above, ok.inj, ok.has, ok.cab, ok.hd, ok.frames, ok.stk, ok.exf, ok.bs, ok.bsz, ok.noex, ok.exfs, ok.funs, ok.frf⟩
section
variable {X : Cx} {pins : List (Addr × Obj)} {σ : St} {H : Hp} {s : Shared} {E : Value → Shared → Prop}
theorem Inv.wish (I : Inv X pins σ H s) (E : Value → Shared → Prop) : Inv (X.wish E) pins σ H s := ⟨I.ok.wish E, I.os, I.bare, I.base, I.loc, I.cell, I.free, I.freeC, I.pin, I.hok, I.len⟩
theorem Inv.unwish (I : Inv (X.wish E) pins σ H s) : Inv X pins σ H s := ⟨I.ok.unwish, I.os, I.bare, I.base, I.loc, I.cell, I.free, I.freeC, I.pin, I.hok, I.len⟩
theorem SP.unwish {D : Ends} {f : Flow} {s' : Shared} (h : SP (X.wish E) pins D f s') : SP X pins D f s' := by
  cases f with
  | next => obtain ⟨σ', H', I, q⟩ := h; exact ⟨σ', H', I.unwish, q⟩
  | brk => obtain ⟨σ', H', I, q⟩ := h; exact ⟨σ', H', I.unwish, q⟩
  | cont => obtain ⟨σ', H', I, q⟩ := h; exact ⟨σ', H', I.unwish, q⟩
  | ret u => obtain ⟨v, σ', H', I, r, q⟩ := h; exact ⟨v, σ', H', I.unwish, r, q⟩
theorem PSs.nox {st : List Stmt} {t : TS} (h : PSs X.nox st t) : PSs X st t := fun pins s σ H D I hw =>
  wpAny_mono (h pins s σ H D (I.wish _) hw) (fun _ _ q => q.unwish) fun _ _ z => False.elim z
end

/-! ### blocks and small statements -/
section
variable {X : Cx} {st : Stmt} {rest : List Stmt} {t u : TS} {e : Expr} {te : TE} {pos : Pos}
def tNext : TS := fun D σ H => D.nx σ H
def tSeq (t u : TS) : TS := fun D σ H => t { D with nx := u D } σ H
theorem pss_nil : PSs X [] tNext := fun _ _ σ H _ I h => wpAny_execs_nil ⟨σ, H, I, h⟩
theorem pss_cons (h1 : PS X st t) (h2 : PSs X rest u) : PSs X (st :: rest) (tSeq t u) := by
  intro pins s σ H D I h
  refine wpAny_execs_cons (thn (h1 pins s σ H { D with nx := u D } I h) fun f s1 q => ?_)
  cases f with
  | next =>
    obtain ⟨σ', H', I', q⟩ := q
    exact h2 pins s1 σ' H' D I' q
  | ret v => exact q
  | brk => exact q
  | cont => exact q
theorem pss_one (h1 : PS X st t) : PSs X [st] t := by
  intro pins s σ H D I h
  refine wpAny_execs_cons (thn (h1 pins s σ H D I h) fun f s1 q => ?_)
  cases f with
  | next => exact wpAny_execs_nil q
  | ret v => exact q
  | brk => exact q
  | cont => exact q
/-- in a def's body nothing is shown -/
theorem Inv.quiet {pins : List (Addr × Obj)} {σ : St} {H : Hp} {s : Shared} (I : Inv X pins σ H s) : interactive X.env = false := by simp [interactive, I.ok.kind]
/-- an expression whose value is dropped -/
def tDrop (te : TE) : TS := fun D σ H => te σ H fun _ H1 => D.nx σ H1
theorem ps_expr (he : PE X e te) (hs : swapsWith e none pos.line X.env = pure false := by rfl) : PS X (.Expr e pos) (tDrop te) := by
  intro pins s σ H D I h
  exact wpAny_Expr_any (thn (he pins s σ H _ I h) fun v s1 ⟨x, H1, I1, r1, q1⟩ => ⟨σ, H1, I1, q1⟩) I.quiet hs
def tRet (te : TE) : TS := fun D σ H => te σ H D.rt
theorem ps_ret (he : PE X e te) : PS X (.Return (some e) pos) (tRet te) := by
  intro pins s σ H D I h
  exact wpAny_Return_some (thn (he pins s σ H _ I h) fun v s1 ⟨x, H1, I1, r1, q1⟩ => ⟨x, σ, H1, I1, r1, q1⟩)
def tIfS (c : TT) (t u : TS) : TS := fun D σ H => c σ H fun b H1 => if b = true then t D σ H1 else u D σ H1
theorem ps_if {c : Expr} {a b : List Stmt} {tc : TT} (hc : PT X c tc) (ha : PSs X a t) (hb : PSs X b u) : PS X (.If c a b pos) (tIfS tc t u) := by
  intro pins s σ H D I h
  refine wpAny_If (thn (hc pins s σ H _ I h) fun d s1 ⟨H1, I1, q1⟩ => ?_)
  cases d with
  | true => exact ha pins s1 σ H1 D I1 q1
  | false => exact hb pins s1 σ H1 D I1 q1
/-- code that the proof never comes to -/
def tNever : TS := fun _ _ _ => False
theorem pss_never {sts : List Stmt} : PSs X sts tNever := fun _ _ _ _ _ _ h => h.elim
end

/-! ### targets -/
abbrev TG := V → St → Hp → (St → Hp → Prop) → Prop
def PG (X : Cx) (target : Expr) (t : TG) : Prop :=
  ∀ (pins : List (Addr × Obj)) (s : Shared) (σ : St) (H : Hp) (v : V) (u : Value) (Q : St → Hp → Prop), Inv X pins σ H s → RelV v u → t v σ H Q →
    wpAny (model X.prog X.w) X.A (assign target X.env u) (fun _ s' => ∃ σ' H', Inv X pins σ' H' s' ∧ Q σ' H') X.xe s
section
variable {X : Cx} {pos : Pos}
def gName (i : Nat) : TG := fun v σ H Q => Q (σ.set i (some v)) H
theorem pg_name {i : Nat} {x : Str} (hN : X.N.Nodup) (hi : X.N[i]? = some x) (hx : Loc X.env.scope x) (hf : X.fn x = true ∨ X.env.scope.names.lookup x = some .local := by first | exact .inl rfl | exact .inr rfl | assumption) : PG X (.Name x pos) (gName i) := by
  intro pins s σ H v u Q I r h
  exact wpAny_assign_Name (store_ok I hN hi hx r (fun s' I' => ⟨_, H, I', h⟩) hf)
/-- target = value -/
def tAsg (te : TE) (g : TG) : TS := fun D σ H => te σ H fun x H1 => g x σ H1 D.nx
/-- name = value -/
theorem ps_set {i : Nat} {x : Str} {e : Expr} {te : TE} {pos' : Pos} (hN : X.N.Nodup) (hi : X.N[i]? = some x) (hx : Loc X.env.scope x) (he : PE X e te) (hs : swapsWith e (some (.Name x pos')) pos.line X.env = pure false := by rfl) (hf : X.fn x = true ∨ X.env.scope.names.lookup x = some .local := by first | exact .inl rfl | exact .inr rfl | assumption) :
    PS X (.Assign [.Name x pos'] e pos) (tAsg te (gName i)) := by
  intro pins s σ H D I h
  refine wpAny_Assign_Name (thn (he pins s σ H _ I h) fun v s1 ⟨y, H1, I1, r1, q1⟩ => ?_) hs
  exact store_ok I1 hN hi hx r1 (fun s2 I2 => ⟨_, H1, I2, q1⟩) hf
end

/-! ### while -/
section
variable {X : Cx} {pos : Pos}
/-- the invariant W with its measure -/
def tWhile (c : TT) (tb : TS) : TS := fun D σ H => ∃ W : Nat → St → Hp → Prop, (∃ m, W m σ H) ∧ ∀ m σ H, W m σ H →
  c σ H fun b H1 => if b = true then ∃ N : St → Hp → Prop, (∀ σ' H', N σ' H' → ∃ m', m' < m ∧ W m' σ' H') ∧ tb { D with nx := N, ct := N, bk := D.nx } σ H1 else D.nx σ H1
theorem ps_while {c : Expr} {body : List Stmt} {tc : TT} {tb : TS} (hp : PassesOwn (model X.prog X.w) X.A X.env X.xe) (hc : PT X c tc) (hb : PSs X body tb) : PS X (.While c body [] pos) (tWhile tc tb) := by
  intro pins s σ H D I h
  obtain ⟨W, ⟨m0, w0⟩, turn⟩ := h
  refine wpAny_While (codeAny_whileLoop (fun n s' => ∃ σ' H', Inv X pins σ' H' s' ∧ W n σ' H') ?_ m0 ⟨σ, H, I, w0⟩)
  rintro n s1 ⟨σ1, H1, I1, w1⟩
  refine wpAny_passesOwn hp (thn (hc pins s1 σ1 H1 _ I1 (turn n σ1 H1 w1)) fun b s2 ⟨H2, I2, q2⟩ => ?_)
  cases b with
  | true =>
    obtain ⟨N, hN, q2⟩ := q2
    rw [if_pos rfl]
    refine wpAny_passesOwn hp (thn (hb pins s2 σ1 H2 _ I2 q2) fun f s3 q3 => ?_)
    cases f with
    | next =>
      obtain ⟨σ3, H3, I3, n3⟩ := q3
      obtain ⟨m', hm, w3⟩ := hN σ3 H3 n3
      exact ⟨m', hm, σ3, H3, I3, w3⟩
    | cont =>
      obtain ⟨σ3, H3, I3, n3⟩ := q3
      obtain ⟨m', hm, w3⟩ := hN σ3 H3 n3
      exact ⟨m', hm, σ3, H3, I3, w3⟩
    | brk => exact q3
    | ret v => exact q3
  | false =>
    rw [if_neg Bool.false_ne_true]
    exact wpAny_execs_nil ⟨σ1, H2, I2, q2⟩
end

/-! ### what a loop or a comprehension walks -/
/-- at turn i: it yields x (the heap may grow), or it stops -/
structure It where
  go : Nat → Hp → Prop
  yld : Nat → Hp → V → Hp → Prop
  stop : Nat → Hp → Prop
/-- the iterator's own objects may turn: they are not the frame's, not pinned, younger than the entry (or a comprehension's own) -/
def FpOk (X : Cx) (pins : List (Addr × Obj)) (H : Hp) (b : Addr) : Prop :=
  H b = none ∧ b ≠ X.env.locals ∧ b ∉ X.fs ∧ (b ∈ X.ex ∨ X.s_0.heap.objs.size ≤ b) ∧ (∀ x c, X.env.cells.lookup x = some c → c ≠ b) ∧ ∀ p ∈ X.pn ++ pins, p.1 ≠ b
theorem Inv.fpOk {X : Cx} {pins : List (Addr × Obj)} {σ : St} {H H' : Hp} {s : Shared} {b : Addr} (I : Inv X pins σ H s) (hb : s.heap.objs.size ≤ b) (hn : H' b = none) : FpOk X pins H' b := by
  refine ⟨hn, Nat.ne_of_gt (Nat.lt_of_lt_of_le I.lt hb), I.nofs hb, .inr (Nat.le_trans I.sz hb), fun x c e z => ?_, fun p hp z => ?_⟩
  · obtain ⟨v, q⟩ := I.cell x c e
    exact absurd (Nat.lt_of_lt_of_le q.lt (by rw [z]; exact hb)) (Nat.lt_irrefl _)
  · exact absurd (Nat.lt_of_lt_of_le (Heap.lt_size (I.pin p hp).1) (by rw [z]; exact hb)) (Nat.lt_irrefl _)
structure Turn (P : Program) (w : World) (K : PySem.W.Frag) (tg : Expr) (J : It) (fp : List Addr) (it : Addr) (tn : Nat → Heap → Prop) : Prop where
  mem : it ∈ fp
  obj : ∀ i h, tn i h → ∀ b ∈ fp, ∃ o, h.get? b = some o ∧ ∀ v, o.data ≠ .cell v
  keep : ∀ i h h', tn i h → (∀ b ∈ fp, ∀ o, h.get? b = some o → h'.get? b = some o) → tn i h'
  item : ∀ (X : Cx), X.prog = P → X.w = w → X.K = K → X.calm = true → ∀ (i : Nat) (pins : List (Addr × Obj)) (s : Shared) (σ : St) (H : Hp) (E : Value → Shared → Prop), Inv X pins σ H s → (∀ b ∈ fp, FpOk X pins H b) → tn i s.heap → J.go i H →
    wpAny (model P w) X.A (pyNext (.ref it)) (fun r s1 => ∃ u, r = some u ∧
      wpAny (model P w) X.A (letOwnedTupleGo tg (.ref it) u) (fun _ s2 => ∃ x H', Inv X pins σ H' s2 ∧ RelV x u ∧ J.yld i H x H' ∧ tn (i + 1) s2.heap ∧ ∀ b ∈ fp, H' b = none) E s1) E s
  done : ∀ (X : Cx), X.prog = P → X.w = w → X.K = K → X.calm = true → ∀ (i : Nat) (pins : List (Addr × Obj)) (s : Shared) (σ : St) (H : Hp) (E : Value → Shared → Prop), Inv X pins σ H s → (∀ b ∈ fp, FpOk X pins H b) → tn i s.heap → J.stop i H →
    wpAny (model P w) X.A (pyNext (.ref it)) (fun r s1 => r = none ∧ Inv X pins σ H s1) E s
  self : ∀ (A : Around) (i : Nat) (s : Shared) (Q : Value → Shared → Prop) (E : Value → Shared → Prop), tn i s.heap → Q (.ref it) s → wpAny (model P w) A (pyIter (.ref it)) Q E s
abbrev TI := St → Hp → (It → Hp → Prop) → Prop
/-- an iterator has come -/
def PIE (X : Cx) (pins : List (Addr × Obj)) (σ : St) (tg : Expr) (R : It → Hp → Prop) (itv : Value) (s2 : Shared) : Prop :=
  ∃ (it : Addr) (fp : List Addr) (tn : Nat → Heap → Prop) (J : It) (H' : Hp), itv = .ref it ∧ Inv X pins σ H' s2 ∧ Turn X.prog X.w X.K tg J fp it tn ∧ tn 0 s2.heap ∧ (∀ b ∈ fp, FpOk X pins H' b) ∧ R J H'
def PI (X : Cx) (tg iter : Expr) (wi : TI) : Prop :=
  ∀ (pins : List (Addr × Obj)) (s : Shared) (σ : St) (H : Hp) (R : It → Hp → Prop), Inv X pins σ H s → wi σ H R →
    wpAny (model X.prog X.w) X.A (eval iter X.env) (fun v s1 => wpAny (model X.prog X.w) X.A (pyIter v) (PIE X pins σ tg R) X.xe s1) X.xe s

/-- the step ahead of the store is nothing for an iterator that keeps no tuple -/
theorem go_of {M : Model} {A : Around} {E : Value → Shared → Prop} {s : Shared} {tg : Expr} {it : Addr} {u : Value} {o : Obj} {n : String} {vs : Array Value} {Q : Unit → Shared → Prop} (ho : s.heap.get? it = some o) (hc : o.cls = .type n) (hd : o.data = .fields vs)
    (hn : ["enumerate", "zip", "dict_itemiterator", "dict_reverseitemiterator", "odict_iterator", "itertools.zip_longest", "itertools.pairwise"].contains n = false) (hQ : Q () s) : wpAny M A (letOwnedTupleGo tg (.ref it) u) Q E s := by
  unfold letOwnedTupleGo
  cases tg <;> first
    | exact wpAny_pure hQ
    | (cases u <;> first
        | exact wpAny_pure hQ
        | (refine wpAny_bind (wpAny_load ho ?_)
           rw [hc, hd]
           show wpAny M A (if (["enumerate", "zip", "dict_itemiterator", "dict_reverseitemiterator", "odict_iterator", "itertools.zip_longest", "itertools.pairwise"].contains n && vs[0]? == some (rawInt _)) = true then _ else _) Q E s
           rw [if_neg (by intro h; rw [hn, Bool.false_and] at h; cases h)]
           exact wpAny_pure hQ))

/-- the list at a, as it stands at each turn (a loop may append to it) -/
def Itl (K : PySem.W.Frag) (a : Addr) : It :=
  ⟨fun i H => ∃ xs x, SqL K H a xs ∧ xs[i]? = some x, fun i H x H' => H' = H ∧ ∀ xs, SqL K H a xs → xs[i]? = some x, fun i H => ∃ xs, SqL K H a xs ∧ xs.length ≤ i⟩
/-- lo, lo + 1, .. (n of them) -/
def Itr (lo : Int) (n : Nat) : It := ⟨fun i _ => i < n, fun i H x H' => H' = H ∧ x = .int (lo + i), fun i _ => n ≤ i⟩
theorem turn_list {P : Program} {w : World} {K : PySem.W.Frag} {tg : Expr} (a it : Addr) : Turn P w K tg (Itl K a) [it] it (fun i h => h.IsListIter it a i) where
  mem := by simp
  obj := fun i h st b hb => by
    have e : b = it := by simpa using hb
    subst e
    obtain ⟨o, e, c, d⟩ := st
    exact ⟨o, e, fun v z => by rw [d] at z; cases z⟩
  keep := fun i h h' st k => st.at fun o e => k it (by simp) o e
  item := by
    intro X hP hw hK hc i pins s σ H E I hf st hg
    subst hP hw hK
    obtain ⟨xs, x, hq, hx⟩ := hg
    obtain ⟨its, rv, p, hz⟩ := I.list hq
    obtain ⟨u, hu, ru⟩ := rv.get hx
    obtain ⟨f0, f1, f2, f3, f4, f5⟩ := hf it (by simp)
    refine wpAny_pyNext_list_item st p.isList (x := u) (by simpa using hu) fun h' st' sb => ?_
    have I1 : Inv X pins σ H { s with heap := h' } := I.turned (t' := s.toks) (fun b o hb e => (sb.2 b hb).trans e) f0 f1 f3 f4 f5
    obtain ⟨o, e, c, d⟩ := id st'
    exact ⟨u, rfl, go_of (s := { s with heap := h' }) e c d (by decide) ⟨x, H, I1, ru, ⟨rfl, fun ys hy => by rw [I.list_inj hy hq]; exact hx⟩, st', fun b hb => (hf b hb).1⟩⟩
  done := by
    intro X hP hw hK hc i pins s σ H E I hf st hg
    subst hP hw hK
    obtain ⟨xs, hq, hx⟩ := hg
    obtain ⟨its, rv, p, hz⟩ := I.list hq
    obtain ⟨f0, f1, f2, f3, f4, f5⟩ := hf it (by simp)
    have hl := rv.length
    exact wpAny_pyNext_list_end (I.ok.hd hc) st p.isList (by simp; omega) fun h' eb => ⟨rfl, I.turned (t' := s.toks) (fun b o hb e => eb b o hb e) f0 f1 f3 f4 f5⟩
  self := fun _ _ _ _ _ st h => wpAny_pyIter_listiter st h
theorem turn_range {P : Program} {w : World} {K : PySem.W.Frag} {tg : Expr} (it : Addr) (lo : Int) (n : Nat) : Turn P w K tg (Itr lo n) [it] it (fun i h => IsRangeIter h it (lo + (i : Nat) * 1) ((n : Int) - (i : Nat)) 1) where
  mem := by simp
  obj := fun i h st b hb => by
    have e : b = it := by simpa using hb
    subst e
    exact ⟨_, st, fun v z => by
      have z' : Data.fields _ = Data.cell v := z
      cases z'⟩
  keep := fun i h h' st k => k it (by simp) _ st
  item := by
    intro X hP hw hK hc i pins s σ H E I hf st hg
    subst hP hw hK
    obtain ⟨f0, f1, f2, f3, f4, f5⟩ := hf it (by simp)
    have W := Walks.range (prog := X.prog) (w := X.w) (I.ok.hd hc) it lo 1 n
    refine W.item i s _ _ hg st fun v h' tk hv st' kk => ?_
    obtain ⟨t, rfl⟩ := hv
    have I1 : Inv X pins σ H { s with heap := h', toks := tk } := I.turned (fun b o hb e => kk b o (by simpa using hb) e) f0 f1 f3 f4 f5
    refine ⟨_, rfl, go_of (s := { s with heap := h', toks := tk }) (n := "range_iterator") st' rfl rfl (by decide) ⟨.int (lo + i), H, I1, ⟨t, ?_⟩, ⟨rfl, rfl⟩, st', fun b hb => (hf b hb).1⟩⟩
    rw [Int.mul_one]
  done := by
    intro X hP hw hK hc i pins s σ H E I hf st hg
    subst hP hw hK
    obtain ⟨f0, f1, f2, f3, f4, f5⟩ := hf it (by simp)
    exact wpAny_pyNext_range_end (I.ok.hd hc) st (by have : n ≤ i := hg; omega) fun h' eb => ⟨rfl, I.turned (t' := s.toks) (fun b o hb e => eb b o hb e) f0 f1 f3 f4 f5⟩
  self := fun _ _ _ _ _ st h => wpAny_pyIter_rangeiter st h
end L2

namespace L2
open PySem PySem.Spec PyProof.Rows
section
variable {X : Cx} {tg : Expr}
def iList (K : PySem.W.Frag) (tl : TE) : TI := fun σ H R => tl σ H fun x H1 => ∃ a, x = .ref a ∧ (∃ xs, SqL K H1 a xs) ∧ R (Itl K a) H1
theorem pi_list {l : Expr} {tl : TE} (hl : PE X l tl) : PI X tg l (iList X.K tl) := by
  intro pins s σ H R I h
  refine thn (hl pins s σ H _ I h) fun v s1 ⟨x, H1, I1, r1, q1⟩ => ?_
  obtain ⟨a, e, ⟨xs, hq⟩, q⟩ := q1
  subst e
  cases r1
  obtain ⟨its, rv, p, hz⟩ := I1.list hq
  refine wpAny_pyIter_list p.isList ?_
  refine ⟨s1.heap.objs.size, [s1.heap.objs.size], _, _, H1, rfl, I1.kept (t' := s1.toks) fun b o e => Heap.get?_push_of_some _ e, turn_list a _, ⟨_, Heap.get?_push_size _ rfl, rfl, rfl⟩, fun b hb => ?_, q⟩
  have e : b = s1.heap.objs.size := by simpa using hb
  subst e
  exact I1.fpOk (Nat.le_refl _) (I1.hok.fresh (Nat.le_refl _))
/-- a range object just made, walked -/
theorem range_it {pins : List (Addr × Obj)} {σ : St} {H : Hp} {s : Shared} {R : It → Hp → Prop} {E : Value → Shared → Prop} {lo hi : Int} {t u v : Tok} {tk : Nat} (I : Inv X pins σ H s) (h1 : -(2 ^ 62) ≤ lo) (h2 : lo < 2 ^ 62) (h3 : -(2 ^ 62) ≤ hi) (h4 : hi < 2 ^ 62)
    (q : R (Itr lo (hi - lo).toNat) H) : wpAny (model X.prog X.w) X.A (pyIter (.ref s.heap.objs.size)) (PIE X pins σ tg R) E { s with heap := s.heap.push { cls := .type "range", data := .fields #[.int lo t, .int hi u, .int 1 v] }, toks := tk } := by
  refine wpAny_pyIter_range (IsRange.new ..) (small_one h1 h2 h3 h4) ?_
  have I1 : Inv X pins σ H { s with heap := s.heap.push { cls := .type "range", data := .fields #[.int lo t, .int hi u, .int 1 v] }, toks := tk } := I.kept fun b o e => Heap.get?_push_of_some _ e
  refine ⟨(s.heap.push { cls := .type "range", data := .fields #[.int lo t, .int hi u, .int 1 v] }).objs.size, [(s.heap.push { cls := .type "range", data := .fields #[.int lo t, .int hi u, .int 1 v] }).objs.size], _, _, H, rfl,
    I1.kept (t' := tk) fun b o e => Heap.get?_push_of_some _ e, turn_range _ lo (hi - lo).toNat, ?_, fun b hb => ?_, q⟩
  · have e1 : lo + ((0 : Nat) : Int) * 1 = lo := by simp
    have e2 : (((hi - lo).toNat : Nat) : Int) - ((0 : Nat) : Int) = Builtin.Range.rangeSize lo hi 1 := by rw [rangeSize_one]; split <;> omega
    show IsRangeIter _ _ (lo + ((0 : Nat) : Int) * 1) ((((hi - lo).toNat : Nat) : Int) - ((0 : Nat) : Int)) 1
    rw [e1, e2]
    exact Heap.get?_push_size _ rfl
  · have e : b = (s.heap.push { cls := .type "range", data := .fields #[.int lo t, .int hi u, .int 1 v] }).objs.size := by simpa using hb
    subst e
    exact I1.fpOk (Nat.le_refl _) (I1.hok.fresh (Nat.le_refl _))
def iRng1 (ta : TA) : TI := fun σ H R => ta σ H fun vs H1 => ∃ j : Int, vs = [.int j] ∧ -(2 ^ 62) ≤ j ∧ j < 2 ^ 62 ∧ R (Itr 0 j.toNat) H1
def iRng2 (ta : TA) : TI := fun σ H R => ta σ H fun vs H1 => ∃ i j : Int, vs = [.int i, .int j] ∧ (-(2 ^ 62) ≤ i ∧ i < 2 ^ 62 ∧ -(2 ^ 62) ≤ j ∧ j < 2 ^ 62) ∧ R (Itr i (j - i).toNat) H1
theorem pi_range1 {a : Expr} {ta : TA} {p pos : Pos} (hg : Gl X "range") (hm : X.mg "range" = none) (ha : PA X [a] ta) (hs : starEach [a] X.env = [(false, eval a X.env)] := by rfl) : PI X tg (.Call (.Name "range" p) [a] [] pos) (iRng1 ta) := by
  intro pins s σ H R I h
  refine Call_ (ld_blt I hg hm boot_range (PyProof.Rows.callWith_type1 (thn (ha pos pins s σ H _ I h) fun us s1 ⟨vs, H1, I1, r1, q1⟩ => ?_) hs rfl))
  obtain ⟨j, e, q1, q2, q⟩ := q1
  subst e
  cases r1 with
  | cons r rr =>
    cases rr
    obtain ⟨t, rfl⟩ := r
    exact call_range_1 (range_it I1 (by omega) (by omega) q1 q2 (by simpa using q))
theorem pi_range2 {a b : Expr} {ta : TA} {p pos : Pos} (hg : Gl X "range") (hm : X.mg "range" = none) (ha : PA X [a, b] ta) (hs : starEach [a, b] X.env = [(false, eval a X.env), (false, eval b X.env)] := by rfl) (hs2 : starEach [b] X.env = [(false, eval b X.env)] := by rfl) :
    PI X tg (.Call (.Name "range" p) [a, b] [] pos) (iRng2 ta) := by
  intro pins s σ H R I h
  refine Call_ (ld_blt I hg hm boot_range (PyProof.Rows.callWith_type1 (thn (ha pos pins s σ H _ I h) fun us s1 ⟨vs, H1, I1, r1, q1⟩ => ?_) (by rw [hs, hs2]) (by rw [hs2]; rfl)))
  obtain ⟨i, j, e, ⟨q1, q2, q3, q4⟩, q⟩ := q1
  subst e
  cases r1 with
  | cons r rr =>
    cases rr with
    | cons r' rr =>
      cases rr
      obtain ⟨t, rfl⟩ := r
      obtain ⟨t', rfl⟩ := r'
      exact call_range_2 (range_it I1 q1 q2 q3 q4 q)

/-! ### for -/
/-- W: the invariant by the turn and a measure; N: what the body is to reach -/
def tFor (wi : TI) (g : TG) (tb : TS) : TS := fun D σ H => wi σ H fun J H1 => ∃ W : Nat → Nat → St → Hp → Prop, (∃ m, W 0 m σ H1) ∧ ∀ i m σ H, W i m σ H →
  (J.stop i H ∧ D.nx σ H) ∨ (J.go i H ∧ ∃ N : St → Hp → Prop, (∀ σ' H', N σ' H' → ∃ m', m' < m ∧ W (i + 1) m' σ' H') ∧ ∀ x H', J.yld i H x H' → g x σ H' fun σ2 H2 => tb { D with nx := N, ct := N, bk := D.nx } σ2 H2)
/-- the records at fp as they stand -/
def pinsAt (fp : List Addr) (h : Heap) : List (Addr × Obj) := fp.filterMap fun b => (h.get? b).map fun o => (b, o)
theorem mem_pinsAt {fp : List Addr} {h : Heap} {b : Addr} {o : Obj} (hb : b ∈ fp) (e : h.get? b = some o) : (b, o) ∈ pinsAt fp h := List.mem_filterMap.mpr ⟨b, hb, by rw [e]; rfl⟩
theorem of_pinsAt {fp : List Addr} {h : Heap} {p : Addr × Obj} (hp : p ∈ pinsAt fp h) : p.1 ∈ fp ∧ h.get? p.1 = some p.2 := by
  obtain ⟨b, hb, e⟩ := List.mem_filterMap.mp hp
  cases q : h.get? b with
  | none => rw [q] at e; cases e
  | some o =>
    rw [q] at e
    have e' : (b, o) = p := Option.some.inj e
    subst e'
    exact ⟨hb, q⟩
theorem Inv.pinned {pins : List (Addr × Obj)} {σ : St} {H : Hp} {s : Shared} {fp : List Addr} (I : Inv X pins σ H s) (hf : ∀ b ∈ fp, FpOk X pins H b) (ho : ∀ b ∈ fp, ∃ o, s.heap.get? b = some o ∧ ∀ v, o.data ≠ .cell v) : Inv X (pins ++ pinsAt fp s.heap) σ H s :=
  I.pins_of fun p hp => (List.mem_append.mp hp).elim (fun z => I.pin p (List.mem_append_right _ z)) fun z => by
    obtain ⟨hb, e⟩ := of_pinsAt z
    obtain ⟨f0, f1, f2, _⟩ := hf p.1 hb
    obtain ⟨o, e', d⟩ := ho p.1 hb
    rw [e] at e'; cases e'
    exact ⟨e, f0, f1, f2, d⟩
theorem Inv.unpinned {pins pl : List (Addr × Obj)} {σ : St} {H : Hp} {s : Shared} (I : Inv X (pins ++ pl) σ H s) : Inv X pins σ H s := I.pins_of fun p hp => I.pin p (List.mem_append_right _ (List.mem_append_left _ hp))
theorem ps_for {iter : Expr} {body : List Stmt} {wi : TI} {g : TG} {tb : TS} {pos : Pos} (hp : PassesOwn (model X.prog X.w) X.A X.env X.xe) (hc : X.calm = true) (hi : PI X tg iter wi) (hg : PG X tg g) (hb : PSs X body tb)
    (hs : ∀ x, foldedSetIterable iter X.env x = pure x := by intro _; rfl) : PS X (.For tg iter body [] pos) (tFor wi g tb) := by
  intro pins s σ H D I h
  refine wpAny_For (thn (hi pins s σ H _ I h) fun v s1 h1 => thn h1 fun itv s2 h2 => ?_) hs
  obtain ⟨it, fp, tn, J, H2, e, I2, T, st2, f2, W, ⟨m0, w0⟩, turn⟩ := h2
  subst e
  -- what stays true of the iterator's objects through the loop
  have stat : ∀ {H' : Hp}, (∀ b ∈ fp, H' b = none) → ∀ b ∈ fp, FpOk X pins H' b := fun hn b hb => ⟨hn b hb, (f2 b hb).2⟩
  refine codeAny_forLoop_any (fun n s' => ∃ i σ' H', Inv X pins σ' H' s' ∧ tn i s'.heap ∧ (∀ b ∈ fp, H' b = none) ∧ W i n σ' H') ?_ m0 ⟨0, σ, H2, I2, st2, fun b hb => (f2 b hb).1, w0⟩
  rintro n s3 ⟨i, σ3, H3, I3, st3, fr3, w3⟩
  rcases turn i n σ3 H3 w3 with ⟨stop, qn⟩ | ⟨go, N, hN, step⟩
  · refine wpAny_passesOwn hp (thn (T.done X rfl rfl rfl hc i pins s3 σ3 H3 X.xe I3 (stat fr3) st3 stop) fun r s4 ⟨hr, I4⟩ => ?_)
    subst hr
    exact wpAny_execs_nil ⟨σ3, H3, I4, qn⟩
  · refine wpAny_passesOwn hp (thn (T.item X rfl rfl rfl hc i pins s3 σ3 H3 X.xe I3 (stat fr3) st3 go) fun r s4 ⟨u, hr, h4⟩ => ?_)
    subst hr
    refine wpAny_passesOwn hp (thn h4 fun _ s5 ⟨x, H5, I5, r5, y5, st5, fr5⟩ => ?_)
    have I5' := I5.pinned (stat fr5) (T.obj _ _ st5)
    refine wpAny_passesOwn hp (thn (hg _ s5 σ3 H5 x u _ I5' r5 (step x H5 y5)) fun _ s6 ⟨σ6, H6, I6, q6⟩ => ?_)
    refine wpAny_passesOwn hp (thn (hb _ s6 σ6 H6 _ I6 q6) fun f s7 q7 => ?_)
    have again : ∀ {σ7 : St} {H7 : Hp}, Inv X (pins ++ pinsAt fp s5.heap) σ7 H7 s7 → N σ7 H7 → ∃ m, m < n ∧ ∃ i σ' H', Inv X pins σ' H' s7 ∧ tn i s7.heap ∧ (∀ b ∈ fp, H' b = none) ∧ W i m σ' H' := fun {σ7 H7} I7 n7 => by
      obtain ⟨m', hm, w7⟩ := hN σ7 H7 n7
      refine ⟨m', hm, i + 1, σ7, H7, I7.unpinned, T.keep _ _ _ st5 fun b hb o e => (I7.pin (b, o) (List.mem_append_right _ (List.mem_append_right _ (mem_pinsAt hb e)))).1, fun b hb => ?_, w7⟩
      obtain ⟨o, e, d⟩ := T.obj _ _ st5 b hb
      exact (I7.pin (b, o) (List.mem_append_right _ (List.mem_append_right _ (mem_pinsAt hb e)))).2.1
    cases f with
    | next => obtain ⟨σ7, H7, I7, n7⟩ := q7; exact again I7 n7
    | cont => obtain ⟨σ7, H7, I7, n7⟩ := q7; exact again I7 n7
    | brk => obtain ⟨σ7, H7, I7, q7⟩ := q7; exact ⟨σ7, H7, I7.unpinned, q7⟩
    | ret v => obtain ⟨x7, σ7, H7, I7, r7, q7⟩ := q7; exact ⟨x7, σ7, H7, I7.unpinned, r7, q7⟩
end

/-! ### the forms one uses -/
/-- over a list that the body leaves as it is -/
theorem for_list {K : PySem.W.Frag} {a : Addr} {xs : List V} {g : TG} {tb : TS} {D : Ends} {σ : St} {H : Hp} (Pv : Nat → St → Hp → Prop) (h0 : Pv 0 σ H) (hl : ∀ i σ H, i ≤ xs.length → Pv i σ H → SqL K H a xs)
    (hs : ∀ i x σ H, xs[i]? = some x → Pv i σ H → g x σ H fun σ2 H2 => tb { D with nx := Pv (i + 1), ct := Pv (i + 1), bk := D.nx } σ2 H2) (hd : ∀ σ H, Pv xs.length σ H → D.nx σ H) :
    ∃ W : Nat → Nat → St → Hp → Prop, (∃ m, W 0 m σ H) ∧ ∀ i m σ H, W i m σ H →
      ((Itl K a).stop i H ∧ D.nx σ H) ∨ ((Itl K a).go i H ∧ ∃ N : St → Hp → Prop, (∀ σ' H', N σ' H' → ∃ m', m' < m ∧ W (i + 1) m' σ' H') ∧ ∀ x H', (Itl K a).yld i H x H' → g x σ H' fun σ2 H2 => tb { D with nx := N, ct := N, bk := D.nx } σ2 H2) := by
  refine ⟨fun i m σ H => m = xs.length - i ∧ i ≤ xs.length ∧ Pv i σ H, ⟨xs.length, by simp, Nat.zero_le _, h0⟩, ?_⟩
  rintro i m σ H ⟨rfl, hi, p⟩
  have q := hl i σ H hi p
  by_cases hlt : i < xs.length
  · refine .inr ⟨⟨xs, xs[i], q, by simp [hlt]⟩, Pv (i + 1), fun σ' H' p' => ⟨xs.length - (i + 1), by omega, rfl, hlt, p'⟩, fun x H' y => ?_⟩
    obtain ⟨e, y⟩ := y
    subst e
    exact hs i x σ _ (y xs q) p
  · have e : i = xs.length := by omega
    subst e
    exact .inl ⟨⟨xs, q, Nat.le_refl _⟩, hd σ H p⟩
theorem for_range {lo : Int} {n : Nat} {g : TG} {tb : TS} {D : Ends} {σ : St} {H : Hp} (Pv : Nat → St → Hp → Prop) (h0 : Pv 0 σ H)
    (hs : ∀ i σ H, i < n → Pv i σ H → g (.int (lo + i)) σ H fun σ2 H2 => tb { D with nx := Pv (i + 1), ct := Pv (i + 1), bk := D.nx } σ2 H2) (hd : ∀ σ H, Pv n σ H → D.nx σ H) :
    ∃ W : Nat → Nat → St → Hp → Prop, (∃ m, W 0 m σ H) ∧ ∀ i m σ H, W i m σ H →
      ((Itr lo n).stop i H ∧ D.nx σ H) ∨ ((Itr lo n).go i H ∧ ∃ N : St → Hp → Prop, (∀ σ' H', N σ' H' → ∃ m', m' < m ∧ W (i + 1) m' σ' H') ∧ ∀ x H', (Itr lo n).yld i H x H' → g x σ H' fun σ2 H2 => tb { D with nx := N, ct := N, bk := D.nx } σ2 H2) := by
  refine ⟨fun i m σ H => m = n - i ∧ i ≤ n ∧ Pv i σ H, ⟨n, by simp, Nat.zero_le _, h0⟩, ?_⟩
  rintro i m σ H ⟨rfl, hi, p⟩
  by_cases hlt : i < n
  · refine .inr ⟨hlt, Pv (i + 1), fun σ' H' p' => ⟨n - (i + 1), by omega, rfl, hlt, p'⟩, fun x H' y => ?_⟩
    obtain ⟨e, y⟩ := y
    subst e y
    exact hs i σ _ hlt p
  · have e : i = n := by omega
    subst e
    exact .inl ⟨Nat.le_refl _, hd σ H p⟩
end L2

namespace L2
open PySem PySem.Spec PyProof.Rows

abbrev R2 := V → V → Hp → VK → Prop
/-- a two-place operation on values: f is binaryOp op, inplaceOp op or compareOp op -/
def OpR (X : Cx) (f : Value → Value → Sem Value) (r : R2) : Prop :=
  ∀ (pins : List (Addr × Obj)) (s : Shared) (σ : St) (H : Hp) (x y : V) (v u : Value) (Q : VK), Inv X pins σ H s → RelV x v → RelV y u → r x y H Q →
    wpAny (model X.prog X.w) X.A (f v u) (EP X pins σ Q) X.xe s
/-- a one-place operation -/
def UnR (X : Cx) (f : Value → Sem Value) (r : V → Hp → VK → Prop) : Prop :=
  ∀ (pins : List (Addr × Obj)) (s : Shared) (σ : St) (H : Hp) (x : V) (v : Value) (Q : VK), Inv X pins σ H s → RelV x v → r x H Q →
    wpAny (model X.prog X.w) X.A (f v) (EP X pins σ Q) X.xe s
/-- a call of a value that is known (a builtin, a type) with values -/
def CallR (X : Cx) (f : Value) (r : List V → Hp → VK → Prop) : Prop :=
  ∀ (pins : List (Addr × Obj)) (s : Shared) (σ : St) (H : Hp) (xs : List V) (us : List Value) (Q : VK), Inv X pins σ H s → Vals xs us → r xs H Q →
    wpAny (model X.prog X.w) X.A (call f us) (EP X pins σ Q) X.xe s
def tOp (r : R2) (ta tb : TE) : TE := fun σ H Q => ta σ H fun x H1 => tb σ H1 fun y H2 => r x y H2 Q
def tUn (r : V → Hp → VK → Prop) (ta : TE) : TE := fun σ H Q => ta σ H fun x H1 => r x H1 Q
/-- ints in, under C, and a value out -/
def rI (C : Int → Int → Prop) (g : Int → Int → V) : R2 := fun x y H Q => ∃ i j, x = .int i ∧ y = .int j ∧ C i j ∧ Q (g i j) H
def rI0 (g : Int → Int → V) : R2 := fun x y H Q => ∃ i j, x = .int i ∧ y = .int j ∧ Q (g i j) H
def rU (g : Int → V) : V → Hp → VK → Prop := fun x H Q => ∃ i, x = .int i ∧ Q (g i) H

section
variable {X : Cx} {a b c : Expr} {ta tb tc : TE} {pos : Pos}

theorem binT (ha : PE X a ta) (hb : PE X b tb) {pins : List (Addr × Obj)} {s : Shared} {σ : St} {H : Hp} {R : V → V → Hp → Prop} (I : Inv X pins σ H s)
    (h : ta σ H fun x H1 => tb σ H1 fun y H2 => R x y H2) {Q : Value → Shared → Prop} {f : Value → Value → Sem Value}
    (hf : ∀ v u s2 x y H2, Inv X pins σ H2 s2 → RelV x v → RelV y u → R x y H2 → wpAny (model X.prog X.w) X.A (f v u) Q X.xe s2) :
    wpAny (model X.prog X.w) X.A (eval a X.env) (fun v s₁ => wpAny (model X.prog X.w) X.A (eval b X.env) (fun u s₂ => wpAny (model X.prog X.w) X.A (f v u) Q X.xe s₂) X.xe s₁) X.xe s := by
  refine thn (ha pins s σ H _ I h) fun v s1 ⟨x, H1, I1, r1, q1⟩ => ?_
  refine thn (hb pins s1 σ H1 _ I1 q1) fun u s2 ⟨y, H2, I2, r2, q2⟩ => ?_
  exact hf v u s2 x y H2 I2 r1 r2 q2

theorem pe_op {op : Operator} {r : R2} (ho : OpR X (binaryOp op) r) (ha : PE X a ta) (hb : PE X b tb) : PE X (.BinOp a op b pos) (tOp r ta tb) := by
  intro pins s σ H Q I h
  exact wpAny_BinOp (binT ha hb I h fun v u s2 x y H2 I2 rx ry q => ho pins s2 σ H2 x y v u Q I2 rx ry q)
theorem pe_un {op : UnaryOp} {r : V → Hp → VK → Prop} (ho : UnR X (unaryOp op) r) (ha : PE X a ta) : PE X (.UnaryOp op a pos) (tUn r ta) := by
  intro pins s σ H Q I h
  exact UnaryOp_ (thn (ha pins s σ H _ I h) fun v s1 ⟨x, H1, I1, r1, q1⟩ => ho pins s1 σ H1 x v Q I1 r1 q1)
/-! ### ints -/
theorem opI {f : Value → Value → Sem Value} {C : Int → Int → Prop} {g : Int → Int → Int}
    (rule : ∀ (i j : Int) (t u : Tok) (s : Shared) (Q : Value → Shared → Prop) (E : Value → Shared → Prop), C i j → Q (.int (g i j) s.toks) { s with toks := s.toks + 1 } → wpAny (model X.prog X.w) X.A (f (.int i t) (.int j u)) Q E s) :
    OpR X f (rI C fun i j => .int (g i j)) := by
  intro pins s σ H x y v u Q I rx ry h
  obtain ⟨i, j, rfl, rfl, hc, q⟩ := h
  obtain ⟨t, rfl⟩ := rx
  obtain ⟨t', rfl⟩ := ry
  exact rule i j t t' s _ _ hc ⟨.int (g i j), H, I.tok _, ⟨_, rfl⟩, q⟩
theorem opI0 {f : Value → Value → Sem Value} {g : Int → Int → Int}
    (rule : ∀ (i j : Int) (t u : Tok) (s : Shared) (Q : Value → Shared → Prop) (E : Value → Shared → Prop), Q (.int (g i j) s.toks) { s with toks := s.toks + 1 } → wpAny (model X.prog X.w) X.A (f (.int i t) (.int j u)) Q E s) :
    OpR X f (rI0 fun i j => .int (g i j)) := by
  intro pins s σ H x y v u Q I rx ry h
  obtain ⟨i, j, rfl, rfl, q⟩ := h
  obtain ⟨t, rfl⟩ := rx
  obtain ⟨t', rfl⟩ := ry
  exact rule i j t t' s _ _ ⟨.int (g i j), H, I.tok _, ⟨_, rfl⟩, q⟩
theorem opB0 {f : Value → Value → Sem Value} {g : Int → Int → Bool}
    (rule : ∀ (i j : Int) (t u : Tok) (s : Shared) (Q : Value → Shared → Prop) (E : Value → Shared → Prop), Q (.bool (g i j)) s → wpAny (model X.prog X.w) X.A (f (.int i t) (.int j u)) Q E s) :
    OpR X f (rI0 fun i j => .bl (g i j)) := by
  intro pins s σ H x y v u Q I rx ry h
  obtain ⟨i, j, rfl, rfl, q⟩ := h
  obtain ⟨t, rfl⟩ := rx
  obtain ⟨t', rfl⟩ := ry
  exact rule i j t t' s _ _ ⟨.bl (g i j), H, I, rfl, q⟩

def CDiv (i j : Int) : Prop := 0 < j ∧ j < 1073741824
def CMul (i j : Int) : Prop := (-(2 ^ 64) < i ∧ i < 2 ^ 64) ∨ (-(2 ^ 64) < j ∧ j < 2 ^ 64)
theorem CMul.ok {i j : Int} (h : CMul i j) : IntMulOk i j := by
  rcases h with ⟨h1, h2⟩ | ⟨h1, h2⟩
  · exact .of_left (intBits_le_64 h1 h2)
  · exact .of_right (intBits_le_64 h1 h2)
theorem op_add : OpR X (binaryOp .Add) (rI0 fun i j => .int (i + j)) := opI0 fun _ _ _ _ _ _ _ q => add_int q
theorem op_sub : OpR X (binaryOp .Sub) (rI0 fun i j => .int (i - j)) := opI0 fun _ _ _ _ _ _ _ q => sub_int q
theorem op_mul : OpR X (binaryOp .Mult) (rI CMul fun i j => .int (i * j)) := opI fun _ _ _ _ _ _ _ hc q => mul_int q hc.ok
/-- // by a positive divisor -/
theorem op_fdiv : OpR X (binaryOp .FloorDiv) (rI CDiv fun i j => .int (i / j)) := opI fun i j _ _ _ _ _ hc q => by
  have h1 : (0 : Int) < j := hc.1
  have h2 : j < 1073741824 := hc.2
  exact floordiv_int (by omega) (by rw [Int.fdiv_eq_ediv_of_nonneg i (by omega)]; exact q) (.inl (PyProof.noPylong_small (by omega)))
/-- % by a positive divisor of any size -/
theorem op_mod : OpR X (binaryOp .Mod) (rI (fun _ j => 0 < j) fun i j => .int (i % j)) := opI fun i j _ _ _ _ _ hc q => by
  have h1 : (0 : Int) < j := hc
  exact mod_int' (by omega) (by rw [Int.fmod_eq_emod_of_nonneg i (by omega)]; exact q)
theorem op_xor : OpR X (binaryOp .BitXor) (rI0 fun i j => .int (Builtin.bitXor i j)) := opI0 fun _ _ _ _ _ _ _ q => xor_int q

theorem unI {f : Value → Sem Value} {g : Int → Int}
    (rule : ∀ (i : Int) (t : Tok) (s : Shared) (Q : Value → Shared → Prop) (E : Value → Shared → Prop), Q (.int (g i) s.toks) { s with toks := s.toks + 1 } → wpAny (model X.prog X.w) X.A (f (.int i t)) Q E s) :
    UnR X f (rU fun i => .int (g i)) := by
  intro pins s σ H x v Q I rx h
  obtain ⟨i, rfl, q⟩ := h
  obtain ⟨t, rfl⟩ := rx
  exact rule i t s _ _ ⟨.int (g i), H, I.tok _, ⟨_, rfl⟩, q⟩
theorem un_neg : UnR X (unaryOp .USub) (rU fun i => .int (-i)) := unI fun _ _ _ _ _ q => neg_int q
/-! ### bools among ints: n += (a < b) -/
end

/-! ### comparisons -/
/-- the scalars that == tells apart as data does -/
def scal : V → V → Bool
  | .non, .non => true | .non, .int _ => true | .int _, .non => true | .non, .bl _ => true | .bl _, .non => true | .non, .str _ => true | .str _, .non => true
  | .int _, .int _ => true | .bl _, .bl _ => true | .str _, .str _ => true | .byt _, .byt _ => true
  | .int _, .str _ => true | .str _, .int _ => true | .bl _, .str _ => true | .str _, .bl _ => true
  | _, _ => false
def rEq : R2 := fun x y H Q => scal x y = true ∧ Q (.bl (decide (x = y))) H
def rNe : R2 := fun x y H Q => scal x y = true ∧ Q (.bl (!decide (x = y))) H

theorem dec_int {i j : Int} : decide (V.int i = V.int j) = (i == j) := by
  rw [Bool.eq_iff_iff]
  simp
theorem dec_bl {i j : Bool} : decide (V.bl i = V.bl j) = (i == j) := by
  rw [Bool.eq_iff_iff]
  simp
theorem dec_str {i j : Str} : decide (V.str i = V.str j) = (i == j) := by
  rw [Bool.eq_iff_iff]
  simp
theorem dec_byt {i j : Array UInt8} : decide (V.byt i = V.byt j) = (i.toList == j.toList) := by
  rw [Bool.eq_iff_iff]
  cases i
  cases j
  simp

section
variable {X : Cx} {a b c : Expr} {ta tb tc : TE} {pos : Pos}
theorem fin_bl {pins : List (Addr × Obj)} {σ : St} {H : Hp} {s : Shared} {Q : VK} {k k' : Bool} (I : Inv X pins σ H s) (q : Q (.bl k) H) (e : k = k') : EP X pins σ Q (.bool k') s := by
  subst e
  exact ⟨.bl k, H, I, rfl, q⟩
theorem op_eq : OpR X (compareOp .Eq) rEq := by
  intro pins s σ H x y v u Q I rx ry h
  obtain ⟨hs, q⟩ := h
  cases x with
  | non =>
    cases rx
    cases y with
    | non => cases ry; exact PySem.EqNone.eq_none_none (fin_bl I q (by simp))
    | bl j => cases ry; exact PySem.EqNone.eq_none_bool (fin_bl I q (by simp))
    | int j => obtain ⟨t', rfl⟩ := ry; exact PySem.EqNone.eq_none_int (fin_bl I q (by simp))
    | str j => obtain ⟨t', rfl⟩ := ry; exact PySem.EqNone.eq_none_str (fin_bl I q (by simp))
    | _ => exact absurd (show false = true from hs) Bool.false_ne_true
  | bl i =>
    cases rx
    cases y with
    | non => cases ry; exact PySem.EqNone.eq_bool_none (fin_bl I q (by simp))
    | bl j => cases ry; exact eq_bool (fin_bl I q dec_bl)
    | str j => obtain ⟨t', rfl⟩ := ry; exact PySem.EqMixed.eq_bool_str (fin_bl I q (by simp))
    | _ => exact absurd (show false = true from hs) Bool.false_ne_true
  | int i =>
    obtain ⟨t, rfl⟩ := rx
    cases y with
    | non => cases ry; exact PySem.EqNone.eq_int_none (fin_bl I q (by simp))
    | int j => obtain ⟨t', rfl⟩ := ry; exact eq_int (fin_bl I q dec_int)
    | str j => obtain ⟨t', rfl⟩ := ry; exact PySem.EqMixed.eq_int_str (fin_bl I q (by simp))
    | _ => exact absurd (show false = true from hs) Bool.false_ne_true
  | str i =>
    obtain ⟨t, rfl⟩ := rx
    cases y with
    | non => cases ry; exact PySem.EqNone.eq_str_none (fin_bl I q (by simp))
    | bl j => cases ry; exact PySem.EqMixed.eq_str_bool (fin_bl I q (by simp))
    | int j => obtain ⟨t', rfl⟩ := ry; exact PySem.EqMixed.eq_str_int (fin_bl I q (by simp))
    | str j => obtain ⟨t', rfl⟩ := ry; exact eq_str (fin_bl I q dec_str)
    | _ => exact absurd (show false = true from hs) Bool.false_ne_true
  | byt i =>
    obtain ⟨t, rfl⟩ := rx
    cases y with
    | byt j => obtain ⟨t', rfl⟩ := ry; exact PySem.W.eq_bytes (fin_bl I q dec_byt)
    | _ => exact absurd (show false = true from hs) Bool.false_ne_true
  | _ => cases y <;> exact absurd (show false = true from hs) Bool.false_ne_true
theorem op_ne : OpR X (compareOp .NotEq) rNe := by
  intro pins s σ H x y v u Q I rx ry h
  obtain ⟨hs, q⟩ := h
  cases x with
  | non =>
    cases rx
    cases y with
    | non => cases ry; exact PySem.EqNone.ne_none_none (fin_bl I q (by simp))
    | bl j => cases ry; exact PySem.EqNone.ne_none_bool (fin_bl I q (by simp))
    | int j => obtain ⟨t', rfl⟩ := ry; exact PySem.EqNone.ne_none_int (fin_bl I q (by simp))
    | str j => obtain ⟨t', rfl⟩ := ry; exact PySem.EqNone.ne_none_str (fin_bl I q (by simp))
    | _ => exact absurd (show false = true from hs) Bool.false_ne_true
  | bl i =>
    cases rx
    cases y with
    | non => cases ry; exact PySem.EqNone.ne_bool_none (fin_bl I q (by simp))
    | bl j => cases ry; exact ne_bool (fin_bl I q (congrArg not dec_bl))
    | str j => obtain ⟨t', rfl⟩ := ry; exact PySem.EqMixed.ne_bool_str (fin_bl I q (by simp))
    | _ => exact absurd (show false = true from hs) Bool.false_ne_true
  | int i =>
    obtain ⟨t, rfl⟩ := rx
    cases y with
    | non => cases ry; exact PySem.EqNone.ne_int_none (fin_bl I q (by simp))
    | int j => obtain ⟨t', rfl⟩ := ry; exact ne_int (fin_bl I q (congrArg not dec_int))
    | str j => obtain ⟨t', rfl⟩ := ry; exact PySem.EqMixed.ne_int_str (fin_bl I q (by simp))
    | _ => exact absurd (show false = true from hs) Bool.false_ne_true
  | str i =>
    obtain ⟨t, rfl⟩ := rx
    cases y with
    | non => cases ry; exact PySem.EqNone.ne_str_none (fin_bl I q (by simp))
    | bl j => cases ry; exact PySem.EqMixed.ne_str_bool (fin_bl I q (by simp))
    | int j => obtain ⟨t', rfl⟩ := ry; exact PySem.EqMixed.ne_str_int (fin_bl I q (by simp))
    | str j => obtain ⟨t', rfl⟩ := ry; exact ne_str (fin_bl I q (congrArg not dec_str))
    | _ => exact absurd (show false = true from hs) Bool.false_ne_true
  | byt i =>
    obtain ⟨t, rfl⟩ := rx
    cases y with
    | byt j => obtain ⟨t', rfl⟩ := ry; exact PySem.W.ne_bytes (fin_bl I q (congrArg not dec_byt))
    | _ => exact absurd (show false = true from hs) Bool.false_ne_true
  | _ => cases y <;> exact absurd (show false = true from hs) Bool.false_ne_true

theorem op_lt : OpR X (compareOp .Lt) (rI0 fun i j => .bl (decide (i < j))) := opB0 fun _ _ _ _ _ _ _ q => lt_int q
theorem op_le : OpR X (compareOp .LtE) (rI0 fun i j => .bl (decide (i ≤ j))) := opB0 fun _ _ _ _ _ _ _ q => le_int q
theorem op_gt : OpR X (compareOp .Gt) (rI0 fun i j => .bl (decide (j < i))) := opB0 fun _ _ _ _ _ _ _ q => gt_int q
theorem op_ge : OpR X (compareOp .GtE) (rI0 fun i j => .bl (decide (j ≤ i))) := opB0 fun _ _ _ _ _ _ _ q => ge_int q
theorem nomark (b : Expr) {op : CmpOp} (h : op ≠ .In := by decide) (h2 : op ≠ .NotIn := by decide) : behindInMarks op b = false := by
  have e1 : (op == CmpOp.In) = false := by cases op <;> first | rfl | exact absurd rfl h
  have e2 : (op == CmpOp.NotIn) = false := by cases op <;> first | rfl | exact absurd rfl h2
  cases b <;> simp [behindInMarks, e1, e2]
/-- a comparison as a value; hm: nomark b, or (for in, not in) by with_unfolding_all rfl -/
theorem pe_cmpR {op : CmpOp} {r : R2} (ho : OpR X (compareOp op) r) (ha : PE X a ta) (hb : PE X b tb) (hm : behindInMarks op b = false) : PE X (.Compare a [op] [b] pos) (tOp r ta tb) := by
  intro pins s σ H Q I h
  exact wpAny_Compare1 (binT ha hb I h fun v u s2 x y H2 I2 rx ry q => ho pins s2 σ H2 x y v u Q I2 rx ry q) hm
/-- a reading of a value as a test -/
def tTest (t : TE) : TT := fun σ H Q => t σ H fun x H' => ∃ k, x = .bl k ∧ Q k H'
theorem pt_cmpR {op : CmpOp} {r : R2} (ho : OpR X (compareOp op) r) (ha : PE X a ta) (hb : PE X b tb) (hm : behindInMarks op b = false) : PT X (.Compare a [op] [b] pos) (tTest (tOp r ta tb)) := by
  intro pins s σ H Q I h
  refine wpAny_isTrue_Compare1 (thn (ha pins s σ H _ I h) fun v s1 ⟨x, H1, I1, r1, q1⟩ => thn (hb pins s1 σ H1 _ I1 q1) fun u s2 ⟨y, H2, I2, r2, q2⟩ =>
    thn (ho pins s2 σ H2 x y v u _ I2 r1 r2 q2) fun c s3 ⟨z, H3, I3, r3, k, e, q3⟩ => ?_) hm
  subst e
  cases r3
  exact wpAny_truthy_bool ⟨H3, I3, q3⟩
/-- a op1 b op2 c -/
def tChain (r r' : R2) (ta tb tc : TE) : TE := fun σ H Q => ta σ H fun x H1 => tb σ H1 fun y H2 => r x y H2 fun z H3 => ∃ k, z = .bl k ∧
  (if k = true then tc σ H3 fun w' H4 => r' y w' H4 Q else Q (.bl false) H3)
theorem pe_chain {op op' : CmpOp} {r r' : R2} (ho : OpR X (compareOp op) r) (ho' : OpR X (compareOp op') r') (ha : PE X a ta) (hb : PE X b tb) (hc : PE X c tc)
    (hm : lastMarks [op, op'] [b, c] = false := by with_unfolding_all rfl) : PE X (.Compare a [op, op'] [b, c] pos) (tChain r r' ta tb tc) := by
  intro pins s σ H Q I h
  refine Compare_chain (thn (ha pins s σ H _ I h) fun v s1 ⟨x, H1, I1, r1, q1⟩ => chain_link (thn (hb pins s1 σ H1 _ I1 q1) fun u s2 ⟨y, H2, I2, r2, q2⟩ =>
    thn (ho pins s2 σ H2 x y v u _ I2 r1 r2 q2) fun d s3 ⟨z, H3, I3, r3, k, e, q3⟩ => ?_)) hm
  subst e
  cases r3
  refine wpAny_truthy_bool ?_
  cases k with
  | false => exact ite_ff ⟨.bl false, H3, I3, rfl, q3⟩
  | true => exact ite_tt (chain_last (thn (hc pins s3 σ H3 _ I3 q3) fun w' s4 ⟨z', H4, I4, r4, q4⟩ => ho' pins s4 σ H4 y z' u w' Q I4 r2 r4 q4))
/-! ### truth -/
theorem line63 : (sizeLine : Nat) < 2 ^ 63 := by rw [sizeLine_eq]; decide
/-! ### strs and bytes -/
/-! ### scalar builtins, by CallR -/
theorem vals1 {x : V} {us : List Value} (r : Vals [x] us) : ∃ u, us = [u] ∧ RelV x u := by
  cases r with
  | cons r1 r2 => cases r2; exact ⟨_, rfl, r1⟩
theorem call_abs : CallR X (.builtin "abs") (fun xs H Q => ∃ i, xs = [.int i] ∧ Q (.int (if i < 0 then -i else i)) H) := by
  intro pins s σ H xs us Q I r h
  obtain ⟨i, rfl, q⟩ := h
  obtain ⟨u, rfl, t, rfl⟩ := vals1 r
  exact call_abs_int fun u tk => ⟨.int (if i < 0 then -i else i), H, I.tok _, ⟨_, rfl⟩, q⟩
end
end L2

namespace L2
open PySem PySem.Spec PyProof.Rows

/-! ### an instance, its attributes a map -/
structure ObjM (h : Heap) (x dx C : Addr) (mA : Str → Option Value) : Prop where
  obj : h.get? x = some (PySem.W.instObj C dx)
  ns : h.Ns1 dx mA
  ne : dx ≠ x

theorem lookIn_ns {h : Heap} {dx : Addr} {mA : Str → Option Value} (n : h.Ns1 dx mA) : ∃ od, h.get? dx = some od ∧ ∀ name, PySem.W.lookIn name od = some (mA name) := by
  obtain ⟨o, es, ep, ho, hd, hk, _, hm⟩ := n
  refine ⟨o, ho, fun name => ?_⟩
  have e := hm name
  unfold nsFind findBy at e
  rw [← Array.find?_toList] at e
  unfold PySem.W.lookIn
  rw [hd]
  dsimp only
  split
  · rename_i y q
    rw [q] at e
    exact congrArg some e
  · rename_i q
    rw [q] at e
    have a : es.toList.any (·.refKey) = false := by
      rw [List.any_eq_false]
      intro y hy
      obtain ⟨z, t, hkey⟩ := hk y (Array.mem_toList_iff.mp hy)
      simp [DictEntry.refKey, hkey]
    have a' : ¬ es.toList.any (·.refKey) = true := by rw [a]; exact Bool.false_ne_true
    rw [if_neg a']
    exact congrArg some e

theorem ObjM.look {h : Heap} {x dx C : Addr} {mA : Str → Option Value} (I : ObjM h x dx C mA) : ∃ od, PySem.W.InstAt h x (PySem.W.instObj C dx) C (some od) ∧ ∀ name, PySem.W.lookIn name od = some (mA name) :=
  let ⟨od, ho, hl⟩ := lookIn_ns I.ns
  ⟨od, ⟨I.obj, rfl, rfl, ho⟩, hl⟩

section
variable {prog : Program} {w : World} {A : Around} {E : Value → Shared → Prop} {s : Shared} {K : PySem.W.Frag} {x dx C f : Addr} {mA : Str → Option Value} {name : Str} {v : Value}

theorem get_map {expr : Bool} {Q : Value → Shared → Prop} (X : K.In s.heap) (I : ObjM s.heap x dx C mA) (hg : PySem.W.plainGet K C name = true) (hh : PySem.W.hasDictIn K C = true)
    (ha : PySem.W.findIn K (.ref C) name = some none) (hv : mA name = some v) (hv' : PySem.W.handedIn v = true) (h : Q v { s with toks := s.toks + 1 }) :
    wpAny (model prog w) A (getAttr (.ref x) name expr) Q E s := by
  obtain ⟨od, J, hl⟩ := I.look
  exact PySem.W.get_value X J (PySem.W.plainGet_of hg).1 (PySem.W.findObj_own hh ha rfl (by rw [hl, hv])) hv' h

theorem get_meth {pl : Sem Bool} {Q : Value × List Value → Shared → Prop} (X : K.In s.heap) (I : ObjM s.heap x dx C mA) (hg : PySem.W.plainGet K C name = true)
    (hf : PySem.W.findIn K (.ref C) name = some (some (.ref f))) (ht : PySem.W.isFn K (.ref f) = true) (hv : mA name = none) (h : Q (.ref f, [.ref x]) s) :
    wpAny (model prog w) A (getMethod (.ref x) name pl) Q E s := by
  obtain ⟨od, J, hl⟩ := I.look
  exact PySem.W.method_fn X J (PySem.W.plainGet_of hg).1 (PySem.W.plainGet_of hg).2 hf (beq_iff_eq.mp ht) (by show (PySem.W.lookIn name od).map (·.isSome) = some false; rw [hl, hv]; rfl) h

theorem set_map {ns : List Str} {Q : Unit → Shared → Prop} (X : K.In s.heap) (I : ObjM s.heap x dx C mA)
    (hs : PySem.W.findIn K (.ref C) "__setattr__" = some (some (.builtin "object.__setattr__"))) (hp : PySem.W.plainOver K C = true) (ht : PySem.W.takerIn K C name = some none) (hh : PySem.W.hasDictIn K C = true)
    (hw : PySem.Within mA ns) (hsz : ns.length ≤ sizeLine)
    (h : ∀ h', ObjM h' x dx C (fun y => if y = name then some v else mA y) → Heap.SameBut dx s.heap h' → Q () { s with heap := h', toks := s.toks + 2 }) :
    wpAny (model prog w) A (setAttr (.ref x) name v) Q E s := by
  obtain ⟨od, J, hl⟩ := I.look
  refine PySem.W.set_plain X J hs (PySem.W.osa_open (s := { s with toks := s.toks + 1 }) (r := none) X J hp ht fun b => ?_)
  obtain ⟨cd, hc, hd'⟩ := PySem.W.any_some hh
  have hx : s.heap.get? x = some ⟨.ref C, some dx, .plain, #[]⟩ := I.obj
  refine wpAny_bind (wpAny_pure (wpAny_bind (wpAny_bind (wpAny_loadPart hx (wpAny_bind (PySem.W.Looks.here (s := { s with toks := s.toks + 1 }) (PySem.W.looks_clsIn X hc) ?_))))))
  rw [hd']
  refine wpAny_pure (a := some dx) (wpAny_bind (wpAny_pure (wpAny_bind ?_)))
  refine wpAny_nsSet1 (s := { s with toks := s.toks + 1 }) I.ns fun h' hn2 hs2 => ?_
  obtain ⟨oD, esD, epD, hoD, hdD, hcD⟩ := hn2.count (PySem.Within.cons name v hw)
  refine wpAny_bind (wpAny_lookBehind hoD (by rw [hdD]; exact pastItsLine_dict (Nat.le_trans hcD (by rw [List.length_cons]; omega))) ?_)
  exact wpAny_pure (h _ ⟨(hs2.2 _ (Ne.symm I.ne)).trans I.obj, hn2, I.ne⟩ hs2)

/-- C(..): the dict at the heap's end, the instance behind it; then its __init__ -/
theorem make_map {R : Result → Shared → Prop} {vs : List Value} {kw : List (Str × Value)} (X : K.In s.heap) (hm : PySem.W.makesIn K C = true)
    (hi : PySem.W.findIn K (.ref C) "__init__" = some (some (.ref f))) (hf : PySem.W.typeIn K (.ref f) = some (.type "function"))
    (h : codeAny (model prog w) (A.under (.builtin "type.__call__" ⟨.ref C :: vs, kw⟩)) (.call (.ref f) ⟨.ref (s.heap.objs.size + 1) :: vs, kw⟩) (PySem.W.InitBack (s.heap.objs.size + 1) R)
      { s with heap := (s.heap.push PySem.W.emptyDict).push (PySem.W.instObj C s.heap.objs.size) }) :
    codeAny (model prog w) A (.call (.ref C) ⟨vs, kw⟩) R s := by
  obtain ⟨hh, g, d, t, os⟩ := s
  exact PySem.W.make_core (PySem.W.makes_of X hm) (PySem.W.looks_findIn X hi) (fun self => PySem.W.bind_fn X self hf) (.inl rfl) h
end

/-! ### the attributes as a list of pairs -/
def putF (f : Str) (v : V) : List (Str × V) → List (Str × V)
  | [] => [(f, v)]
  | (g, x) :: r => if g = f then (g, v) :: r else (g, x) :: putF f v r
theorem lookup_putF (f g : Str) (v : V) : ∀ fs : List (Str × V), (putF f v fs).lookup g = if g = f then some v else fs.lookup g
  | [] => by
    show List.lookup g [(f, v)] = _
    by_cases h : g = f
    · have hb : (g == f) = true := beq_iff_eq.mpr h
      simp only [List.lookup, hb, if_pos h]
    · have hb : (g == f) = false := beq_eq_false_iff_ne.mpr h
      simp only [List.lookup, hb, if_neg h]
  | (k, x) :: r => by
    have ih := lookup_putF f g v r
    rw [show putF f v ((k, x) :: r) = (if k = f then (k, v) :: r else (k, x) :: putF f v r) from rfl]
    by_cases hk : k = f
    · rw [if_pos hk]
      by_cases h : g = k
      · have hb : (g == k) = true := beq_iff_eq.mpr h
        simp only [List.lookup, hb, if_pos (h.trans hk)]
      · have hb : (g == k) = false := beq_eq_false_iff_ne.mpr h
        simp only [List.lookup, hb, if_neg (fun e : g = f => h (e.trans hk.symm))]
    · rw [if_neg hk]
      by_cases h : g = k
      · have hb : (g == k) = true := beq_iff_eq.mpr h
        simp only [List.lookup, hb, if_neg (fun e : g = f => hk (h.symm.trans e))]
      · have hb : (g == k) = false := beq_eq_false_iff_ne.mpr h
        simp only [List.lookup, hb]
        exact ih
theorem keys_putF (f : Str) (v : V) : ∀ fs : List (Str × V), f ∈ (putF f v fs).map (·.1) ∧ ∀ g, g ∈ fs.map (·.1) → g ∈ (putF f v fs).map (·.1)
  | [] => ⟨by simp [putF], fun g h => by simp at h⟩
  | (k, x) :: r => by
    obtain ⟨i1, i2⟩ := keys_putF f v r
    rw [show putF f v ((k, x) :: r) = (if k = f then (k, v) :: r else (k, x) :: putF f v r) from rfl]
    by_cases hk : k = f
    · rw [if_pos hk]
      subst hk
      exact ⟨by simp, fun g h => by simpa using h⟩
    · rw [if_neg hk]
      refine ⟨?_, fun g h => ?_⟩
      · rw [List.map_cons]
        exact List.mem_cons_of_mem _ i1
      · rw [List.map_cons] at h ⊢
        rcases List.mem_cons.mp h with e | e
        · exact List.mem_cons.mpr (.inl e)
        · exact List.mem_cons_of_mem _ (i2 g e)
theorem length_putF (f : Str) (v : V) : ∀ fs : List (Str × V), (putF f v fs).length ≤ fs.length + 1
  | [] => by simp [putF]
  | (k, x) :: r => by
    have ih := length_putF f v r
    rw [show putF f v ((k, x) :: r) = (if k = f then (k, v) :: r else (k, x) :: putF f v r) from rfl]
    by_cases hk : k = f
    · rw [if_pos hk, List.length_cons, List.length_cons]; omega
    · rw [if_neg hk, List.length_cons, List.length_cons]; omega

theorem RelO.some_of {v : V} {o : Option Value} (r : RelO (some v) o) : ∃ u, o = some u ∧ RelV v u := by
  cases o with
  | none => exact (show False from r).elim
  | some u => exact ⟨u, rfl, r⟩
theorem RelO.none_of {o : Option Value} (r : RelO none o) : o = none := by
  cases o with
  | none => rfl
  | some u => exact (show False from r).elim
theorem handed_of {v : V} {u : Value} (r : RelV v u) : PySem.W.handedIn u = true := by
  cases v with
  | non => cases (show u = Value.none from r); rfl
  | bl b => cases (show u = Value.bool b from r); rfl
  | int i => obtain ⟨t, e⟩ := (show ∃ t, u = Value.int i t from r); cases e; rfl
  | str x => obtain ⟨t, e⟩ := (show ∃ t, u = Value.str x t from r); cases e; rfl
  | byt b => obtain ⟨t, e⟩ := (show ∃ t, u = Value.bytes b t from r); cases e; rfl
  | flt b => obtain ⟨t, e⟩ := (show ∃ t, u = Value.float b t from r); cases e; rfl
  | ref a => cases (show u = Value.ref a from r); rfl
  | ty n => cases (show u = Value.type n from r); rfl

section
variable {P : Program} {w : World} {H H' : Hp} {h h' : Heap} {a C dx : Addr} {fs fs' : List (Str × V)}
theorem ins_get (hok : HOk P w H h) (e : H a = some (.ins C dx fs)) : ∃ mA, ObjM h a dx C mA ∧ (∀ f, RelO (fs.lookup f) (mA f)) ∧ PySem.Within mA (fs.map (·.1)) ∧ fs.length ≤ 1000 ∧ H dx = some (.own a) := by
  obtain ⟨d, z, ne, ob, mA, n, r, q⟩ := (show ObjOk P w H h a (.ins C dx fs) from hok a _ e)
  exact ⟨mA, ⟨ob, n, ne⟩, r, q, z, d⟩
end

/-! ### what of the text a class must have -/
structure Cls (K : PySem.W.Frag) (C : Addr) : Prop where
  pg : PySem.W.plainGet K C Str.empty = true
  hd : PySem.W.hasDictIn K C = true
  po : PySem.W.plainOver K C = true
  sa : PySem.W.findIn K (.ref C) "__setattr__" = some (some (.builtin "object.__setattr__"))
theorem Cls.get {K : PySem.W.Frag} {C : Addr} (c : Cls K C) (f : Str) : PySem.W.plainGet K C f = true := c.pg
/-- no class of it has the name -/
def NoAttr (K : PySem.W.Frag) (C : Addr) (f : Str) : Prop := PySem.W.findIn K (.ref C) f = some none
theorem NoAttr.taker {K : PySem.W.Frag} {C : Addr} {f : Str} (n : NoAttr K C f) : PySem.W.takerIn K C f = some none := by
  unfold PySem.W.takerIn
  rw [show PySem.W.findIn K (.ref C) f = some none from n]
  rfl
/-- a method: a plain def of the class or of one above it -/
structure Meth (K : PySem.W.Frag) (C : Addr) (m : Str) (f : Addr) : Prop where
  at_ : PySem.W.findIn K (.ref C) m = some (some (.ref f))
  fn : PySem.W.isFn K (.ref f) = true
  kp : PySem.W.keepIn K (.ref f) = true

section
variable {X : Cx} {pins : List (Addr × Obj)} {σ : St} {H : Hp} {s : Shared} {a C dx : Addr} {fs : List (Str × V)} {f : Str} {v : V} {A : Around} {E : Value → Shared → Prop}

theorem getattr_ok {b : Bool} {Q : Value → Shared → Prop} (I : Inv X pins σ H s) (e : H a = some (.ins C dx fs)) (c : Cls X.K C) (n : NoAttr X.K C f) (l : fs.lookup f = some v)
    (h : ∀ u s', Inv X pins σ H s' → RelV v u → Q u s') : wpAny (model X.prog X.w) A (getAttr (.ref a) f b) Q E s := by
  obtain ⟨mA, O, r, _, _, _⟩ := ins_get I.hok e
  obtain ⟨u, hu, ru⟩ := RelO.some_of (v := v) (o := mA f) (by rw [← l]; exact r f)
  exact get_map I.kIn O (c.get f) c.hd n hu (handed_of ru) (h u _ (I.tok _) ru)

theorem getmeth_ok {m : Str} {g : Addr} {pl : Sem Bool} {Q : Value × List Value → Shared → Prop} (I : Inv X pins σ H s) (e : H a = some (.ins C dx fs)) (c : Cls X.K C) (k : Meth X.K C m g) (l : fs.lookup m = none)
    (h : Q (.ref g, [.ref a]) s) : wpAny (model X.prog X.w) A (getMethod (.ref a) m pl) Q E s := by
  obtain ⟨mA, O, r, _, _, _⟩ := ins_get I.hok e
  have hn : mA m = none := RelO.none_of (by rw [← l]; exact r m)
  exact get_meth I.kIn O (c.get m) k.at_ k.fn hn h

theorem setattr_ok {y : V} {u : Value} {Q : Unit → Shared → Prop} (I : Inv X pins σ H s) (e : H a = some (.ins C dx fs)) (c : Cls X.K C) (n : NoAttr X.K C f) (hl : fs.length < 1000) (ry : RelV y u)
    (h : ∀ s', Inv X pins σ (upd H a (.ins C dx (putF f y fs))) s' → Q () s') : wpAny (model X.prog X.w) A (setAttr (.ref a) f u) Q E s := by
  obtain ⟨mA, O, r, wi, _, ho⟩ := ins_get I.hok e
  have hz : (fs.map (·.1)).length ≤ sizeLine := by rw [List.length_map, sizeLine_eq]; omega
  refine set_map I.kIn O c.sa c.po n.taker c.hd wi hz fun h' O' sb => h _ ?_
  have hd : ∃ o, h'.get? dx = some o := let ⟨o, _, _, e', _⟩ := O'.ns; ⟨o, e'⟩
  refine I.write (x := a) (e := dx) (by rw [e]; exact True.intro) (.inr ho) (fun b q hb z => (sb.2 b hb).trans z) hd ?_
  refine ⟨by rw [upd_ne O.ne]; exact ho, ?_, O.ne, O'.obj, _, O'.ns, fun g => ?_, fun g hg => ?_⟩
  · have := length_putF f y fs; omega
  · show RelO ((putF f y fs).lookup g) (if g = f then some u else mA g)
    rw [lookup_putF]
    by_cases q : g = f
    · rw [if_pos q, if_pos q]; exact ry
    · rw [if_neg q, if_neg q]; exact r g
  · by_cases q : g = f
    · rw [q]; exact (keys_putF f y fs).1
    · refine (keys_putF f y fs).2 g (wi g fun z => hg ?_)
      show (if g = f then some u else mA g) = none
      rw [if_neg q]; exact z

/-- a new instance, tracked, without attributes -/
theorem Inv.made (I : Inv X pins σ H s) : Inv X pins σ (upd (upd H s.heap.objs.size (.own (s.heap.objs.size + 1))) (s.heap.objs.size + 1) (.ins C s.heap.objs.size []))
    { s with heap := (s.heap.push PySem.W.emptyDict).push (PySem.W.instObj C s.heap.objs.size) } := by
  have e1 : (s.heap.push PySem.W.emptyDict).get? s.heap.objs.size = some PySem.W.emptyDict := Heap.get?_push_size s.heap rfl
  have e2 : ((s.heap.push PySem.W.emptyDict).push (PySem.W.instObj C s.heap.objs.size)).get? (s.heap.objs.size + 1) = some (PySem.W.instObj C s.heap.objs.size) := by
    have := Heap.get?_push_size (s.heap.push PySem.W.emptyDict) (o := PySem.W.instObj C s.heap.objs.size) rfl
    rwa [Heap.size_push] at this
  have e3 : (s.heap.push PySem.W.emptyDict).Ns s.heap.objs.size (fun _ => none) := ⟨PySem.W.emptyDict, #[], _, e1, rfl, (fun e he => absurd he (by simp)), fun _ => rfl⟩
  have I1 := I.laid (a := s.heap.objs.size) (o := .own (s.heap.objs.size + 1)) (h' := s.heap.push PySem.W.emptyDict) (t' := s.toks) (fun b u q => Heap.get?_push_of_some _ q) (Nat.le_refl _) ⟨_, e1⟩
  refine I1.laid (a := s.heap.objs.size + 1) (o := .ins C s.heap.objs.size []) (t' := s.toks) (fun b u q => Heap.get?_push_of_some _ q) (Nat.le_of_eq (Heap.size_push _ _)) ?_
  have ne : s.heap.objs.size ≠ s.heap.objs.size + 1 := Nat.ne_of_lt (Nat.lt_succ_self _)
  refine ⟨by rw [upd_ne ne, upd_same], Nat.zero_le _, ne, e2, fun _ => none, (Heap.Ns1.of_empty e3).at fun o q => Heap.get?_push_of_some _ q, fun _ => True.intro, fun y hy => absurd rfl hy⟩

/-- e.f where nothing but the object is asked: through attributeBase (super) and the last hold -/
theorem attr_of {prog : Program} {w : World} {env : Env} {e : Expr} {f : Str} {pos : Pos} {s : Shared} {Q : Value → Shared → Prop} (hb : attributeBase e f env (eval e env) = eval e env)
    (h : wpAny (model prog w) A (eval e env) (fun o s₁ => wpAny (model prog w) A (getAttr o f true) Q E s₁) E s) : wpAny (model prog w) A (eval (.Attribute e f pos) env) Q E s :=
  Attribute_any_ h (by rw [arm_eval_Attribute, hb])
end

/-! ### readings and rules -/
/-- e.f, an attribute of the instance -/
def tFld (K : PySem.W.Frag) (ta : TE) (f : Str) : TE := fun σ H Q => ta σ H fun x H1 => ∃ a C dx fs v, x = .ref a ∧ H1 a = some (.ins C dx fs) ∧ Cls K C ∧ NoAttr K C f ∧ fs.lookup f = some v ∧ Q v H1
/-- e.f = value -/
def sFld (K : PySem.W.Frag) (ta tv : TE) (f : Str) : TS := fun D σ H => tv σ H fun y H1 => ta σ H1 fun x H2 => ∃ a C dx fs, x = .ref a ∧ H2 a = some (.ins C dx fs) ∧ Cls K C ∧ NoAttr K C f ∧ fs.length < 1000 ∧
  D.nx σ (upd H2 a (.ins C dx (putF f y fs)))
section
variable {X : Cx} {o e value : Expr} {f : Str} {pos pos' tpos : Pos} {ta tv : TE}
theorem pe_fld (he : PE X e ta) (hb : attributeBase e f X.env (eval e X.env) = eval e X.env) : PE X (.Attribute e f pos) (tFld X.K ta f) := by
  intro pins s σ H Q I h
  refine attr_of hb (thn (he pins s σ H _ I h) fun u s1 ⟨x, H1, I1, rx, a, C, dx, fs, v, ex, ea, c, n, l, q⟩ => ?_)
  subst ex
  obtain rfl : u = Value.ref a := rx
  exact getattr_ok I1 ea c n l fun u' s2 I2 ru => ⟨v, H1, I2, ru, q⟩
theorem ps_fld (ha : PE X o ta) (hv : PE X value tv) (hs : swapsWith value (some (.Attribute o f pos')) pos.line X.env = pure false) : PS X (.Assign [.Attribute o f pos'] value pos) (sFld X.K ta tv f) := by
  intro pins s σ H D I h
  refine plainObj_wpAny_Assign_Attribute (thn (hv pins s σ H _ I h) fun u s1 ⟨y, H1, I1, ry, q⟩ => thn (ha pins s1 σ H1 _ I1 q) fun ov s2 ⟨x, H2, I2, rx, a, C, dx, fs, ex, ea, c, n, l, q2⟩ => ?_) hs
  subst ex
  obtain rfl : ov = Value.ref a := rx
  exact setattr_ok I2 ea c n l ry fun s3 I3 => ⟨σ, _, I3, q2⟩
end

/-! ### isinstance -/
section
variable {X : Cx} {pins : List (Addr × Obj)} {σ : St} {H : Hp} {s : Shared} {A : Around} {E : Value → Shared → Prop} {Q : Value → Shared → Prop} {c : Value} {b : Bool}
end
end L2

namespace L2
open PySem PySem.Spec PyProof.Rows

/-! ### room -/
structure Room (k : Nat) (A : Around) : Prop where
  hd : A.handled = none
  dp : A.depth + 3 * k + 5 < recursionLimit
  un : A.units + 16 * k + 200 < cLine
theorem Room.mono {j k : Nat} {A : Around} (r : Room k A) (h : j ≤ k) : Room j A := ⟨r.hd, by have := r.dp; omega, by have := r.un; omega⟩
theorem Room.deeper {k : Nat} {A : Around} (r : Room (k + 1) A) (env : Env) : Room k (A.deeper env) :=
  ⟨r.hd, by have := r.dp; show A.depth + 1 + 3 * k + 5 < _; omega, by have := r.un; show A.units + 3 + 16 * k + 200 < _; omega⟩
theorem make_depth {A : Around} {C : Addr} {us : List Value} {kw : List (Str × Value)} : (A.under (.builtin "type.__call__" ⟨.ref C :: us, kw⟩)).depth = A.depth + 1 := by
  first | rfl | simp [Around.under, Code.weight, Code.isCreation, Code.isGuard, Code.isCaller, Code.frames, Code.isFrame, guardIds]
theorem make_units {A : Around} {C : Addr} {us : List Value} {kw : List (Str × Value)} : (A.under (.builtin "type.__call__" ⟨.ref C :: us, kw⟩)).units = A.units + 1 := by
  first | rfl | simp [Around.under, Code.cUnits, Code.frames, Code.isFrame]
theorem Room.make {k : Nat} {A : Around} (r : Room (k + 1) A) (C : Addr) (us : List Value) (kw : List (Str × Value)) : Room k (A.under (.builtin "type.__call__" ⟨.ref C :: us, kw⟩)) :=
  ⟨r.hd, by have := r.dp; rw [make_depth]; omega, by have := r.un; rw [make_units]; omega⟩
theorem Room.depth {k : Nat} {A : Around} (r : Room k A) : A.depth < recursionLimit := by have := r.dp; omega
theorem Room.units {k : Nat} {A : Around} (r : Room k A) : A.units + 64 < cLine := by have := r.un; omega
/-! ### argument lists and displays -/
def tNil : TA := fun _ H Q => Q [] H
def tCons (ta : TE) (tr : TA) : TA := fun σ H Q => ta σ H fun x H1 => tr σ H1 fun xs H2 => Q (x :: xs) H2
section
variable {X : Cx} {e : Expr} {es : List Expr} {te : TE} {t : TA} {pos : Pos}
theorem pa_nil : PA X [] tNil := fun _ _ _ _ H Q I h => Calls.spliced_nil ⟨[], H, I, .nil, h⟩
theorem pa_cons (ha : PE X e te) (hr : PA X es t) (hs : starEach (e :: es) X.env = (false, eval e X.env) :: starEach es X.env := by rfl) : PA X (e :: es) (tCons te t) := by
  intro pos pins s σ H Q I h
  rw [hs]
  show wpAny _ _ (spliced ((false, eval e X.env) :: backTo pos (starEach es X.env))) _ _ s
  refine Calls.spliced_cons (thn (ha pins s σ H _ I h) fun u s1 ⟨x, H1, I1, r1, q1⟩ => ?_)
  exact thn (hr pos pins s1 σ H1 _ I1 q1) fun us s2 ⟨xs, H2, I2, r2, q2⟩ => ⟨x :: xs, H2, I2, .cons r1 r2, q2⟩

/-- a tuple, a list of written items -/
def tTup (t : TA) : TE := fun σ H Q => t σ H fun xs H1 => xs.length ≤ sizeLine ∧ ∀ p, H1 p = none → Q (.ref p) (upd H1 p (.tup xs))
def tLst (t : TA) : TE := fun σ H Q => t σ H fun xs H1 => xs.length ≤ sizeLine ∧ ∀ p, H1 p = none → Q (.ref p) (upd H1 p (.lst xs))
theorem pe_tup {x1} (h : PA X es t) : PE X (.Tuple es x1 pos) (tTup t) := by
  intro pins s σ H Q I hq
  refine wpAny_Tuple_spliced (thn (h pos pins s σ H _ I hq) fun us s1 ⟨xs, H1, I1, r, z, q⟩ => ⟨by rw [← r.length]; exact z, ?_⟩)
  have hf : H1 s1.heap.objs.size = none := I1.hok.fresh (Nat.le_refl _)
  refine ⟨.ref s1.heap.objs.size, upd H1 s1.heap.objs.size (.tup xs), I1.laid (t' := s1.toks) (fun b u e => Heap.get?_push_of_some _ e) (Nat.le_refl _) ?_, rfl, q _ hf⟩
  exact ⟨z, us, r, ⟨_, Heap.get?_push_size _ rfl, rfl, _, rfl⟩⟩
theorem pe_lst (h : PA X es t) : PE X (.List es pos) (tLst t) := by
  intro pins s σ H Q I hq
  refine wpAny_List_spliced (thn (h pos pins s σ H _ I hq) fun us s1 ⟨xs, H1, I1, r, z, q⟩ => ⟨by rw [← r.length]; exact z, ?_⟩)
  have hf : H1 s1.heap.objs.size = none := I1.hok.fresh (Nat.le_refl _)
  refine ⟨.ref s1.heap.objs.size, upd H1 s1.heap.objs.size (.lst xs), I1.laid (t' := s1.toks) (fun b u e => Heap.get?_push_of_some _ e) (Nat.le_refl _) ?_, rfl, q _ hf⟩
  exact ⟨z, us, 0, r, Heap.get?_push_size _ rfl⟩
end

/-! ### what a def promises -/
/-- a def's promise: the bound arguments in the parameters' order, the heap, the wanted end, the wanted exception -/
abbrev Sp := List V → Hp → VK → XK → Prop
/-- how an exception lies behind a call (file 08 gives it): the callers' frames, abstract heap and state ahead of the call, the wish, the exception, the state -/
abbrev CXT := List Env → Hp → Shared → XK → Value → Shared → Prop

/-- the state at a call -/
structure Env0 (P : Program) (w : World) (K : PySem.W.Frag) (mg : Str → Option Value) (base : Heap) (A : Around) (outer : List Env) (s : Shared) (H : Hp) : Prop where
  frames : A.frames = some outer
  mod : Mod K mg base
  bs : ∀ b o, base.get? b = some o → s.heap.get? b = some o ∧ H b = none
  bsz : base.objs.size ≤ s.heap.objs.size
  funs : s.heap.FunFrames base outer
  frf : ∀ b ∈ frs outer, H b = none
  hok : HOk P w H s.heap
  bare : AllBare s.gens
/-- a call's end -/
def CE (outer : List Env) (P : Program) (w : World) (H : Hp) (s : Shared) (Q : VK) (u : Value) (s' : Shared) : Prop :=
  ∃ v H', s'.os = s.os ∧ AllBare s'.gens ∧ Un (frs outer) [] H H' s.heap s'.heap ∧ HOk P w H' s'.heap ∧ RelV v u ∧ Q v H'
def CR (CX : CXT) (outer : List Env) (P : Program) (w : World) (H : Hp) (s : Shared) (Q : VK) (E : XK) (r : Result) (s' : Shared) : Prop :=
  match r with
  | .ok (.ret u) => CE outer P w H s Q u s'
  | .ok _ => False
  | .error e => CX outer H s E e s'
structure FnOk (P : Program) (w : World) (K : PySem.W.Frag) (mg : Str → Option Value) (base : Heap) (CX : CXT) (k : Nat) (f : Addr) (fd : FuncData) (ps : List Str) (sp : Sp) : Prop where
  len : ∀ vs H Q E, sp vs H Q E → vs.length = ps.length
  run : ∀ (A : Around) (outer : List Env) (s : Shared) (H : Hp) (args : Args) (us : List Value) (vs : List V) (Q : VK) (E : XK), Room k A → Env0 P w K mg base A outer s H → BindsTo s fd args (ps.zip us) → Vals vs us → sp vs H Q E →
    codeAny (model P w) A (.call (.ref f) args) (CR CX outer P w H s Q E) s
theorem Env0.make {P : Program} {w : World} {K : PySem.W.Frag} {mg : Str → Option Value} {base : Heap} {A : Around} {outer : List Env} {s : Shared} {H : Hp} (e : Env0 P w K mg base A outer s H) (C : Addr) (us : List Value) (kw : List (Str × Value)) :
    Env0 P w K mg base (A.under (.builtin "type.__call__" ⟨.ref C :: us, kw⟩)) outer s H := ⟨by first | exact e.frames | (simpa [Around.under, Code.envs, Code.isFrame, pushEnvs] using e.frames), e.mod, e.bs, e.bsz, e.funs, e.frf, e.hok, e.bare⟩
section
variable {X : Cx} {pins : List (Addr × Obj)} {σ : St} {H : Hp} {s s' : Shared}
/-- from a body: what a callee wants -/
theorem Inv.env0 (I : Inv X pins σ H s) : Env0 X.prog X.w X.K X.mg X.base X.A X.stack s H :=
  ⟨I.ok.frames, I.ok.mod, I.bs, Nat.le_trans I.ok.bsz I.sz, I.stack, I.stkFree, I.hok, I.bare⟩
/-- behind a call -/
theorem Inv.after {Q : VK} {u : Value} (I : Inv X pins σ H s) (h : CE X.stack X.prog X.w H s Q u s') : EP X pins σ Q u s' := by
  obtain ⟨v, H', os, bare, un, hok, r, q⟩ := h
  obtain ⟨hh, g, d, t, os'⟩ := s'
  obtain rfl : os' = s.os := os
  exact ⟨v, H', I.call (h' := hh) (g' := g) (d' := d) (t' := t) (ch := []) un hok bare (fun b z => absurd z (by simp)), r, q⟩
end

/-! ### calls -/
/-- f(..): the written arguments, then the defaults dvs; E: what is wanted of an exception -/
def tCall (sp : Sp) (dvs : List V) (E : XK) (t : TA) : TE := fun σ H Q => t σ H fun vs H1 => sp (vs ++ dvs) H1 Q E
/-- o.m(..) of an instance of the class at C -/
def tMeth (C : Addr) (m : Str) (sp : Sp) (dvs : List V) (E : XK) (ta : TE) (t : TA) : TE := fun σ H Q => ta σ H fun x H1 => ∃ a dx fs, x = .ref a ∧ H1 a = some (.ins C dx fs) ∧ fs.lookup m = none ∧
  t σ H1 fun vs H2 => sp (x :: (vs ++ dvs)) H2 Q E
/-- C(..): a new instance and its dict, then __init__ -/
def tMake (C : Addr) (sp : Sp) (dvs : List V) (E : XK) (t : TA) : TE := fun σ H Q => t σ H fun vs H1 => ∀ x dx, H1 x = none → H1 dx = none → dx ≠ x →
  sp (.ref x :: (vs ++ dvs)) (upd (upd H1 dx (.own x)) x (.ins C dx [])) (fun v H2 => v = .non ∧ Q (.ref x) H2) E

/-- how the parameters are bound: us the positional arguments, kw the keywords' values by name, ds the defaults that fill up -/
def Binds (K : PySem.W.Frag) (fd : FuncData) (ps : List Str) (ds : List Value) : Prop :=
  ∀ (s : Shared) (us : List Value), K.In s.heap → (us ++ ds).length = ps.length → BindsTo s fd ⟨us, []⟩ (ps.zip (us ++ ds))
/-- every parameter is given -/
theorem Binds.all {K : PySem.W.Frag} {fd : FuncData} {ps : List Str} (h : ∀ us : List Value, us.length = ps.length → bindArgs fd ⟨us, []⟩ = pure (ps.zip us)) : Binds K fd ps [] := fun s us _ hl => by
  rw [List.append_nil] at hl ⊢
  exact .of_eq (h us hl)

/-- an exception of a callee reaches what this body wants of exceptions -/
def Passes (CX : CXT) (X : Cx) (E : XK) : Prop := ∀ (pins : List (Addr × Obj)) (σ : St) (H : Hp) (s : Shared) (e : Value) (s' : Shared), Inv X pins σ H s → CX X.stack H s E e s' → X.xe e s'

section
variable {X : Cx} {CX : CXT} {k : Nat} {f C : Addr} {fd : FuncData} {ps : List Str} {sp : Sp} {dvs : List V} {ds : List Value} {E : XK} {x m : Str} {p pos apos : Pos} {e o : Expr} {es : List Expr} {ta : TE} {t : TA}

/-- the callee runs -/
theorem run_fn {pins : List (Addr × Obj)} {σ : St} {H : Hp} {s : Shared} {Q : VK} {us : List Value} {vs : List V} (F : FnOk X.prog X.w X.K X.mg X.base CX k f fd ps sp) (hr : Room k X.A) (hb : Binds X.K fd ps ds) (hd : Vals dvs ds) (hx : Passes CX X E)
    (I : Inv X pins σ H s) (r : Vals vs us) (h : sp (vs ++ dvs) H Q E) : wpAny (model X.prog X.w) X.A (call (.ref f) us) (EP X pins σ Q) X.xe s := by
  have r2 : Vals (vs ++ dvs) (us ++ ds) := r.append hd
  have hl : (us ++ ds).length = ps.length := by rw [← r2.length]; exact F.len _ _ _ _ h
  refine wpAny_call (codeAny_mono (F.run X.A X.stack s H ⟨us, []⟩ (us ++ ds) (vs ++ dvs) Q E hr I.env0 (hb s us I.kIn hl) r2 h) fun r s' hq => ?_)
  cases r with
  | error e => exact hx pins σ H s e s' I hq
  | ok fl =>
    cases fl with
    | ret u => exact I.after hq
    | next => exact False.elim hq
    | brk => exact False.elim hq
    | cont => exact False.elim hq

theorem pe_call (F : FnOk X.prog X.w X.K X.mg X.base CX k f fd ps sp) (hr : Room k X.A) (hg : Gl X x) (hm : X.mg x = some (.ref f)) (hk : PySem.W.keepIn X.K (.ref f) = true) (hb : Binds X.K fd ps ds) (hd : Vals dvs ds) (hx : Passes CX X E)
    (ha : PA X (e :: es) t) (hdb : (x == ("__debug__" : Str)) = false := by decide) (he : starEach (e :: es) X.env = (false, eval e X.env) :: starEach es X.env := by rfl) (hpl : (backTo pos (starEach es X.env)).any (·.1) = false := by rfl) :
    PE X (.Call (.Name x p) (e :: es) [] pos) (tCall sp dvs E t) := by
  intro pins s σ H Q I h
  refine wpAny_Call_Name_kw (ld_glob I hg hm ?_ hdb)
  refine PySem.W.callWith_K (h₀ := X.base) I.ok.mod.kin hk (thn (ha pos pins s σ H _ I h) fun us s1 ⟨vs, H1, I1, r, q⟩ => ⟨I1.kIn, ?_⟩) he hpl
  exact run_fn F hr hb hd hx I1 r q
/-- o.m(e, ..) -/
theorem pe_meth {pl : Sem Bool} (he : PE X o ta) (c : Cls X.K C) (hm : Meth X.K C m f) (F : FnOk X.prog X.w X.K X.mg X.base CX k f fd ps sp) (hr : Room k X.A) (hb : Binds X.K fd ps ds) (hd : Vals dvs ds) (hx : Passes CX X E) (ha : PA X (e :: es) t)
    (hst : starEach (e :: es) X.env = (false, eval e X.env) :: starEach es X.env := by rfl) (hpl : (backTo pos (starEach es X.env)).any (·.1) = false := by rfl)
    (ht : eval (.Call (.Attribute o m apos) (e :: es) [] pos) X.env = (do
      let ov ← eval o X.env
      standAt apos.atName
      let (f, first) ← holding [ov] (getMethod ov m pl)
      callWith pos f first (backTo pos (starEach (e :: es) X.env)) (backToKw pos (keywordEach [] X.env))) := by rfl) :
    PE X (.Call (.Attribute o m apos) (e :: es) [] pos) (tMeth C m sp dvs E ta t) := by
  intro pins s σ H Q I h
  refine PySem.W.methodCall_KW (pl := pl) (thn (he pins s σ H _ I h) fun u s1 ⟨x, H1, I1, rx, a, dx, fs, ex, ea, l, q⟩ => ?_) ht
  subst ex
  obtain rfl : u = Value.ref a := rx
  refine getmeth_ok I1 ea c hm l ?_
  refine PySem.W.callWith_K (first := [.ref a]) (h₀ := X.base) I.ok.mod.kin hm.kp (thn (ha pos pins s1 σ H1 _ I1 q) fun us s2 ⟨vs, H2, I2, r, q2⟩ => ⟨I2.kIn, ?_⟩) hst hpl
  exact run_fn (us := .ref a :: us) (vs := .ref a :: vs) F hr hb hd hx I2 (.cons rfl r) q2
/-- o.m() -/
theorem pe_meth0 {pl : Sem Bool} (he : PE X o ta) (c : Cls X.K C) (hm : Meth X.K C m f) (F : FnOk X.prog X.w X.K X.mg X.base CX k f fd ps sp) (hr : Room k X.A) (hb : Binds X.K fd ps ds) (hd : Vals dvs ds) (hx : Passes CX X E)
    (ht : eval (.Call (.Attribute o m apos) [] [] pos) X.env = (do
      let ov ← eval o X.env
      standAt apos.atName
      let (f, first) ← holding [ov] (getMethod ov m pl)
      callWith pos f first (backTo pos (starEach [] X.env)) (backToKw pos (keywordEach [] X.env))) := by rfl) :
    PE X (.Call (.Attribute o m apos) [] [] pos) (tMeth C m sp dvs E ta tNil) := by
  intro pins s σ H Q I h
  refine PySem.W.methodCall_KW (pl := pl) (thn (he pins s σ H _ I h) fun u s1 ⟨x, H1, I1, rx, a, dx, fs, ex, ea, l, q⟩ => ?_) ht
  subst ex
  obtain rfl : u = Value.ref a := rx
  refine getmeth_ok I1 ea c hm l ?_
  exact PySem.W.callWith_K0 (first := [.ref a]) I1.kIn hm.kp (run_fn (us := [.ref a]) (vs := [.ref a]) F hr hb hd hx I1 (.cons rfl .nil) q)

/-- what a class must have to be made -/
structure Mk (K : PySem.W.Frag) (C f : Addr) : Prop where
  makes : PySem.W.makesIn K C = true
  init : PySem.W.findIn K (.ref C) "__init__" = some (some (.ref f))
  fn : PySem.W.isFn K (.ref f) = true
  kp : PySem.W.keepIn K (.ref C) = true

theorem run_make {pins : List (Addr × Obj)} {σ : St} {H : Hp} {s : Shared} {Q : VK} {us : List Value} {vs : List V} (M : Mk X.K C f) (F : FnOk X.prog X.w X.K X.mg X.base CX k f fd ps sp) (hr : Room (k + 1) X.A) (hb : Binds X.K fd ps ds) (hd : Vals dvs ds)
    (hx : Passes CX X E) (I : Inv X pins σ H s) (r : Vals vs us)
    (h : ∀ x dx, H x = none → H dx = none → dx ≠ x → sp (.ref x :: (vs ++ dvs)) (upd (upd H dx (.own x)) x (.ins C dx [])) (fun v H2 => v = .non ∧ Q (.ref x) H2) E) :
    wpAny (model X.prog X.w) X.A (call (.ref C) us) (EP X pins σ Q) X.xe s := by
  have hq := h (s.heap.objs.size + 1) s.heap.objs.size (I.hok.fresh (Nat.le_succ _)) (I.hok.fresh (Nat.le_refl _)) (Nat.ne_of_lt (Nat.lt_succ_self _))
  have I2 := Inv.made (C := C) I
  have r2 : Vals (V.ref (s.heap.objs.size + 1) :: (vs ++ dvs)) (Value.ref (s.heap.objs.size + 1) :: (us ++ ds)) := .cons rfl (r.append hd)
  have hl : (Value.ref (s.heap.objs.size + 1) :: us ++ ds).length = ps.length := by
    have e := r2.length
    rw [F.len _ _ _ _ hq] at e
    exact e.symm
  refine wpAny_call (make_map (f := f) I.kIn M.makes M.init (beq_iff_eq.mp M.fn) (codeAny_mono (F.run _ X.stack _ _ ⟨Value.ref (s.heap.objs.size + 1) :: us, []⟩ (Value.ref (s.heap.objs.size + 1) :: (us ++ ds)) _ _ E (hr.make C us [])
    (I2.env0.make C us []) (hb _ (Value.ref (s.heap.objs.size + 1) :: us) I2.kIn hl) r2 hq) fun r s' hq' => ?_))
  cases r with
  | error e => exact hx pins σ _ _ e s' I2 hq'
  | ok fl =>
    cases fl with
    | ret u =>
      obtain ⟨v, H', I3, rv, ev, q3⟩ := I2.after hq'
      subst ev
      exact ⟨rv, ⟨V.ref (s.heap.objs.size + 1), H', I3, rfl, q3⟩⟩
    | next => exact False.elim hq'
    | brk => exact False.elim hq'
    | cont => exact False.elim hq'
theorem pe_make (M : Mk X.K C f) (F : FnOk X.prog X.w X.K X.mg X.base CX k f fd ps sp) (hr : Room (k + 1) X.A) (hg : Gl X x) (hm : X.mg x = some (.ref C)) (hb : Binds X.K fd ps ds) (hd : Vals dvs ds) (hx : Passes CX X E)
    (ha : PA X (e :: es) t) (hdb : (x == ("__debug__" : Str)) = false := by decide) (he : starEach (e :: es) X.env = (false, eval e X.env) :: starEach es X.env := by rfl) (hpl : (backTo pos (starEach es X.env)).any (·.1) = false := by rfl) :
    PE X (.Call (.Name x p) (e :: es) [] pos) (tMake C sp dvs E t) := by
  intro pins s σ H Q I h
  refine wpAny_Call_Name_kw (ld_glob I hg hm ?_ hdb)
  refine PySem.W.callWith_K (h₀ := X.base) I.ok.mod.kin M.kp (thn (ha pos pins s σ H _ I h) fun us s1 ⟨vs, H1, I1, r, q⟩ => ⟨I1.kIn, ?_⟩) he hpl
  exact run_make M F hr hb hd hx I1 r q
end

/-! ### keywords -/
section
variable {X : Cx} {CX : CXT} {k : Nat} {f C : Addr} {fd : FuncData} {ps ks : List Str} {sp : Sp} {E : XK} {x m : Str} {p pos apos kpos : Pos} {e o : Expr} {es : List Expr} {kws : List Keyword} {te ta : TE} {t tk : TA} {nm : Option Str}
variable {g : List Value → List Value → List Value} {gV : List V → List V → List V}
end

/-! ### a def's body keeps its promise -/
/-- names: the parameters first -/
structure FnScope (N P : List Str) (sc : Scope) : Prop where
  kind : sc.kind = .function
  co : sc.isCoroutine = false
  gen : sc.isGenerator = false
  nd : N.Nodup
  pre : N.take P.length = P
  par : ∀ x ∈ P, sc.names.lookup x = some .local ∨ sc.names.lookup x = some .cell
  nofree : ∀ y ∈ sc.names, y.2 ≠ .free

theorem bindL_out {kindOf : Str → Option NameKind} {x : Str} : ∀ {binds : List (Str × Value)} {m : Str → Option Value}, (∀ v, (x, v) ∉ binds) → bindL kindOf binds m x = m x
  | [], _, _ => rfl
  | (n, v) :: r, m, h => by
    unfold bindL
    rw [bindL_out fun w hw => h w (List.mem_cons_of_mem _ hw)]
    split
    · have : x ≠ n := by rintro rfl; exact h v List.mem_cons_self
      simp [this]
    · rfl
theorem bindC_out {kindOf : Str → Option NameKind} {x : Str} : ∀ {binds : List (Str × Value)} {m : Str → Option Value}, (∀ v, (x, v) ∉ binds) → bindC kindOf binds m x = m x
  | [], _, _ => rfl
  | (n, v) :: r, m, h => by
    unfold bindC
    rw [bindC_out fun w hw => h w (List.mem_cons_of_mem _ hw)]
    split
    · rfl
    · have : x ≠ n := by rintro rfl; exact h v List.mem_cons_self
      simp [this]
theorem bindL_get {kindOf : Str → Option NameKind} {x : Str} {v : Value} : ∀ {P : List Str} {vs : List Value} {i : Nat} {m : Str → Option Value}, P.Nodup → P[i]? = some x → vs[i]? = some v → kindOf x = some .local →
    bindL kindOf (P.zip vs) m x = some v
  | [], _, _, _, _, h, _, _ => by simp at h
  | _ :: _, [], _, _, _, _, h, _ => by simp at h
  | p :: P, w :: vs, 0, m, nd, h1, h2, hk => by
    simp at h1 h2; subst h1; subst h2
    show bindL kindOf ((p, w) :: P.zip vs) m p = _
    unfold bindL
    rw [bindL_out fun v hv => (List.nodup_cons.mp nd).1 (List.of_mem_zip hv).1, if_pos hk]
    simp
  | p :: P, w :: vs, i + 1, m, nd, h1, h2, hk => by
    show bindL kindOf ((p, w) :: P.zip vs) m x = _
    unfold bindL
    exact bindL_get (i := i) (List.nodup_cons.mp nd).2 (by simpa using h1) (by simpa using h2) hk
theorem bindC_get {kindOf : Str → Option NameKind} {x : Str} {v : Value} : ∀ {P : List Str} {vs : List Value} {i : Nat} {m : Str → Option Value}, P.Nodup → P[i]? = some x → vs[i]? = some v → kindOf x ≠ some .local →
    bindC kindOf (P.zip vs) m x = some v
  | [], _, _, _, _, h, _, _ => by simp at h
  | _ :: _, [], _, _, _, _, h, _ => by simp at h
  | p :: P, w :: vs, 0, m, nd, h1, h2, hk => by
    simp at h1 h2; subst h1; subst h2
    show bindC kindOf ((p, w) :: P.zip vs) m p = _
    unfold bindC
    rw [bindC_out fun v hv => (List.nodup_cons.mp nd).1 (List.of_mem_zip hv).1, if_neg hk]
    simp
  | p :: P, w :: vs, i + 1, m, nd, h1, h2, hk => by
    show bindC kindOf ((p, w) :: P.zip vs) m x = _
    unfold bindC
    exact bindC_get (i := i) (List.nodup_cons.mp nd).2 (by simpa using h1) (by simpa using h2) hk

/-- the names' values at the entry -/
def start (N : List Str) (vs : List V) : St := vs.map some ++ List.replicate (N.length - vs.length) none

/-- the context of a def's body, at its entry; an exception leaves the frame, then lies as CX says -/
def cxOf (CX : CXT) (P : Program) (w : World) (K : PySem.W.Frag) (mg : Str → Option Value) (base : Heap) (N : List Str) (qual : Str) (scope : Scope) (f : Addr) (cd : Value) (A : Around) (outer : List Env) (s : Shared) (H : Hp) (E : XK) : Cx where
  prog := P
  w := w
  K := K
  mg := mg
  base := base
  A := A.deeper (envOfC qual scope s.heap.objs.size f cd)
  N := N
  s_0 := s
  H_0 := H
  env := envOfC qual scope s.heap.objs.size f cd
  outer := outer
  stack := envOfC qual scope s.heap.objs.size f cd :: outer
  ex := []
  calm := true
  fn := fun _ => true
  pn := []
  xe := fun e s' => wpAny (model P w) (A.deeper (envOfC qual scope s.heap.objs.size f cd)) (leaving (envOfC qual scope s.heap.objs.size f cd) e) (fun _ s'' => CX outer H s E e s'') (fun e' s'' => CX outer H s E e' s'') s'

theorem cell_has {sc : Scope} {n : Nat} {x : Str} (h : sc.names.lookup x = some .cell) : ∃ c, (cellsFrom n sc.names []).lookup x = some c := by
  have q := PySem.W.cellsFrom_some sc.names n [] (.inl h)
  exact Option.isSome_iff_exists.mp q

theorem inv_start {CX : CXT} {P : Program} {w : World} {K : PySem.W.Frag} {mg : Str → Option Value} {base : Heap} {N ps : List Str} {qual : Str} {scope : Scope} {f : Addr} {cd : Value} {A : Around} {outer : List Env} {s s1 : Shared} {H : Hp} {E : XK} {us : List Value} {vs : List V}
    (S : FnScope N ps scope) (hd : A.handled = none) (e0 : Env0 P w K mg base A outer s H) (hl : vs.length = ps.length) (r : Vals vs us)
    (x : InCallC s s.heap.objs.size (bindL (envOfC qual scope s.heap.objs.size f cd).kindOf (ps.zip us) fun _ => none) (cellsFrom (s.heap.objs.size + 1) scope.names []) (bindC (envOfC qual scope s.heap.objs.size f cd).kindOf (ps.zip us) fun _ => none) s1) :
    Inv (cxOf CX P w K mg base N qual scope f cd A outer s H E) [] (start N vs) H s1 := by
  have hpl : ps.length ≤ N.length := by have := congrArg List.length S.pre; rw [List.length_take] at this; omega
  obtain ⟨h1, tk, rfl, hk⟩ := x.done
  have noA : ∀ b : Addr, b ∉ (cxOf CX P w K mg base N qual scope f cd A outer s H E).ex := fun b z => absurd (show b ∈ ([] : List Addr) from z) (by simp)
  refine ⟨⟨e0.mod, S.kind, rfl, rfl, Nat.le_refl _, fun y z c h1 h2 => ?_, fun y hy => ?_, fun y c _ h => ?_, fun _ => hd, Around.frames_deeper e0.frames, .inr ⟨rfl, rfl⟩, fun b z => absurd z (noA b), e0.bs, e0.bsz, fun b _ _ => noA b, fun b z => absurd z (noA b), e0.funs, e0.frf⟩,
    rfl, e0.bare, Un.kept hk, ⟨_, x.toInCall.ns, fun i y v h1 h2 h3 => ?_⟩, fun y c h => ⟨_, x.cell y c h⟩, e0.hok.fresh (Nat.le_refl _), fun y c h => ?_, fun p hp => absurd (show p ∈ ([] : List (Addr × Obj)) from hp) (by simp), e0.hok.kept hk, ?_⟩
  · exact name_of_addr x.apart (PySem.mem_of_lookup h1) (PySem.mem_of_lookup h2)
  · have hy : scope.names.lookup y = some .cell ∨ scope.names.lookup y = some .free := hy
    rcases hy with hy | hy
    · exact cell_has hy
    · exact absurd rfl (S.nofree _ (PySem.mem_of_lookup hy))
  · exact Nat.le_of_lt (x.above y c (PySem.mem_of_lookup h))
  · have hi : i < vs.length := by
      unfold start at h2
      by_cases hi : i < vs.length
      · exact hi
      · rw [List.getElem?_append_right (by simpa using hi)] at h2
        rw [List.getElem?_replicate] at h2
        split at h2 <;> cases h2
    have ha : vs[i]? = some v := by
      unfold start at h2
      rw [List.getElem?_append_left (by simpa using hi), List.getElem?_map] at h2
      cases e : vs[i]? with
      | none => rw [e] at h2; cases h2
      | some a => rw [e] at h2; cases h2; rfl
    obtain ⟨u, hu, rv⟩ := r.get ha
    have hp : ps[i]? = some y := by
      rw [← S.pre, List.getElem?_take_of_lt (by omega)]; exact h1
    have ndP : ps.Nodup := by rw [← S.pre]; exact S.nd.sublist (List.take_sublist _ _)
    refine ⟨u, rv, ?_⟩
    rcases S.par y (List.mem_of_getElem? hp) with k | k
    · exact .inl ⟨k, bindL_get ndP hp hu k⟩
    · obtain ⟨c, e⟩ := cell_has (n := s.heap.objs.size + 1) k
      refine .inr ⟨.inl k, c, e, ?_⟩
      have q := x.cell y c e
      rw [bindC_get ndP hp hu (by show scope.names.lookup y ≠ _; rw [k]; decide)] at q
      exact q
  · exact e0.hok.fresh (Nat.le_of_lt (x.above y c (PySem.mem_of_lookup h)))
  · unfold start
    show _ = N.length
    rw [List.length_append, List.length_map, List.length_replicate]
    omega

/-- THE RULE: a def (or a method) of the text, by its body. The body's reading t is chosen for each entry; it is run at the parameters' values -/
theorem fn_of {CX : CXT} {P : Program} {w : World} {K : PySem.W.Frag} {mg : Str → Option Value} {base : Heap} {k : Nat} {f : Addr} {name qual : Str} {params : Arguments} {body : List Stmt} {scope : Scope} {dV kV doc pm cdv ct oc : Value} {an od : Option Addr}
    {osl : Array (Option Value)} {N ps : List Str} {sp : Sp} (lk : K.lookup f = some ⟨oc, od, .func (PySem.W.fnOf name qual params body scope dV kV doc pm an cdv ct), osl⟩) (hcd : PySem.W.codeIn K cdv qual = true) (S : FnScope N ps scope)
    (len : ∀ vs H Q E, sp vs H Q E → vs.length = ps.length)
    (hbody : ∀ (A : Around) (outer : List Env) (s : Shared) (H : Hp) (vs : List V) (Q : VK) (E : XK), Room k (A.deeper (envOfC qual scope s.heap.objs.size f cdv)) → sp vs H Q E →
      ∃ t, PSs (cxOf CX P w K mg base N qual scope f cdv A outer s H E) body t ∧ t { nx := fun _ H' => Q .non H', rt := Q } (start N vs) H) :
    FnOk P w K mg base CX (k + 1) f (PySem.W.fnOf name qual params body scope dV kV doc pm an cdv ct) ps sp := by
  refine ⟨len, fun A outer s H args us vs Q E hr e0 hb r hsp => ?_⟩
  have hl := len _ _ _ _ hsp
  have KX : K.In s.heap := e0.mod.kin.keeps fun b o e => (e0.bs b o e).1
  have lim : s.heap.NoLimit := e0.mod.nolimit.keeps fun b o e => (e0.bs b o e).1
  have hkind : ∀ y ∈ ps.zip us, scope.names.lookup y.1 = some .local ∨ (scope.names.lookup y.1 = some .cell ∧ ((cellsFrom (s.heap.objs.size + 1) scope.names []).lookup y.1).isSome = true) := fun ⟨n, v⟩ hy => by
    rcases S.par n (List.of_mem_zip hy).1 with q | q
    · exact .inl q
    · exact .inr ⟨q, PySem.W.cellsFrom_some _ _ _ (.inl q)⟩
  refine codeAny_call_function hr.depth (KX _ _ lk) rfl S.co S.gen rfl (PySem.W.codeRec_of KX hcd) (hb _ _ _ _ ?_)
  refine wpAny_newFunctionEnv_cells S.kind hkind fun env he s1 x => ?_
  subst he
  refine ⟨lim.keeps x.toInCall.keep, codeAny_func ?_⟩
  obtain ⟨t, ht, hq⟩ := hbody A outer s H vs Q E (hr.deeper _) hsp
  have I : Inv (cxOf CX P w K mg base N qual scope f cdv A outer s H E) [] (start N vs) H s1 := inv_start S hr.hd e0 hl r x
  refine wpAny_mono (ht [] s1 (start N vs) H _ I hq) (fun fl s' hs => ?_) fun e s' hs => hs
  have fin : ∀ {σ' : St} {H' : Hp} {v : V} {u : Value}, Inv (cxOf CX P w K mg base N qual scope f cdv A outer s H E) [] σ' H' s' → RelV v u → Q v H' → CE outer P w H s Q u s' :=
    fun {σ' H' v u} J rv q => ⟨v, H', J.os, J.bare, J.base, J.hok, rv, q⟩
  cases fl with
  | ret u =>
    obtain ⟨v, σ', H', J, rv, q⟩ := hs
    exact fin J rv q
  | next =>
    obtain ⟨σ', H', J, q⟩ := hs
    exact fin (v := V.non) (u := Value.none) J rfl q
  | brk =>
    obtain ⟨_, _, _, q⟩ := hs
    exact False.elim q
  | cont =>
    obtain ⟨_, _, _, q⟩ := hs
    exact False.elim q
end L2

namespace L2
open PySem PySem.Spec PyProof.Rows
section
variable {X : Cx} {x : Str} {p pos : Pos} {e : Expr} {es : List Expr} {t : TA} {id T : String} {r : List V → Hp → VK → Prop}

def tCB (r : List V → Hp → VK → Prop) (t : TA) : TE := fun σ H Q => t σ H fun vs H1 => r vs H1 Q
/-- f(e, ..), f a built-in function -/
theorem pe_callB (hc : CallR X (.builtin id) r) (hg : Gl X x) (hm : X.mg x = none) (hv : bootBuiltins x = some (.builtin id)) (ha : PA X (e :: es) t) (hn : x ≠ "__name__" := by decide) (hdb : (x == ("__debug__" : Str)) = false := by decide)
    (he : starEach (e :: es) X.env = (false, eval e X.env) :: starEach es X.env := by rfl) (hpl : (backTo pos (starEach es X.env)).any (·.1) = false := by rfl) : PE X (.Call (.Name x p) (e :: es) [] pos) (tCB r t) := by
  intro pins s σ H Q I h
  refine wpAny_Call_Name_kw (ld_blt I hg hm hv ?_ hn hdb)
  exact PyProof.Rows.callWith_builtin1 (thn (ha pos pins s σ H _ I h) fun us s1 ⟨vs, H1, I1, r1, q1⟩ => hc pins s1 σ H1 vs us Q I1 r1 q1) he hpl
/-- T(e, ..), T a built-in type -/
theorem pe_callTy (hc : CallR X (.type T) r) (hg : Gl X x) (hm : X.mg x = none) (hv : bootBuiltins x = some (.type T)) (ha : PA X (e :: es) t) (hn : x ≠ "__name__" := by decide) (hdb : (x == ("__debug__" : Str)) = false := by decide)
    (he : starEach (e :: es) X.env = (false, eval e X.env) :: starEach es X.env := by rfl) (hpl : (backTo pos (starEach es X.env)).any (·.1) = false := by rfl) : PE X (.Call (.Name x p) (e :: es) [] pos) (tCB r t) := by
  intro pins s σ H Q I h
  refine wpAny_Call_Name_kw (ld_blt I hg hm hv ?_ hn hdb)
  exact PyProof.Rows.callWith_type1 (thn (ha pos pins s σ H _ I h) fun us s1 ⟨vs, H1, I1, r1, q1⟩ => hc pins s1 σ H1 vs us Q I1 r1 q1) he hpl
end
end L2

namespace HT
open PySem PyProof.Rows

section
open PySem.SeqAt
open PySem.AutoSeq1 (wpAny_loadPart')
open PySem.MeetsSeq PySem.MeetsSeq2 PySem.MeetsSeq3

end

section
variable {prog : Program} {w : World} {A : Around} {E : Value → Shared → Prop} {s : Shared}

/-! ### t[a:b], not the whole -/
/-- a slice's bound as a place among n (d where it is left out) -/
def sIx (n d : Nat) : Option Int → Nat
  | none => d
  | some v => if v < 0 then (v + (n : Int)).toNat else min v.toNat n
theorem sIx_none (n d : Nat) : sIx n d none = d := rfl
theorem sIx_nat (n d k : Nat) : sIx n d (some (k : Int)) = min k n := by
  show (if (k : Int) < 0 then ((k : Int) + (n : Int)).toNat else min (k : Int).toNat n) = min k n
  rw [if_neg (by omega), Int.toNat_natCast]
end
end HT

namespace L2
open PySem PySem.Spec PyProof.Rows

/-! ### the parts of a slice -/
abbrev TO := St → Hp → (Option Int → Hp → Prop) → Prop
/-- a slice's part (left out, or an int) -/
def PO (X : Cx) (e : Option Expr) (t : TO) : Prop :=
  ∀ (pins : List (Addr × Obj)) (s : Shared) (σ : St) (H : Hp) (Q : Option Int → Hp → Prop), Inv X pins σ H s → t σ H Q →
    wpAny (model X.prog X.w) X.A (evalPart e X.env) (fun u s' => ∃ o H', Inv X pins σ H' s' ∧ IsPart u o ∧ Q o H') X.xe s
def tNoPart : TO := fun _ H Q => Q none H
def tPart (t : TE) : TO := fun σ H Q => t σ H fun x H1 => ∃ i, x = .int i ∧ Q (some i) H1

section
variable {X : Cx} {e : Expr} {te : TE} {lo hi : Option Expr} {tl th : TO} {pos p2 : Pos}

theorem po_none : PO X none tNoPart := by
  intro pins s σ H Q I h
  rw [evalPart_none]
  exact wpAny_pure ⟨none, H, I, .none, h⟩
theorem po_some (h : PE X e te) : PO X (some e) (tPart te) := by
  intro pins s σ H Q I hw
  rw [evalPart_some]
  refine thn (h pins s σ H _ I hw) fun u s1 ⟨x, H1, I1, r1, q1⟩ => ?_
  obtain ⟨i, rfl, q⟩ := q1
  obtain ⟨t, rfl⟩ := r1
  exact ⟨some i, H1, I1, .int i t, q⟩

/-- what a slice of a value is, by values: the slice object stands at sl -/
def SlR (X : Cx) (r : V → Option Int → Option Int → Hp → VK → Prop) : Prop :=
  ∀ (pins : List (Addr × Obj)) (s : Shared) (σ : St) (H : Hp) (x : V) (v vl vu : Value) (lo hi : Option Int) (sl : Addr) (Q : VK), Inv X pins σ H s → RelV x v → s.heap.IsSliceOf sl vl vu .none → IsPart vl lo → IsPart vu hi → r x lo hi H Q →
    ∃ T id, typeLookup (.type T) "__getitem__" = pure (some (.builtin id)) ∧ s.TypeIs v T ∧ wpAny (model X.prog X.w) X.A (getItem v (.ref sl)) (EP X pins σ Q) X.xe s
def tSl (r : V → Option Int → Option Int → Hp → VK → Prop) (te : TE) (tl th : TO) : TE := fun σ H Q => te σ H fun x H1 => tl σ H1 fun l H2 => th σ H2 fun u H3 => r x l u H3 Q
/-- a[lo:hi], any a -/
theorem pe_slice {r : V → Option Int → Option Int → Hp → VK → Prop} (hr : SlR X r) (he : PE X e te) (hl : PO X lo tl) (hu : PO X hi th) : PE X (.Subscript e (.Slice lo hi none p2) pos) (tSl r te tl th) := by
  intro pins s σ H Q I h
  refine Subscript_ (thn (he pins s σ H _ I h) fun v s1 ⟨x, H1, I1, r1, q1⟩ => ?_)
  refine wpAny_Slice (thn (hl pins s1 σ H1 _ I1 q1) fun vl s2 ⟨l, H2, I2, pl, q2⟩ => thn (hu pins s2 σ H2 _ I2 q2) fun vu s3 ⟨u, H3, I3, pu, q3⟩ => ?_)
  rw [evalPart_none]
  refine wpAny_pure ?_
  have I4 : Inv X pins σ H3 { s3 with heap := s3.heap.push { cls := .type "slice", data := .fields #[vl, vu, .none] } } := I3.kept (t' := s3.toks) fun b ob q => Heap.get?_push_of_some _ q
  obtain ⟨T, id, hT, ht, hg⟩ := hr pins { s3 with heap := s3.heap.push { cls := .type "slice", data := .fields #[vl, vu, .none] } } σ H3 x v vl vu l u s3.heap.objs.size Q I4 r1 (Heap.IsSliceOf.new ..) pl pu q3
  show wpAny (model X.prog X.w) X.A (subscriptTail e (.Slice lo hi none p2) v (.ref s3.heap.objs.size)) (EP X pins σ Q) X.xe { s3 with heap := s3.heap.push { cls := .type "slice", data := .fields #[vl, vu, .none] } }
  exact tail_any (ops := [.ref s3.heap.objs.size, v]) ht hT hg (by with_unfolding_all rfl)

/-- the items of xs[lo:hi] -/
def cutV (xs : List V) (lo hi : Option Int) : List V := (xs.drop (HT.sIx xs.length 0 lo)).take (HT.sIx xs.length xs.length hi - HT.sIx xs.length 0 lo)
theorem cutV_length (xs : List V) (lo hi : Option Int) : (cutV xs lo hi).length ≤ xs.length := by
  unfold cutV
  rw [List.length_take, List.length_drop]
  omega
/-! ### t < u, t + u -/
end
end L2

namespace L2
open PySem PySem.Spec PyProof.Rows

/-! ### places -/
/-- the place that an index of any sign means -/
def ixN (n : Nat) (i : Int) : Option Nat := if 0 ≤ i then (if i < n then some i.toNat else none) else if -(n : Int) ≤ i then some (i + n).toNat else none
def atI {α : Type} (xs : List α) (i : Int) : Option α := (ixN xs.length i).bind fun j => xs[j]?
theorem ixN_seq {n : Nat} {i : Int} {j : Nat} (h : ixN n i = some j) : seqIndex? i n = some j ∧ j < n ∧ -(n : Int) ≤ i ∧ i < n := by
  unfold ixN at h
  by_cases h0 : 0 ≤ i
  · rw [if_pos h0] at h
    by_cases h1 : i < n
    · rw [if_pos h1] at h
      have e : i.toNat = j := Option.some.inj h
      exact ⟨by rw [seqIndex_of h0 h1, e], by omega, by omega, h1⟩
    · rw [if_neg h1] at h; cases h
  · rw [if_neg h0] at h
    by_cases h1 : -(n : Int) ≤ i
    · rw [if_pos h1] at h
      have e : (i + n).toNat = j := Option.some.inj h
      exact ⟨by rw [seqIndex_neg (by omega) h1, e], by omega, h1, by omega⟩
    · rw [if_neg h1] at h; cases h
theorem atI_get {α : Type} {xs : List α} {i : Int} {v : α} (h : atI xs i = some v) : ∃ j, seqIndex? i xs.length = some j ∧ xs[j]? = some v ∧ j < xs.length ∧ -(xs.length : Int) ≤ i ∧ i < xs.length := by
  unfold atI at h
  cases e : ixN xs.length i with
  | none => rw [e] at h; cases h
  | some j =>
    rw [e] at h
    obtain ⟨h1, h2, h3, h4⟩ := ixN_seq e
    exact ⟨j, h1, h, h2, h3, h4⟩
theorem atI_nat {α : Type} {xs : List α} {j : Nat} {v : α} (h : xs[j]? = some v) : atI xs (j : Int) = some v := by
  have hj : j < xs.length := (List.getElem?_eq_some_iff.mp h).1
  have e : ixN xs.length (j : Int) = some j := by
    unfold ixN
    rw [if_pos (by omega), if_pos (by omega)]; simp
  unfold atI; rw [e]; exact h
/-! ### what may be subscripted -/
/-- what stands as an index of a plain subscript -/
def PlainIx (b : Expr) : Prop := ∀ o i, subscripted b false o i = operate [o, i] (getItem o i)
/-- a subscript by values -/
def IxR (X : Cx) (r : R2) : Prop :=
  ∀ (value slice : Expr) (pins : List (Addr × Obj)) (s : Shared) (σ : St) (H : Hp) (x y : V) (v u : Value) (Q : VK), Inv X pins σ H s → RelV x v → RelV y u → r x y H Q →
    subscripted slice false v u = operate [v, u] (getItem v u) → wpAny (model X.prog X.w) X.A (subscriptTail value slice v u) (EP X pins σ Q) X.xe s
/-- a call of a builtin's method by values: the receiver, the arguments -/
def MtR (X : Cx) (id : String) (r : V → List V → Hp → VK → Prop) : Prop :=
  ∀ (pins : List (Addr × Obj)) (s : Shared) (σ : St) (H : Hp) (x : V) (xs : List V) (v : Value) (us : List Value) (Q : VK), Inv X pins σ H s → RelV x v → Vals xs us → r x xs H Q →
    wpAny (model X.prog X.w) X.A (call (.builtin id) (v :: us)) (EP X pins σ Q) X.xe s
section
variable {X : Cx} {a b : Expr} {ta tb : TE} {pos : Pos}
/-- a[b] -/
theorem pe_ix {r : R2} (hr : IxR X r) (ha : PE X a ta) (hb : PE X b tb) (hs : PlainIx b) : PE X (.Subscript a b pos) (tOp r ta tb) := by
  intro pins s σ H Q I h
  exact Subscript_ (binT ha hb I h fun v u s2 x y H2 I2 rx ry q => hr a b pins s2 σ H2 x y v u Q I2 rx ry q (hs _ _))

def rIxL (K : PySem.W.Frag) : R2 := fun x y H Q => ∃ p xs i v, x = .ref p ∧ y = .int i ∧ SqL K H p xs ∧ atI xs i = some v ∧ Q v H
def rIxT (K : PySem.W.Frag) : R2 := fun x y H Q => ∃ p xs i v, x = .ref p ∧ y = .int i ∧ SqT K H p xs ∧ atI xs i = some v ∧ Q v H
theorem ix_list : IxR X (rIxL X.K) := by
  intro value slice pins s σ H x y v u Q I rx ry h hs
  obtain ⟨p, xs, i, z, rfl, rfl, hq, he, q⟩ := h
  cases rx
  obtain ⟨t, rfl⟩ := ry
  obtain ⟨its, r, pl, hz⟩ := I.list hq
  obtain ⟨j, h1, h2, h3, h4, h5⟩ := atI_get he
  obtain ⟨w, ew, rw'⟩ := r.get h2
  have hl := r.length
  have hn := line63
  have fin : EP X pins σ Q w s := ⟨z, H, I, rw', q⟩
  by_cases h0 : 0 ≤ i
  · have hj : i.toNat = j := by
      rw [seqIndex_of h0 h5] at h1
      exact Option.some.inj h1
    exact item_listR pl.isList h0 (by omega) (by rw [hj]; simpa using ew) fin hs
  · have hj : (i + (its.toArray.size : Int)).toNat = j := by
      rw [seqIndex_neg (by omega) h4] at h1
      rw [List.size_toArray, ← hl]
      exact Option.some.inj h1
    exact subscriptTail_builtinR (x := w) pl.isList.typeIs slot_list_getitem.lookup
      (wpAny_getItem_list_neg (Q := fun r s' => r = w ∧ EP X pins σ Q r s') pl.isList (by omega) (by rw [List.size_toArray] <;> omega) (by omega) (by rw [hj]; simpa using ew) ⟨rfl, fin⟩) hs
theorem ix_tup : IxR X (rIxT X.K) := by
  intro value slice pins s σ H x y v u Q I rx ry h hs
  obtain ⟨p, xs, i, z, rfl, rfl, hq, he, q⟩ := h
  cases rx
  obtain ⟨t, rfl⟩ := ry
  obtain ⟨its, r, pl, hz⟩ := I.tuple hq
  obtain ⟨j, h1, h2, h3, h4, h5⟩ := atI_get he
  obtain ⟨w, ew, rw'⟩ := r.get h2
  have hl := r.length
  have hn := line63
  have fin : EP X pins σ Q w s := ⟨z, H, I, rw', q⟩
  exact subscriptTail_builtinR (x := w) pl.typeIs slot_tuple_getitem.lookup
    (getItem_tuple (j := j) (Q := fun r s' => r = w ∧ EP X pins σ Q r s') pl (by omega) (by omega) (by rw [List.size_toArray, ← hl]; exact h1) (by simpa using ew) ⟨rfl, fin⟩) hs
/-! ### xs[i] = v, any sign -/
/-! ### slices -/
theorem slice_bounds (lo hi : Option Int) (n : Nat) : (sliceBounds lo hi none n).1 = ((HT.sIx n 0 lo : Nat) : Int) ∧ (sliceBounds lo hi none n).2.1 = ((HT.sIx n n hi : Nat) : Int) ∧ (sliceBounds lo hi none n).2.2 = 1 := by
  refine ⟨?_, ?_, rfl⟩
  · cases lo with
    | none => simp [sliceBounds, HT.sIx]
    | some i =>
      simp only [sliceBounds, HT.sIx, Option.getD_none, show (1 : Int) > 0 by decide, if_true]
      by_cases h : i < 0
      · simp only [h, if_true] <;> omega
      · simp only [h, if_false] <;> omega
  · cases hi with
    | none => simp [sliceBounds, HT.sIx]
    | some i =>
      simp only [sliceBounds, HT.sIx, Option.getD_none, show (1 : Int) > 0 by decide, if_true]
      by_cases h : i < 0
      · simp only [h, if_true] <;> omega
      · simp only [h, if_false] <;> omega
theorem slicePick_cut (its : List Value) (lo hi : Option Int) : slicePick its.toArray lo hi none = ((its.drop (HT.sIx its.length 0 lo)).take (HT.sIx its.length its.length hi - HT.sIx its.length 0 lo)).toArray := by
  obtain ⟨h1, h2, h3⟩ := slice_bounds lo hi its.toArray.size
  unfold slicePick
  rw [h1, h2, h3]
  simp only [sliceRange_one, pick_run, List.size_toArray] <;> rfl
/-- xs[lo:hi] of a list: a new list -/
def rSlL (K : PySem.W.Frag) : V → Option Int → Option Int → Hp → VK → Prop := fun x lo hi H Q => ∃ a xs, x = .ref a ∧ SqL K H a xs ∧ ∀ p, H p = none → Q (.ref p) (upd H p (.lst (cutV xs lo hi)))
theorem sl_list : SlR X (rSlL X.K) := by
  intro pins s σ H x v vl vu lo hi sl Q I rx hs pl pu h
  obtain ⟨a, xs, rfl, hx, q⟩ := h
  cases rx
  obtain ⟨its, r, ht, hz⟩ := I.list hx
  have hlen := r.length
  refine ⟨"list", _, slot_list_getitem.lookup, ht.isList.typeIs, ?_⟩
  refine wpAny_getItem_list_slice ht.isList hs pl pu .none (by simp) ?_ (by rw [List.size_toArray] <;> omega)
  rw [slicePick_cut, ← hlen]
  refine ⟨.ref s.heap.objs.size, _, I.laid (t' := s.toks) (o := .lst (cutV xs lo hi)) (fun b ob q => Heap.get?_push_of_some _ q) (Nat.le_refl _) ?_, rfl, q _ (I.hok.fresh (Nat.le_refl _))⟩
  exact ⟨Nat.le_trans (cutV_length xs lo hi) hz, _, 0, (r.drop (HT.sIx xs.length 0 lo)).take (HT.sIx xs.length xs.length hi - HT.sIx xs.length 0 lo), Heap.get?_push_size _ rfl⟩

/-! ### in, not in: flat items -/
def flatV : V → Bool
  | .non => true
  | .bl _ => true
  | .int _ => true
  | .str _ => true
  | _ => false
/-- == of flat values -/
def eqV : V → V → Bool
  | .non, .non => true
  | .bl a, .bl b => a == b
  | .bl a, .int b => (if a then 1 else 0) == b
  | .int a, .bl b => a == (if b then 1 else 0)
  | .int a, .int b => a == b
  | .str a, .str b => a == b
  | _, _ => false
theorem eqAt_V {A : Around} {s : Shared} {y x : V} {u v : Value} (ry : RelV y u) (rx : RelV x v) (fy : flatV y = true) (fx : flatV x = true) : SeqAt.EqAt A s u v (eqV y x) := by
  cases y with
  | non =>
    cases ry
    cases x with
    | non => cases rx; exact SeqAt.EqAt.same _
    | bl b => cases rx; exact SeqAt.EqAt.none_bool b
    | int b => obtain ⟨t, rfl⟩ := rx; exact SeqAt.EqAt.none_int b t
    | str b => obtain ⟨t, rfl⟩ := rx; exact SeqAt.EqAt.none_str b t
    | _ => exact absurd (show false = true from fx) Bool.false_ne_true
  | bl a =>
    cases ry
    cases x with
    | non => cases rx; exact SeqAt.EqAt.bool_none a
    | bl b => cases rx; exact SeqAt.EqAt.bool_bool a b
    | int b => obtain ⟨t, rfl⟩ := rx; exact SeqAt.EqAt.bool_int a b t
    | str b => obtain ⟨t, rfl⟩ := rx; exact SeqAt.EqAt.bool_str a b t
    | _ => exact absurd (show false = true from fx) Bool.false_ne_true
  | int a =>
    obtain ⟨t', rfl⟩ := ry
    cases x with
    | non => cases rx; exact SeqAt.EqAt.int_none a t'
    | bl b => cases rx; exact SeqAt.EqAt.int_bool a t' b
    | int b => obtain ⟨t, rfl⟩ := rx; exact SeqAt.EqAt.int_int a t' b t
    | str b => obtain ⟨t, rfl⟩ := rx; exact SeqAt.EqAt.int_str a t' b t
    | _ => exact absurd (show false = true from fx) Bool.false_ne_true
  | str a =>
    obtain ⟨t', rfl⟩ := ry
    cases x with
    | non => cases rx; exact SeqAt.EqAt.str_none a t'
    | bl b => cases rx; exact SeqAt.EqAt.str_bool a t' b
    | int b => obtain ⟨t, rfl⟩ := rx; exact SeqAt.EqAt.str_int a t' b t
    | str b => obtain ⟨t, rfl⟩ := rx; exact SeqAt.EqAt.str_str a t' b t
    | _ => exact absurd (show false = true from fx) Bool.false_ne_true
  | _ => exact absurd (show false = true from fy) Bool.false_ne_true
/-- the items' answers, read off the values (a value's own answer does not lean on its token) -/
def eqU (x : V) (u : Value) : Bool := match u with
  | .none => eqV .non x
  | .bool b => eqV (.bl b) x
  | .int i _ => eqV (.int i) x
  | .str z _ => eqV (.str z) x
  | _ => false
theorem eqU_of {x y : V} {u : Value} (r : RelV y u) (f : flatV y = true) : eqU x u = eqV y x := by
  cases y with
  | non => cases r; rfl
  | bl b => cases r; rfl
  | int i => obtain ⟨t, rfl⟩ := r; rfl
  | str z => obtain ⟨t, rfl⟩ := r; rfl
  | _ => exact absurd (show false = true from f) Bool.false_ne_true
theorem any_eqU {x : V} : ∀ {xs : List V} {us : List Value}, Vals xs us → xs.all flatV = true → us.any (eqU x) = xs.any fun y => eqV y x
  | _, _, .nil, _ => rfl
  | y :: xs, u :: us, .cons r t, f => by
    rw [List.all_cons, Bool.and_eq_true] at f
    rw [List.any_cons, List.any_cons, eqU_of r f.1, any_eqU t f.2]
theorem mem_eqAt {A : Around} {s : Shared} {x : V} {v : Value} (rx : RelV x v) (fx : flatV x = true) : ∀ {xs : List V} {us : List Value}, Vals xs us → xs.all flatV = true → ∀ u ∈ us, SeqAt.EqAt A s u v (eqU x u)
  | _, _, .nil, _ => fun u hu => by cases hu
  | y :: xs, u :: us, .cons r t, f => fun u' hu => by
    rw [List.all_cons, Bool.and_eq_true] at f
    rcases List.mem_cons.mp hu with rfl | hu
    · rw [eqU_of r f.1]; exact eqAt_V r rx f.1 fx
    · exact mem_eqAt rx fx t f.2 u' hu
def inV (x : V) (xs : List V) : Bool := xs.any fun y => eqV y x
/-- x in a list or tuple of flat items -/
def rIn (K : PySem.W.Frag) (neg : Bool) : R2 := fun x y H Q => ∃ p xs, y = .ref p ∧ (SqL K H p xs ∨ SqT K H p xs) ∧ flatV x = true ∧ xs.all flatV = true ∧ Q (.bl (if neg then !inV x xs else inV x xs)) H
theorem op_in_seq : OpR X (compareOp .In) (rIn X.K false) := by
  intro pins s σ H x y v u Q I rx ry h
  obtain ⟨p, xs, rfl, hq, fx, fs, q⟩ := h
  cases ry
  rcases hq with hq | hq
  · obtain ⟨its, r, pl, hz⟩ := I.list hq
    refine SeqAt.in_listAt (eqU x) pl.isList (fun w hw => mem_eqAt rx fx r fs w (by simpa using hw)) ⟨.bl _, H, I, rfl, ?_⟩
    rw [show its.toArray.any (eqU x) = its.any (eqU x) by simp, any_eqU r fs]
    exact q
  · obtain ⟨its, r, pl, hz⟩ := I.tuple hq
    refine SeqAt.in_tupleAt (eqU x) pl (fun w hw => mem_eqAt rx fx r fs w (by simpa using hw)) ⟨.bl _, H, I, rfl, ?_⟩
    rw [show its.toArray.any (eqU x) = its.any (eqU x) by simp, any_eqU r fs]
    exact q
theorem op_notIn_seq : OpR X (compareOp .NotIn) (rIn X.K true) := by
  intro pins s σ H x y v u Q I rx ry h
  obtain ⟨p, xs, rfl, hq, fx, fs, q⟩ := h
  cases ry
  rcases hq with hq | hq
  · obtain ⟨its, r, pl, hz⟩ := I.list hq
    refine SeqAt.notIn_listAt (eqU x) pl.isList (fun w hw => mem_eqAt rx fx r fs w (by simpa using hw)) ⟨.bl _, H, I, rfl, ?_⟩
    rw [show its.toArray.any (eqU x) = its.any (eqU x) by simp, any_eqU r fs]
    exact q
  · obtain ⟨its, r, pl, hz⟩ := I.tuple hq
    refine SeqAt.notIn_tupleAt (eqU x) pl (fun w hw => mem_eqAt rx fx r fs w (by simpa using hw)) ⟨.bl _, H, I, rfl, ?_⟩
    rw [show its.toArray.any (eqU x) = its.any (eqU x) by simp, any_eqU r fs]
    exact q
/-! ### len, list(x), tuple(x) of any list or tuple that is read -/
theorem call_len_seq : CallR X (.builtin "len") (fun xs H Q => ∃ p ys, xs = [.ref p] ∧ (SqL X.K H p ys ∨ SqT X.K H p ys) ∧ Q (.int ys.length) H) := by
  intro pins s σ H xs us Q I r h
  obtain ⟨p, ys, rfl, hq, q⟩ := h
  obtain ⟨u, rfl, rx⟩ := vals1 r
  cases rx
  have hn := line63
  rcases hq with hq | hq
  · obtain ⟨its, r', pl, hz⟩ := I.list hq
    have hlen := r'.length
    exact Calls.call_len_list pl.isList (by simp only [List.size_toArray] <;> omega) ⟨.int ys.length, H, I.tok _, ⟨s.toks + 1, by rw [List.size_toArray, hlen]⟩, q⟩
  · obtain ⟨its, r', pl, hz⟩ := I.tuple hq
    have hlen := r'.length
    exact len_tuple pl (by simp only [List.size_toArray] <;> omega) ⟨.int ys.length, H, I.tok _, ⟨s.toks + 1, by rw [List.size_toArray, hlen]⟩, q⟩
theorem call_list_of : CallR X (.type "list") (fun xs H Q => ∃ p ys, xs = [.ref p] ∧ (SqL X.K H p ys ∨ SqT X.K H p ys) ∧ ∀ l, H l = none → Q (.ref l) (upd H l (.lst ys))) := by
  intro pins s σ H xs us Q I r h
  obtain ⟨p, ys, rfl, hq, q⟩ := h
  obtain ⟨u, rfl, rx⟩ := vals1 r
  cases rx
  have fin : ∀ (its : List Value), Vals ys its → ys.length ≤ sizeLine → ∀ (h' : Heap) (c' : Nat), (∀ b o', s.heap.get? b = some o' → h'.get? b = some o') →
      h'.get? s.heap.objs.size = some { cls := .type "list", dict := none, data := .seq its.toArray c', slots := #[] } → EP X pins σ Q (.ref s.heap.objs.size) { s with heap := h' } := fun its r' hz h' c' kp e =>
    ⟨.ref s.heap.objs.size, _, I.laid (t' := s.toks) kp (Nat.le_refl _) (show ObjOk X.prog X.w _ h' _ (.lst ys) from ⟨hz, its, c', r', e⟩), rfl, q _ (I.hok.fresh (Nat.le_refl _))⟩
  rcases hq with hq | hq
  · obtain ⟨its, r', pl, hz⟩ := I.list hq
    have hlen := r'.length
    obtain ⟨o, ho, hc, n, hd⟩ := pl.isList
    exact call_list_seq p (.inl rfl) ho hc hd (fun h' c' kp e => fin its r' hz h' c' kp e) (by simp only [List.size_toArray] <;> omega)
  · obtain ⟨its, r', pl, hz⟩ := I.tuple hq
    have hlen := r'.length
    obtain ⟨o, ho, hc, n, hd⟩ := pl
    exact call_list_seq p (.inr rfl) ho hc hd (fun h' c' kp e => fin its r' hz h' c' kp e) (by simp only [List.size_toArray] <;> omega)
/-! ### the call of a builtin's method: o.m(..) -/
/-- the value is of that builtin type -/
def tyV (K : PySem.W.Frag) (T : String) (x : V) (H : Hp) : Prop := match x with
  | .str _ => T = "str"
  | .int _ => T = "int"
  | .ref p => (T = "list" ∧ ∃ xs, SqL K H p xs) ∨ (T = "tuple" ∧ ∃ o, K.lookup p = some o ∧ o.cls = .type "tuple" ∧ o.dict = none) ∨
      (T = "dict" ∧ ((∃ kvs, H p = some (.dK kvs)) ∨ ∃ kvs, H p = some (.dT kvs))) ∨ (T = "set" ∧ ∃ S n, H p = some (.set S n))
  | _ => False
theorem tyV_is {pins : List (Addr × Obj)} {σ : St} {H : Hp} {s : Shared} {T : String} {x : V} {v : Value} (I : Inv X pins σ H s) (r : RelV x v) (ty : tyV X.K T x H) :
    s.TypeIs v T ∧ ∀ a, v = .ref a → ∃ ob, s.heap.get? a = some ob ∧ ob.dict = none := by
  cases x with
  | str z =>
    obtain ⟨t, rfl⟩ := r
    cases (show T = "str" from ty)
    exact ⟨typeIs_str s z t, fun _ e => nomatch e⟩
  | int i =>
    obtain ⟨t, rfl⟩ := r
    cases (show T = "int" from ty)
    exact ⟨typeIs_int s i t, fun _ e => nomatch e⟩
  | ref p =>
    cases r
    rcases ty with ⟨rfl, xs, hq⟩ | ⟨rfl, o, hk, hc, hd⟩ | ⟨rfl, hk⟩ | ⟨rfl, S, n, hk⟩
    · obtain ⟨its, _, pl, _⟩ := I.list hq
      refine ⟨pl.isList.typeIs, fun a e => ?_⟩
      cases e
      obtain ⟨o, n, e, c, hd, _⟩ := pl
      exact ⟨o, e, hd⟩
    · refine ⟨⟨o, I.kIn p o hk, hc⟩, fun a e => ?_⟩
      cases e
      exact ⟨o, I.kIn _ o hk, hd⟩
    · have z : ∃ o, s.heap.get? p = some o ∧ o.ExactDict := by
        rcases hk with ⟨kvs, hk⟩ | ⟨kvs, hk⟩
        · obtain ⟨_, _, _, _, o, _, _, e, ex, _⟩ := I.hok p _ hk
          exact ⟨o, e, ex⟩
        · obtain ⟨_, _, _, _, o, _, _, e, ex, _⟩ := I.hok p _ hk
          exact ⟨o, e, ex⟩
      obtain ⟨o, e, ex⟩ := z
      refine ⟨⟨o, e, ex.1⟩, fun a e2 => ?_⟩
      cases e2
      exact ⟨o, e, ex.2.1⟩
    · obtain ⟨o, _, _, _, e, ex, _⟩ := I.hok p _ hk
      refine ⟨⟨o, e, ex.1⟩, fun a e2 => ?_⟩
      cases e2
      exact ⟨o, e, ex.2.1⟩
  | _ => exact False.elim ty
def tBM (K : PySem.W.Frag) (T : String) (r : V → List V → Hp → VK → Prop) (to : TE) (t : TA) : TE := fun σ H Q => to σ H fun x H1 => tyV K T x H1 ∧ t σ H1 fun xs H2 => r x xs H2 Q
variable {o e : Expr} {es : List Expr} {to : TE} {t : TA} {name : Str} {apos cpos : Pos} {T id : String} {r : V → List V → Hp → VK → Prop}
theorem pe_bm (pa : PlainAttrs T) (slot : Slot T name id) (hty : typeOf (.builtin id) = pure (.type "method_descriptor")) (hm : MtR X id r) (ho : PE X o to) (ha : PA X (e :: es) t)
    (hbase : attributeBase o name X.env (eval o X.env) = eval o X.env := by rfl)
    (hfew : ((backTo cpos (starEach (e :: es) X.env)).all (fun x => !x.1) && (backToKw cpos (keywordEach [] X.env)).all (fun x => x.1.isSome)
      && decide ((e :: es).length + ([] : List Keyword).length + (if ([] : List Keyword).isEmpty then 0 else 1) < 30)) = true := by rfl)
    (hline : (apos.endLine == cpos.line) = true := by rfl) (hs : starEach (e :: es) X.env = (false, eval e X.env) :: starEach es X.env := by rfl) (hplain : (backTo cpos (starEach es X.env)).any (·.1) = false := by rfl) :
    PE X (.Call (.Attribute o name apos) (e :: es) [] cpos) (tBM X.K T r to t) := by
  intro pins s σ H Q I h
  refine wpAny_Call_method_late hbase hfew hline rfl (thn (ho pins s σ H _ I h) fun v s1 ⟨x, H1, I1, r1, ty, q1⟩ => ?_)
  obtain ⟨h1, h2⟩ := tyV_is I1 r1 ty
  refine ⟨T, id, pa, slot, hty, h1, h2, ?_⟩
  have hA := ha cpos pins s1 σ H1 _ I1 q1
  rw [hs] at hA ⊢
  refine Calls.callWith_builtin (by show (false || (backTo cpos (starEach es X.env)).any (·.1)) = false; rw [hplain] <;> rfl) (Calls.evalArgs_plain ?_)
  exact thn hA fun us s2 ⟨vs, H2, I2, r2, q2⟩ => hm pins s2 σ H2 x vs v us Q I2 r1 r2 q2
/- xs.append(e), list.index on a module's tuple .. are MtR facts of 06m -/
end
end L2

namespace L2
open PySem PySem.Spec PyProof.Rows

def MtM (X : Cx) (id : String) (r : V → List V → Hp → VK → Prop) : Prop :=
  ∀ (pins : List (Addr × Obj)) (s : Shared) (σ : St) (H : Hp) (x : V) (xs : List V) (v : Value) (us : List Value) (Q : VK), Inv X pins σ H s → RelV x v → Vals xs us → r x xs H Q →
    wpAny (model X.prog X.w) X.A (call (.builtin id) (v :: us)) (EP X pins σ Q) X.xe s

/-! ### lists of values -/
theorem Vals.one : ∀ {x : V} {us : List Value}, Vals [x] us → ∃ u, us = [u] ∧ RelV x u
  | _, _, .cons r .nil => ⟨_, rfl, r⟩
section
variable {X : Cx} {pins : List (Addr × Obj)} {σ : St} {H : Hp} {s : Shared} {l b : Addr} {xs ys zs : List V}

/-! ### the two steps: a tracked list is rewritten, a new list is laid -/
theorem Inv.lset {its its' : List Value} {n : Nat} {f : Array Value → Array Value} {t' : Nat} (I : Inv X pins σ H s) (hH : H l = some (.lst xs))
    (e : s.heap.get? l = some { cls := .type "list", data := .seq its.toArray n }) (hf : f its.toArray = its'.toArray) (hv : Vals ys its') (hz : ys.length ≤ sizeLine) :
    Inv X pins σ (upd H l (.lst ys)) { s with heap := s.heap.update l (Obj.mapSeq f), toks := t' } := by
  have q := PySem.IsL.update e f
  rw [hf] at q
  refine I.write (x := l) (e := l) (by rw [hH]; exact trivial) (.inl rfl) (fun b' u hb hu => (Heap.get?_update_other s.heap (Obj.mapSeq f) (Ne.symm hb)).trans hu) ⟨_, q⟩ ?_
  exact ⟨hz, its', _, hv, q⟩
theorem Inv.lnew {its : List Value} {t' : Nat} (I : Inv X pins σ H s) (hv : Vals ys its) (hz : ys.length ≤ sizeLine) :
    Inv X pins σ (upd H s.heap.objs.size (.lst ys)) { s with heap := s.heap.push { cls := .type "list", data := .seq its.toArray }, toks := t' } :=
  I.laid (fun _ _ q => Heap.get?_push_of_some _ q) (Nat.le_refl _) ⟨hz, its, 0, hv, Heap.get?_push_size _ rfl⟩
theorem Inv.fresh (I : Inv X pins σ H s) : H s.heap.objs.size = none := I.hok.fresh (Nat.le_refl _)
theorem Inv.lstM (I : Inv X pins σ H s) (hH : H l = some (.lst xs)) : xs.length ≤ sizeLine ∧ ∃ (its : List Value) (n : Nat), Vals xs its ∧ xs.length = its.length ∧ s.heap.get? l = some { cls := .type "list", data := .seq its.toArray n } := by
  obtain ⟨z, its, n, r, e⟩ := I.hok l _ hH
  exact ⟨z, its, n, r, r.length, e⟩

theorem notLongL {n : Nat} (h : n ≤ sizeLine) : Builtin.List.listTooLong n = false := by
  unfold Builtin.List.listTooLong
  exact decide_eq_false (by omega)
end

section
variable {X : Cx}

/-! ### methods -/
def rAppend : V → List V → Hp → VK → Prop := fun x vs H Q => ∃ l xs y, x = .ref l ∧ vs = [y] ∧ H l = some (.lst xs) ∧ xs.length < sizeLine ∧ Q .non (upd H l (.lst (xs ++ [y])))
theorem mt_append : MtM X "list.append" rAppend := by
  intro pins s σ H x vs v us Q I rx rv h
  obtain ⟨l, xs, y, rfl, rfl, hH, hz, q⟩ := h
  cases rx
  obtain ⟨u, rfl, ru⟩ := rv.one
  obtain ⟨z, its, n, r, hl, e⟩ := I.lstM hH
  refine call_meets F.slot_list_append ⟨_, e, rfl⟩ F.entry_list_append (F.args_list_append_2 _ _) (PySem.list_append l its.toArray n u (by rw [List.size_toArray]; omega)) ⟨e, ?_⟩
  refine ⟨.non, _, I.lset (its' := its ++ [u]) hH e (by simp) (r.append (.cons ru .nil)) ?_, rfl, q⟩
  rw [List.length_append, List.length_singleton]
  omega

def rExtend : V → List V → Hp → VK → Prop := fun x vs H Q => ∃ l b xs zs, x = .ref l ∧ vs = [.ref b] ∧ H l = some (.lst xs) ∧ H b = some (.lst zs) ∧ xs.length + zs.length ≤ sizeLine ∧ Q .non (upd H l (.lst (xs ++ zs)))
theorem mt_extend : MtM X "list.extend" rExtend := by
  intro pins s σ H x vs v us Q I rx rv h
  obtain ⟨l, b, xs, zs, rfl, rfl, hH, hB, hz, q⟩ := h
  cases rx
  obtain ⟨u, rfl, ru⟩ := rv.one
  cases ru
  obtain ⟨z, its, n, r, hl, e⟩ := I.lstM hH
  obtain ⟨z2, its2, n2, r2, hl2, e2⟩ := I.lstM hB
  have hsz : its.toArray.size + its2.toArray.size ≤ sizeLine := by rw [List.size_toArray, List.size_toArray]; omega
  have hlong : ¬ (!its.toArray.isEmpty && Builtin.List.listTooLong (its.toArray.size + its2.toArray.size)) = true := by
    rw [notLongL hsz, Bool.and_false]
    exact Bool.false_ne_true
  refine call_meets F.slot_list_extend ⟨_, e, rfl⟩ F.entry_list_extend (F.args_list_extend_2 _ _)
    (AutoSeq1.list_extend_list_list_0 l its.toArray n b its2.toArray n2 hlong (by rw [List.size_toArray]; omega) (by omega)) ⟨e, e2, ?_⟩
  refine ⟨.non, _, I.lset (its' := its ++ its2) hH e (by simp) (r.append r2) ?_, rfl, q⟩
  rw [List.length_append]
  omega

/-! ### list + list, list += list, list * int -/
def rCat : R2 := fun x y H Q => ∃ l b xs zs, x = .ref l ∧ y = .ref b ∧ H l = some (.lst xs) ∧ H b = some (.lst zs) ∧ xs.length + zs.length ≤ sizeLine ∧ ∀ p, H p = none → Q (.ref p) (upd H p (.lst (xs ++ zs)))
theorem op_cat : OpR X (binaryOp .Add) rCat := by
  intro pins s σ H x y v u Q I rx ry h
  obtain ⟨l, b, xs, zs, rfl, rfl, hH, hB, hz, q⟩ := h
  cases rx
  cases ry
  obtain ⟨z, its, n, r, hl, e⟩ := I.lstM hH
  obtain ⟨z2, its2, n2, r2, hl2, e2⟩ := I.lstM hB
  refine PySem.P.add_list e e2 ?_ (by rw [List.size_toArray, List.size_toArray]; omega)
  have ea : its.toArray ++ its2.toArray = (its ++ its2).toArray := by simp
  rw [ea]
  exact ⟨.ref _, _, I.lnew (t' := s.toks) (r.append r2) (by rw [List.length_append]; omega), rfl, q _ I.fresh⟩
/-! ### del xs[i] -/
end

/-! ### xs[a:b] = ys -/
section
variable {prog : Program} {w : World} {A : Around} {E : Value → Shared → Prop} {s : Shared}
end

section
variable {X : Cx}
end
end L2

namespace L2
open PySem PySem.Spec PyProof.Rows

theorem Vals.ints : ∀ {ns : List Int} {us : List Value}, Vals (ns.map V.int) us → IntsAre us ns
  | [], us, h => by
    rw [List.map_nil] at h
    cases h
    exact IntsAre.nil
  | n :: ns, us, h => by
    rw [List.map_cons] at h
    cases h with
    | cons r t =>
      obtain ⟨k, rfl⟩ := r
      exact IntsAre.cons n k (Vals.ints t)
theorem vals_of_ints : ∀ {us : List Value} {ns : List Int}, IntsAre us ns → Vals (ns.map V.int) us
  | _, _, .nil => by rw [List.map_nil]; exact Paired.nil
  | _, _, .cons n t h => by rw [List.map_cons]; exact Paired.cons (show RelV (V.int n) (Value.int n t) from ⟨t, rfl⟩) (vals_of_ints h)
theorem Vals.bls : ∀ {bs : List Bool} {us : List Value}, Vals (bs.map V.bl) us → us = bs.map Value.bool
  | [], us, h => by
    rw [List.map_nil] at h
    cases h
    rfl
  | b :: bs, us, h => by
    rw [List.map_cons] at h
    cases h with
    | cons r t =>
      cases r
      rw [Vals.bls t, List.map_cons]
theorem Vals.ref1 {a : Addr} {us : List Value} (r : Vals [V.ref a] us) : us = [Value.ref a] := by
  cases r with
  | cons r t =>
    cases t
    cases r
    rfl
/-! ### the library's walks over a list of ints, kept objects alone -/
section
variable {prog : Program} {w : World} {A : Around} {E : Value → Shared → Prop} {s : Shared} {l : Addr} {its : List Value} {ns : List Int} {Q : Value → Shared → Prop}
theorem sum_raw (hh : A.handled = none) (hl : s.heap.IsList l its.toArray) (hi : IntsAre its ns)
    (h : ∀ h' tk t', (∀ b o, s.heap.get? b = some o → h'.get? b = some o) → Q (.int ns.sum t') { s with heap := h', toks := tk }) : wpAny (model prog w) A (call (.builtin "sum") [.ref l]) Q E s := by
  obtain ⟨xs, e⟩ := hi.allInts.items
  have hn : numsOf (intItems xs).toList = ns := by rw [← e]; exact hi.numsOf
  rw [nums_intItems] at hn
  rw [e] at hl
  refine PySem.sum_intListG hh hl fun h' tk t' hk => ?_
  have := h h' tk t' hk
  rw [preSum_eq, List.take_of_length_le (by simp), hn]; exact this
theorem max_raw (hh : A.handled = none) (hl : s.heap.IsList l its.toArray) (hi : IntsAre its ns) (hne : 0 < ns.length)
    (h : ∀ h' tk M t', (∀ b o, s.heap.get? b = some o → h'.get? b = some o) → M ∈ ns → (∀ a, a ∈ ns → a ≤ M) → Q (.int M t') { s with heap := h', toks := tk }) : wpAny (model prog w) A (call (.builtin "max") [.ref l]) Q E s := by
  obtain ⟨xs, e⟩ := hi.allInts.items
  have hn : numsOf (intItems xs).toList = ns := by rw [← e]; exact hi.numsOf
  rw [nums_intItems] at hn
  subst hn
  rw [e] at hl
  have hsz : 0 < xs.size := by simpa using hne
  refine PySem.max_intList hh hl hsz fun v h' tk hv hk => ?_
  obtain ⟨t, rfl⟩ := intItems_at hv
  obtain ⟨h1, h2⟩ := argBest_gt (numAt xs) (xs.size - 1)
  refine h h' tk _ t hk ?_ fun a ha => ?_
  · rw [numAt_eq]; exact PySem.getD_mem (by rw [List.length_map, Array.length_toList]; omega)
  · obtain ⟨j, hj, rfl⟩ := mem_getD ha
    rw [List.length_map, Array.length_toList] at hj
    rw [← numAt_eq]; exact h2 j (by omega)
theorem min_raw (hh : A.handled = none) (hl : s.heap.IsList l its.toArray) (hi : IntsAre its ns) (hne : 0 < ns.length)
    (h : ∀ h' tk M t', (∀ b o, s.heap.get? b = some o → h'.get? b = some o) → M ∈ ns → (∀ a, a ∈ ns → M ≤ a) → Q (.int M t') { s with heap := h', toks := tk }) : wpAny (model prog w) A (call (.builtin "min") [.ref l]) Q E s := by
  obtain ⟨xs, e⟩ := hi.allInts.items
  have hn : numsOf (intItems xs).toList = ns := by rw [← e]; exact hi.numsOf
  rw [nums_intItems] at hn
  subst hn
  rw [e] at hl
  have hsz : 0 < xs.size := by simpa using hne
  refine PySem.min_intList hh hl hsz fun v h' tk hv hk => ?_
  obtain ⟨t, rfl⟩ := intItems_at hv
  obtain ⟨h1, h2⟩ := argBest_lt (numAt xs) (xs.size - 1)
  refine h h' tk _ t hk ?_ fun a ha => ?_
  · rw [numAt_eq]; exact PySem.getD_mem (by rw [List.length_map, Array.length_toList]; omega)
  · obtain ⟨j, hj, rfl⟩ := mem_getD ha
    rw [List.length_map, Array.length_toList] at hj
    rw [← numAt_eq]; exact h2 j (by omega)
end

/-! ### the calls, by values (CallR of 03t; MtR of 06l) -/
section
variable {X : Cx}
/-- sum(xs) of a list of ints -/
def rSum (K : PySem.W.Frag) : List V → Hp → VK → Prop := fun vs H Q => ∃ (a : Addr) (ns : List Int), vs = [V.ref a] ∧ SqL K H a (ns.map V.int) ∧ Q (.int ns.sum) H
/-- max(xs), min(xs) of a list of ints -/
def rMax (K : PySem.W.Frag) : List V → Hp → VK → Prop := fun vs H Q => ∃ (a : Addr) (ns : List Int), vs = [V.ref a] ∧ SqL K H a (ns.map V.int) ∧ 0 < ns.length ∧ ∀ m, m ∈ ns → (∀ y, y ∈ ns → y ≤ m) → Q (.int m) H
def rMin (K : PySem.W.Frag) : List V → Hp → VK → Prop := fun vs H Q => ∃ (a : Addr) (ns : List Int), vs = [V.ref a] ∧ SqL K H a (ns.map V.int) ∧ 0 < ns.length ∧ ∀ m, m ∈ ns → (∀ y, y ∈ ns → m ≤ y) → Q (.int m) H
theorem cr_sum (hc : X.calm = true) : CallR X (.builtin "sum") (rSum X.K) := by
  intro pins s σ H vs us Q I r h
  obtain ⟨a, ns, rfl, hs, q⟩ := h
  obtain ⟨its, rv, hl, _⟩ := I.list hs
  rw [Vals.ref1 r]
  exact sum_raw (I.ok.hd hc) hl.isList rv.ints fun h' tk t' hk => ⟨.int _, H, I.kept hk, ⟨_, rfl⟩, q⟩
theorem cr_max (hc : X.calm = true) : CallR X (.builtin "max") (rMax X.K) := by
  intro pins s σ H vs us Q I r h
  obtain ⟨a, ns, rfl, hs, hne, q⟩ := h
  obtain ⟨its, rv, hl, _⟩ := I.list hs
  rw [Vals.ref1 r]
  exact max_raw (I.ok.hd hc) hl.isList rv.ints hne fun h' tk m t' hk h1 h2 => ⟨.int _, H, I.kept hk, ⟨_, rfl⟩, q m h1 h2⟩
theorem cr_min (hc : X.calm = true) : CallR X (.builtin "min") (rMin X.K) := by
  intro pins s σ H vs us Q I r h
  obtain ⟨a, ns, rfl, hs, hne, q⟩ := h
  obtain ⟨its, rv, hl, _⟩ := I.list hs
  rw [Vals.ref1 r]
  exact min_raw (I.ok.hd hc) hl.isList rv.ints hne fun h' tk m t' hk h1 h2 => ⟨.int _, H, I.kept hk, ⟨_, rfl⟩, q m h1 h2⟩

/-! sorted, sort (fewer than 64 items: the library's own bound) -/
def rSorted (K : PySem.W.Frag) : List V → Hp → VK → Prop := fun vs H Q => ∃ (a : Addr) (ns : List Int), vs = [V.ref a] ∧ SqL K H a (ns.map V.int) ∧ ns.length < 64 ∧
  ∀ (ns' : List Int) (p : Addr), ns'.Perm ns → ns'.Pairwise (· ≤ ·) → H p = none → Q (.ref p) (upd H p (.lst (ns'.map V.int)))
theorem small64 {n : Nat} (h : n < 64) : n ≤ sizeLine := by rw [sizeLine_eq]; omega
theorem cr_sorted : CallR X (.builtin "sorted") (rSorted X.K) := by
  intro pins s σ H vs us Q I r h
  obtain ⟨a, ns, rfl, hs, h64, q⟩ := h
  obtain ⟨its, rv, hl, _⟩ := I.list hs
  rw [Vals.ref1 r]
  have hi := rv.ints
  refine PyProof.Rows.sorted_ints hl.isList hi (by rw [hi.length]; exact h64) fun out ns' h1 h2 h3 => ?_
  obtain ⟨ep, he'⟩ := PyProof.Rows.sortedAll_at s.heap its out
  have hlen : (ns'.map V.int).length ≤ sizeLine := by rw [List.length_map, h2.length_eq]; exact small64 h64
  exact ⟨.ref _, upd H (s.heap.objs.size + 1) (.lst (ns'.map V.int)), I.laid (t' := s.toks) (fun _ _ => PyProof.Rows.sortedAll_old) (Nat.le_succ _) ⟨hlen, out.toList, ep, vals_of_ints h1, he'⟩, rfl, q ns' _ h2 h3 (I.hok.fresh (Nat.le_succ _))⟩
end

/-! ### list.index, flat items -/
section
variable {X : Cx}
def rIndex (K : PySem.W.Frag) : V → List V → Hp → VK → Prop := fun x xs H Q => ∃ (a : Addr) (ys : List V) (y : V) (j : Nat) (z : V), x = V.ref a ∧ xs = [y] ∧ SqL K H a ys ∧ flatV y = true ∧ ys.all flatV = true ∧ ys[j]? = some z ∧ eqV z y = true ∧
  (∀ (m : Nat) (z' : V), m < j → ys[m]? = some z' → eqV z' y = false) ∧ Q (.int (j : Nat)) H
theorem flat_at {ys : List V} (f : ys.all flatV = true) {j : Nat} {z : V} (h : ys[j]? = some z) : flatV z = true := List.all_eq_true.mp f z (List.mem_of_getElem? h)
theorem mt_index : MtR X "list.index" (rIndex X.K) := by
  intro pins s σ H x xs v us Q I rx rxs h
  obtain ⟨a, ys, y, j, z, rfl, rfl, hs, fy, fys, hz, hzj, hno, q⟩ := h
  cases rx
  cases rxs with
  | cons ry rt =>
    rename_i uy ut
    cases rt
    obtain ⟨its, rv, ⟨⟨cls, dd, data, sl⟩, n, ho, hc, hdn, hd⟩, hlen⟩ := I.list hs
    simp only at hc hd
    subst hc hd
    obtain ⟨u, hu, ru⟩ := rv.get hz
    obtain ⟨hjl, hje⟩ := List.getElem?_eq_some_iff.mp hu
    have hvl := rv.length
    have hj : j < its.toArray.size := by simpa using hjl
    have hsl := sizeLine_eq
    refine call_meets PySem.F.slot_list_index ⟨_, ho, rfl⟩ PySem.F.entry_list_index (PySem.F.args_list_index_2 _ _)
      (SeqAt.list_indexAt a its.toArray n dd sl uy (eqU y) j hj (by omega) ?_ ?_) ⟨ho, fun u' hu' => mem_eqAt ry fy rv fys u' (by simpa using hu'), ?_⟩
    · have e1 : its.toArray[j] = u := by simpa using hje
      rw [e1, eqU_of ru (flat_at fys hz)]
      exact hzj
    · intro m hm hmj
      have hml : m < its.length := by simpa using hm
      have hmy : m < ys.length := by omega
      have hy' : ys[m]? = some ys[m] := List.getElem?_eq_getElem hmy
      obtain ⟨u2, hu2, ru2⟩ := rv.get hy'
      obtain ⟨_, hme⟩ := List.getElem?_eq_some_iff.mp hu2
      have e1 : its.toArray[m] = u2 := by simpa using hme
      rw [e1, eqU_of ru2 (flat_at fys hy')]
      exact hno m _ hmj hy'
    · exact ⟨.int (j : Nat), H, I.tok _, ⟨_, rfl⟩, q⟩
end

/-! ### type(x) of an own instance; is, is not of a module's class -/
section
variable {X : Cx}
end

/-! ### any(xs), all(xs) of a list of bools -/
theorem iter_any {prog : Program} {w : World} {A : Around} {E : Value → Shared → Prop} {s : Shared} {l : Addr} {items : Array Value} {Q : Value → Shared → Prop} (hl : s.heap.IsList l items)
    (h : ∀ s₂ : Shared, s₂ = { s with heap := s.heap.push { cls := .type "list_iterator", data := .fields #[.ref l, .int 0 0] } } →
      (s₂.heap.IsListIter s.heap.objs.size l 0 ∧ s₂.heap.IsList l items) → l ≠ s.heap.objs.size → Q (.ref s.heap.objs.size) s₂) : wpAny (model prog w) A (pyIter (.ref l)) Q E s := by
  have hlt : l < s.heap.objs.size := by obtain ⟨_, e, _⟩ := hl; exact Heap.lt_size e
  exact wpAny_pyIter_list hl (h _ rfl ⟨⟨_, Heap.get?_push_size _ rfl, rfl, rfl⟩, hl.push _⟩ (Nat.ne_of_lt hlt))
theorem truth_bools {prog : Program} {w : World} {A : Around} {bs : List Bool} {its : List Value} (e : its = bs.map Value.bool) :
    TruthOf prog w A (fun i v => its.toArray[i]? = some v) (fun i => bs.getD i false) := fun i v s Q E hv hq => by
  have hv' : its[i]? = some v := by simpa using hv
  rw [e, List.getElem?_map] at hv'
  obtain ⟨b, hb, rfl⟩ := Option.map_eq_some_iff.mp hv'
  have hg : bs.getD i false = b := by rw [List.getD_eq_getElem?_getD, hb] <;> rfl
  have hq' : Q (bs.getD i false) s := hq
  rw [hg] at hq'
  exact wpAny_truthy_bool hq'
theorem all_range : ∀ bs : List Bool, (List.range bs.length).all (fun i => bs.getD i false) = bs.all id
  | [] => rfl
  | b :: bs => by
    rw [List.length_cons, List.range_succ_eq_map, List.all_cons, List.all_map, List.all_cons, ← all_range bs]
    all_goals rfl
section
variable {X : Cx}
def rAll (K : PySem.W.Frag) : List V → Hp → VK → Prop := fun vs H Q => ∃ (a : Addr) (bs : List Bool), vs = [V.ref a] ∧ SqL K H a (bs.map V.bl) ∧ Q (.bl (bs.all id)) H
theorem cr_all (hc : X.calm = true) : CallR X (.builtin "all") (rAll X.K) := by
  intro pins s σ H vs us Q I r h
  obtain ⟨a, bs, rfl, hs, q⟩ := h
  obtain ⟨its, rv, hl, _⟩ := I.list hs
  rw [Vals.ref1 r]
  have hb := rv.bls
  refine call_all_walk (iter_any hl.isList fun s₂ e2 st hne => ?_)
  subst e2
  refine ⟨_, _, _, _, _, _, _, rfl, Walks.list (A := X.A.in1) (I.ok.hd hc) _ a hne its.toArray, st, truth_bools hb, fun h' tk hk => ?_⟩
  refine ⟨.bl _, H, I.kept fun b o eo => hk b o (fun hmem => ?_) (Heap.get?_push_of_some _ eo), ?_, q⟩
  · rcases List.mem_cons.mp hmem with e1 | hmem
    · exact absurd (e1 ▸ Heap.lt_size eo) (Nat.lt_irrefl _)
    · cases hmem
  · show Value.bool _ = Value.bool _
    rw [← all_range, hb, List.size_toArray, List.length_map]
end

/-! ### == and != of data at any depth: none, bools, ints, texts, lists, tuples -/
mutual
inductive Dp (K : PySem.W.Frag) (H : Hp) : V → PyData → Prop
  | non : Dp K H .non .none
  | bl (b : Bool) : Dp K H (.bl b) (.bool b)
  | int (i : Int) : Dp K H (.int i) (.int i)
  | str (x : Str) : Dp K H (.str x) (.str x)
  | lst {a : Addr} {xs : List V} {ds : List PyData} : SqL K H a xs → DpAll K H xs ds → Dp K H (.ref a) (.list ds)
  | tup {a : Addr} {xs : List V} {ds : List PyData} : SqT K H a xs → DpAll K H xs ds → Dp K H (.ref a) (.tuple ds)
inductive DpAll (K : PySem.W.Frag) (H : Hp) : List V → List PyData → Prop
  | nil : DpAll K H [] []
  | cons {v : V} {vs : List V} {d : PyData} {ds : List PyData} : Dp K H v d → DpAll K H vs ds → DpAll K H (v :: vs) (d :: ds)
end
section
variable {X : Cx} {pins : List (Addr × Obj)} {σ : St} {H : Hp} {s : Shared}
mutual
theorem Dp.reads (I : Inv X pins σ H s) : ∀ (d : PyData) (v : V) (u : Value), Dp X.K H v d → RelV v u → ∃ as, Reads s.heap u d as
  | .none, _, _, h, r => by
    cases h
    cases r
    exact ⟨_, Reads.none⟩
  | .bool b, _, _, h, r => by
    cases h
    cases r
    exact ⟨_, Reads.bool b⟩
  | .int i, _, _, h, r => by
    cases h
    obtain ⟨t, rfl⟩ := r
    exact ⟨_, Reads.int i t⟩
  | .str x, _, _, h, r => by
    cases h
    obtain ⟨t, rfl⟩ := r
    exact ⟨_, Reads.str x t⟩
  | .list ds, _, _, h, r => by
    cases h with
    | lst hs ha =>
      cases r
      obtain ⟨its, rv, ⟨o, n, ho, hc, _, hd⟩, _⟩ := I.list hs
      obtain ⟨as, hr⟩ := Dp.readsAll I ds _ its ha rv
      exact ⟨_, Reads.list ho hc hd hr⟩
  | .tuple ds, _, _, h, r => by
    cases h with
    | tup hs ha =>
      cases r
      obtain ⟨its, rv, ⟨o, ho, hc, n, hd⟩, _⟩ := I.tuple hs
      obtain ⟨as, hr⟩ := Dp.readsAll I ds _ its ha rv
      exact ⟨_, Reads.tuple ho hc hd hr⟩
  | .dict _, _, _, h, _ => by cases h
theorem Dp.readsAll (I : Inv X pins σ H s) : ∀ (ds : List PyData) (vs : List V) (us : List Value), DpAll X.K H vs ds → Vals vs us → ∃ as, ReadsAll s.heap us ds as
  | [], _, _, h, r => by
    cases h
    cases r
    exact ⟨_, ReadsAll.nil⟩
  | d :: ds, _, _, h, r => by
    cases h with
    | cons h1 h2 =>
      cases r with
      | cons r1 r2 =>
        obtain ⟨as, q1⟩ := Dp.reads I d _ _ h1 r1
        obtain ⟨bs, q2⟩ := Dp.readsAll I ds _ _ h2 r2
        exact ⟨_, ReadsAll.cons q1 q2⟩
end
end
section
variable {X : Cx}
def rEqD (K : PySem.W.Frag) : R2 := fun x y H Q => ∃ d e, Dp K H x d ∧ Dp K H y e ∧ SeqAt.shaped d = true ∧ SeqAt.shaped e = true ∧ Q (.bl (PyData.eqv d e)) H
def rNeD (K : PySem.W.Frag) : R2 := fun x y H Q => ∃ d e, Dp K H x d ∧ Dp K H y e ∧ SeqAt.shaped d = true ∧ SeqAt.shaped e = true ∧ Q (.bl (!PyData.eqv d e)) H
theorem op_eqD (hu : X.A.units + 64 < cLine) : OpR X (compareOp .Eq) (rEqD X.K) := by
  intro pins s σ H x y v u Q I rx ry h
  obtain ⟨d, e, hd, he, sd, se, q⟩ := h
  obtain ⟨as, r1⟩ := Dp.reads I d x v hd rx
  obtain ⟨bs, r2⟩ := Dp.reads I e y u he ry
  exact SeqAt.compareEq_shaped r1 r2 sd se hu ⟨.bl _, H, I, rfl, q⟩
theorem op_neD (hu : X.A.units + 64 < cLine) : OpR X (compareOp .NotEq) (rNeD X.K) := by
  intro pins s σ H x y v u Q I rx ry h
  obtain ⟨d, e, hd, he, sd, se, q⟩ := h
  obtain ⟨as, r1⟩ := Dp.reads I d x v hd rx
  obtain ⟨bs, r2⟩ := Dp.reads I e y u he ry
  exact SeqAt.compareNe_shaped r1 r2 sd se hu ⟨.bl _, H, I, rfl, q⟩
end
end L2

namespace L2
open PySem PySem.Spec PyProof.Rows
abbrev CellAt (h : Heap) (c : Addr) (v : Option Value) : Prop := h.IsCell c v
def relS (scope sc : Scope) : Scope :=
  { scope with names := scope.names.map fun (n, k) => if (k == .free && sc.kind == .function && sc.names.lookup n == some .cell) then (n, .cell) else (n, k) }

def cloFrom (cells : List (Str × Addr)) : List (Str × NameKind) → List (Str × Addr) → List (Str × Addr)
  | [], acc => acc
  | (n, k) :: r, acc => if k == .free then cloFrom cells r ((n, (cells.lookup n).getD 0) :: acc) else cloFrom cells r acc

theorem closure_loop (env : Env) (f : Str × NameKind → List (Str × Addr) → Sem (ForInStep (List (Str × Addr))))
    (hf : ∀ n k c, f (n, k) c = if k == .free then (do let a ← cellOf env n; pure (.yield ((n, a) :: c))) else pure (.yield c)) :
    ∀ (names : List (Str × NameKind)) (acc : List (Str × Addr)), (∀ y ∈ names, y.2 = .free → ∃ c, env.cells.lookup y.1 = some c) → forIn names acc f = pure (cloFrom env.cells names acc)
  | [], acc, _ => by rw [List.forIn_nil]; rfl
  | (n, k) :: r, acc, h => by
    rw [List.forIn_cons, hf]
    have ih := fun acc => closure_loop env f hf r acc fun y hy => h y (List.mem_cons_of_mem _ hy)
    unfold cloFrom
    by_cases hk : (k == NameKind.free) = true
    · rw [if_pos hk, if_pos hk]
      obtain ⟨c, hc⟩ := h (n, k) List.mem_cons_self (by simpa using hk)
      have e : cellOf env n = pure c := by unfold cellOf; rw [hc]
      rw [e]
      have e2 : (env.cells.lookup n).getD 0 = c := by rw [hc]; rfl
      rw [e2]
      exact ih _
    · rw [if_neg hk, if_neg hk]
      exact ih _
theorem closure_ok {scope : Scope} {env : Env} (h : ∀ y ∈ scope.names, y.2 = .free → ∃ c, env.cells.lookup y.1 = some c) : closureFor scope env = pure (cloFrom env.cells scope.names []) := by
  simp only [closureFor]
  rw [closure_loop env _ (fun n k c => rfl) scope.names [] h]
  rfl

theorem mem_lookup {α : Type} : ∀ {l : List (Str × α)} {n : Str} {c : α}, (n, c) ∈ l → ∃ c', l.lookup n = some c'
  | (k, v) :: r, n, c, h => by
    rw [List.lookup_cons]
    cases hb : n == k with
    | true => exact ⟨_, rfl⟩
    | false =>
      rcases List.mem_cons.mp h with e | h
      · cases e; simp at hb
      · exact mem_lookup h

theorem cloFrom_mem {cells : List (Str × Addr)} : ∀ {names : List (Str × NameKind)} {acc : List (Str × Addr)} {n : Str} {c : Addr}, (n, c) ∈ cloFrom cells names acc → (n, c) ∈ acc ∨ ((n, .free) ∈ names ∧ c = (cells.lookup n).getD 0)
  | [], _, _, _, h => .inl h
  | (m, k) :: r, acc, n, c, h => by
    unfold cloFrom at h
    split at h
    · rename_i hk
      have hk : k = .free := by simpa using hk
      rcases cloFrom_mem h with h | ⟨h1, h2⟩
      · rcases List.mem_cons.mp h with e | h
        · cases e; exact .inr ⟨hk ▸ List.mem_cons_self, rfl⟩
        · exact .inl h
      · exact .inr ⟨List.mem_cons_of_mem _ h1, h2⟩
    · rcases cloFrom_mem h with h | ⟨h1, h2⟩
      · exact .inl h
      · exact .inr ⟨List.mem_cons_of_mem _ h1, h2⟩
theorem cloFrom_acc {cells : List (Str × Addr)} : ∀ {names : List (Str × NameKind)} {acc : List (Str × Addr)} {p : Str × Addr}, p ∈ acc → p ∈ cloFrom cells names acc
  | [], _, _, h => h
  | (m, k) :: r, acc, p, h => by
    unfold cloFrom
    split
    · exact cloFrom_acc (List.mem_cons_of_mem _ h)
    · exact cloFrom_acc h
theorem cloFrom_has {cells : List (Str × Addr)} : ∀ {names : List (Str × NameKind)} {acc : List (Str × Addr)} {n : Str}, (n, .free) ∈ names → (n, (cells.lookup n).getD 0) ∈ cloFrom cells names acc
  | (m, k) :: r, acc, n, h => by
    unfold cloFrom
    rcases List.mem_cons.mp h with e | h
    · cases e
      exact cloFrom_acc List.mem_cons_self
    · split
      · exact cloFrom_has h
      · exact cloFrom_has h

theorem cells_mem : ∀ {names : List (Str × NameKind)} {h : Heap} {acc : List (Str × Addr)} {x : Str} {c : Addr}, (x, c) ∈ cellsFrom h.objs.size names acc →
    (x, c) ∈ acc ∨ ((x, .cell) ∈ names ∧ h.objs.size ≤ c ∧ CellAt (pushCells h names) c none)
  | [], _, _, _, _, h => .inl h
  | (n, k) :: r, h, acc, x, c, hm => by
    unfold cellsFrom at hm
    unfold pushCells
    split at hm
    · rename_i hk
      rw [if_pos hk]
      have hk : k = .cell := by simpa using hk
      rw [← Heap.size_push h { cls := .type "cell", data := .cell none }] at hm
      rcases cells_mem hm with hm | ⟨h1, h2, h3⟩
      · rcases List.mem_cons.mp hm with e | hm
        · cases e
          exact .inr ⟨hk ▸ List.mem_cons_self, Nat.le_refl _, _, pushCells_keeps r _ _ _ (Heap.get?_push_size _ rfl), rfl⟩
        · exact .inl hm
      · rw [Heap.size_push] at h2
        exact .inr ⟨List.mem_cons_of_mem _ h1, Nat.le_of_succ_le h2, h3⟩
    · rename_i hk
      rw [if_neg hk]
      rcases cells_mem hm with hm | ⟨h1, h2, h3⟩
      · exact .inl hm
      · exact .inr ⟨List.mem_cons_of_mem _ h1, h2, h3⟩
theorem cells_acc : ∀ {names : List (Str × NameKind)} {n : Nat} {acc : List (Str × Addr)} {p : Str × Addr}, p ∈ acc → p ∈ cellsFrom n names acc
  | [], _, _, _, h => h
  | (m, k) :: r, n, acc, p, h => by
    unfold cellsFrom
    split
    · exact cells_acc (List.mem_cons_of_mem _ h)
    · exact cells_acc h
theorem cells_has : ∀ {names : List (Str × NameKind)} {n : Nat} {acc : List (Str × Addr)} {x : Str}, (x, .cell) ∈ names → ∃ c, (x, c) ∈ cellsFrom n names acc
  | (m, k) :: r, n, acc, x, h => by
    unfold cellsFrom
    rcases List.mem_cons.mp h with e | h
    · cases e
      exact ⟨n, cells_acc List.mem_cons_self⟩
    · split
      · exact cells_has h
      · exact cells_has h
theorem cells_inj : ∀ {names : List (Str × NameKind)} {h : Heap} {acc : List (Str × Addr)} {x y : Str} {c : Addr}, (∀ p ∈ acc, p.2 < h.objs.size) → (∀ x y c, (x, c) ∈ acc → (y, c) ∈ acc → x = y) →
    (x, c) ∈ cellsFrom h.objs.size names acc → (y, c) ∈ cellsFrom h.objs.size names acc → x = y
  | [], _, _, _, _, _, _, hi, h1, h2 => hi _ _ _ h1 h2
  | (n, k) :: r, h, acc, x, y, c, hl, hi, h1, h2 => by
    unfold cellsFrom at h1 h2
    split at h1
    · rename_i hk
      rw [if_pos hk] at h2
      rw [← Heap.size_push h { cls := .type "cell", data := .cell none }] at h1 h2
      refine cells_inj (h := h.push _) (fun p hp => ?_) (fun x y c a b => ?_) h1 h2
      · rw [Heap.size_push]
        rcases List.mem_cons.mp hp with rfl | hp
        · exact Nat.lt_succ_self _
        · exact Nat.lt_succ_of_lt (hl p hp)
      · rcases List.mem_cons.mp a with e | a <;> rcases List.mem_cons.mp b with e' | b
        · cases e; cases e'; rfl
        · cases e; exact absurd (hl _ b) (Nat.lt_irrefl _)
        · cases e'; exact absurd (hl _ a) (Nat.lt_irrefl _)
        · exact hi _ _ _ a b
    · rename_i hk
      rw [if_neg hk] at h2
      exact cells_inj hl hi h1 h2

theorem newEnv_comp {M : Model} {A : Around} {E : Value → Shared → Prop} {s : Shared} {scope : Scope} {globals : Addr} {closure : List (Str × Addr)} {qual : Str} {func : Option Addr} {code : Value} {around : Env} {builtins : Addr} {Q : Env → Shared → Prop}
    (h : Q (newEnv scope s.heap.objs.size globals (cellsFrom (s.heap.objs.size + 1) scope.names closure) qual func code (some around) builtins)
      { s with heap := pushCells (s.heap.push { cls := .type "dict", data := .dict #[] }) scope.names }) :
    wpAny M A (newFunctionEnv scope globals closure [] qual func code (some around) builtins) Q E s := by
  simp only [newFunctionEnv, Option.isSome_some, if_true]
  refine wpAny_bind (wpAny_alloc ?_)
  refine wpAny_bind (wpAny_layCells _ (fun n k c => rfl) scope.names closure _ _ ?_)
  rw [show ({ s with heap := s.heap.push { cls := .type "dict", data := .dict #[] } } : Shared).heap.objs.size = s.heap.objs.size + 1 from Heap.size_push ..]
  rw [List.forIn_nil]
  exact wpAny_bind (wpAny_pure (wpAny_pure h))

/-- every name of the written scope, in the scope that runs -/
theorem lookup_relS {sc : Scope} : ∀ {names : List (Str × NameKind)} {x : Str} {k : NameKind},
    (names.map fun (n, k) => if (k == NameKind.free && sc.kind == .function && sc.names.lookup n == some .cell) then (n, NameKind.cell) else (n, k)).lookup x = some k →
    ∃ k', names.lookup x = some k' ∧ (k = k' ∨ (k' = .free ∧ k = .cell))
  | [], _, _, h => by simp at h
  | (n, k₀) :: r, x, k, h => by
    have ih := @lookup_relS sc r x k
    have h' : List.lookup x ((if (k₀ == NameKind.free && sc.kind == .function && sc.names.lookup n == some .cell) = true then (n, NameKind.cell) else (n, k₀)) :: (r.map _)) = some k := h
    cases hx : x == n with
    | true =>
      simp only [List.lookup_cons, hx]
      by_cases hc : (k₀ == NameKind.free && sc.kind == .function && sc.names.lookup n == some .cell) = true
      · rw [if_pos hc] at h'
        simp only [List.lookup_cons, hx] at h'
        cases h'
        simp only [Bool.and_eq_true, beq_iff_eq] at hc
        exact ⟨k₀, rfl, .inr ⟨hc.1.1, rfl⟩⟩
      · rw [if_neg hc] at h'
        simp only [List.lookup_cons, hx] at h'
        cases h'
        exact ⟨_, rfl, .inl rfl⟩
    | false =>
      simp only [List.lookup_cons, hx]
      by_cases hc : (k₀ == NameKind.free && sc.kind == .function && sc.names.lookup n == some .cell) = true
      · rw [if_pos hc] at h'
        simp only [List.lookup_cons, hx] at h'
        exact ih h'
      · rw [if_neg hc] at h'
        simp only [List.lookup_cons, hx] at h'
        exact ih h'
/-- the names of a comprehension's block: its own (with their places in N), or captured -/
structure BlkOk (N : List Str) (sc scope : Scope) (own : List (Str × Nat)) : Prop where
  kind : scope.kind = .function
  uniq : ∀ y ∈ scope.names, scope.names.lookup y.1 = some y.2
  ix : ∀ p ∈ own, N[p.2]? = some p.1
  free : ∀ y ∈ scope.names, y.2 = .free → sc.names.lookup y.1 = some .cell ∨ sc.names.lookup y.1 = some .free
  own : ∀ y ∈ scope.names, y.2 = .local ∨ y.2 = .cell → y.1 ∈ own.map (·.1) ∨ y.1 ∉ N
/-- the slots of the block's own names forgotten -/
def wipe (σ : St) : List Nat → St
  | [] => σ
  | v :: vs => (wipe σ vs).set v none
theorem wipe_length (σ : St) : ∀ vs : List Nat, (wipe σ vs).length = σ.length
  | [] => rfl
  | v :: vs => by unfold wipe; rw [List.length_set, wipe_length σ vs]
theorem wipe_some {σ : St} {i : Nat} {x : V} : ∀ {vs : List Nat}, (wipe σ vs)[i]? = some (some x) → σ[i]? = some (some x) ∧ i ∉ vs
  | [], h => ⟨h, by simp⟩
  | v :: vs, h => by
    unfold wipe at h
    by_cases hi : v = i
    · subst hi
      by_cases hv : v < (wipe σ vs).length
      · rw [List.getElem?_set_self hv] at h; cases h
      · rw [List.getElem?_eq_none (by simpa using hv)] at h; cases h
    · rw [List.getElem?_set_ne hi] at h
      obtain ⟨h1, h2⟩ := wipe_some h
      exact ⟨h1, by simp only [List.mem_cons, not_or]; exact ⟨fun e => hi e.symm, h2⟩⟩

/-- the context of a block that starts at s, its iterator's objects at fp -/
abbrev Cx.blk (X : Cx) (s : Shared) (H : Hp) (scope : Scope) (cenv : Env) (fp : List Addr) : Cx := { X with s_0 := s, H_0 := H, env := cenv, outer := X.stack, ex := fp, fn := fun x => scope.names.lookup x == some .cell, pn := [], xe := fun _ _ => False }
section
variable {X : Cx} {pins : List (Addr × Obj)} {σ : St} {H : Hp} {s : Shared}
theorem block_start {scope : Scope} {own : List (Str × Nat)} {fp : List Addr} (I : Inv X pins σ H s) (ok : BlkOk X.N X.env.scope scope own) (hN : X.N.Nodup) (hfp : ∀ b ∈ fp, FpOk X pins H b ∧ b < s.heap.objs.size) :
    Inv (X.blk s H scope (compEnvC scope (cellsFrom (s.heap.objs.size + 1) scope.names (cloFrom X.env.cells scope.names [])) s.heap.objs.size X.env) fp) [] (wipe σ (own.map (·.2))) H { s with heap := pushCells (s.heap.push { cls := .type "dict", data := .dict #[] }) scope.names } := by
  have hfree : ∀ y ∈ scope.names, y.2 = .free → ∃ c, X.env.cells.lookup y.1 = some c := fun y hy e => by
    rcases ok.free y hy e with k | k
    · exact I.ok.has _ (.inl k)
    · exact I.ok.has _ (.inr k)
  generalize hcenv : compEnvC scope (cellsFrom (s.heap.objs.size + 1) scope.names (cloFrom X.env.cells scope.names [])) s.heap.objs.size X.env = cenv
  have kp : ∀ b o, s.heap.get? b = some o → (pushCells (s.heap.push { cls := .type "dict", data := .dict #[] }) scope.names).get? b = some o := fun b o e => pushCells_keeps _ _ _ _ (Heap.get?_push_of_some _ e)
  have hL : cenv.locals = s.heap.objs.size := by rw [← hcenv]; rfl
  have hcl : cenv.cells = cellsFrom (s.heap.objs.size + 1) scope.names (cloFrom X.env.cells scope.names []) := by rw [← hcenv]; rfl
  have hsc : cenv.scope = relS scope X.env.scope := by rw [← hcenv]; rfl
  rw [← Heap.size_push s.heap { cls := .type "dict", data := .dict #[] }] at hcl
  have cm : ∀ {y c}, (y, c) ∈ cloFrom X.env.cells scope.names [] → X.env.cells.lookup y = some c ∧ c < s.heap.objs.size := fun {y c} hm => by
    rcases cloFrom_mem hm with hm | ⟨h1, rfl⟩
    · cases hm
    · obtain ⟨c, hc⟩ := hfree _ h1 rfl
      rw [hc]
      obtain ⟨w, z⟩ := I.cell _ _ hc
      exact ⟨rfl, z.lt⟩
  have mem : ∀ {y c}, cenv.cells.lookup y = some c → (X.env.cells.lookup y = some c ∧ c < s.heap.objs.size) ∨ (s.heap.objs.size + 1 ≤ c ∧ CellAt (pushCells (s.heap.push { cls := .type "dict", data := .dict #[] }) scope.names) c none) := fun {y c} e => by
    rw [hcl] at e
    rcases cells_mem (PySem.mem_of_lookup e) with hm | ⟨_, h2, h3⟩
    · exact .inl (cm hm)
    · rw [Heap.size_push] at h2; exact .inr ⟨h2, h3⟩
  have look : ∀ {y}, scope.names.lookup y = some .free → ∃ c, cenv.cells.lookup y = some c ∧ X.env.cells.lookup y = some c := fun {y} hl => by
    have hy : (y, NameKind.free) ∈ scope.names := PySem.mem_of_lookup hl
    obtain ⟨c', e'⟩ := mem_lookup (cells_acc (names := scope.names) (n := (s.heap.push { cls := .type "dict", data := .dict #[] }).objs.size) (cloFrom_has (cells := X.env.cells) (acc := []) hy))
    rw [← hcl] at e'
    refine ⟨c', e', ?_⟩
    rw [hcl] at e'
    rcases cells_mem (PySem.mem_of_lookup e') with hm | ⟨h1, _, _⟩
    · exact (cm hm).1
    · have := ok.uniq _ h1
      rw [hl] at this; cases this
  have okB : (X.blk s H scope cenv fp).Ok := by
    refine ⟨I.ok.mod, by show cenv.scope.kind = _; rw [hsc]; exact ok.kind, by show cenv.globals = _; rw [← hcenv]; exact I.ok.glob, by show cenv.builtins = _; rw [← hcenv]; exact I.ok.blt, by show s.heap.objs.size ≤ cenv.locals; rw [hL]; exact Nat.le_refl _,
      fun y z c e1 e2 => ?_, fun y hy => ?_, fun y c z e => ?_, I.ok.hd, I.ok.frames, .inl rfl, fun b hb => ⟨?_, fun y c e z => ?_⟩, I.bs, Nat.le_trans I.ok.bsz I.sz, fun b o e hb => ?_, fun b hb z => ?_, I.stack, I.stkFree⟩
    · have e1 : cenv.cells.lookup y = some c := e1
      have e2 : cenv.cells.lookup z = some c := e2
      rw [hcl] at e1 e2
      refine cells_inj (fun p hp => ?_) (fun y z c a b => I.ok.inj y z c (cm a).1 (cm b).1) (PySem.mem_of_lookup e1) (PySem.mem_of_lookup e2)
      rw [Heap.size_push]
      exact Nat.lt_succ_of_lt (cm (y := p.1) (c := p.2) hp).2
    · show ∃ c, cenv.cells.lookup y = some c
      have key : ∀ k, cenv.kindOf y = some k → (k = .cell ∨ k = .free) → ∃ c, cenv.cells.lookup y = some c := fun k hk hk' => by
        unfold Env.kindOf at hk
        rw [hsc] at hk
        obtain ⟨k', e, r⟩ := lookup_relS hk
        have : k' = .cell ∨ k' = .free := by
          rcases r with rfl | ⟨rfl, _⟩
          · exact hk'
          · exact .inr rfl
        rcases this with rfl | rfl
        · obtain ⟨c, hm⟩ := cells_has (n := (s.heap.push { cls := .type "dict", data := .dict #[] }).objs.size) (acc := cloFrom X.env.cells scope.names []) (PySem.mem_of_lookup e)
          obtain ⟨c', e'⟩ := mem_lookup hm
          exact ⟨c', by rw [hcl]; exact e'⟩
        · obtain ⟨c, h1, _⟩ := look e
          exact ⟨c, h1⟩
      rcases hy with hy | hy
      · exact key _ hy (.inl rfl)
      · exact key _ hy (.inr rfl)
    · have z : (scope.names.lookup y == some NameKind.cell) = true := z
      have z : scope.names.lookup y = some .cell := by simpa using z
      have e : cenv.cells.lookup y = some c := e
      rw [hcl] at e
      rcases cells_mem (PySem.mem_of_lookup e) with hm | ⟨_, h2, _⟩
      · rcases cloFrom_mem hm with hm | ⟨h1, _⟩
        · cases hm
        · have q := ok.uniq _ h1
          rw [z] at q; cases q
      · rw [Heap.size_push] at h2
        exact Nat.le_of_succ_le h2
    · show b ≠ cenv.locals
      rw [hL]; exact Nat.ne_of_lt (hfp b hb).2
    · have e : cenv.cells.lookup y = some c := e
      rcases mem e with ⟨h1, _⟩ | ⟨h1, _⟩
      · exact (hfp b hb).1.2.2.2.2.1 y c h1 z
      · have h2 : s.heap.objs.size + 1 ≤ b := by rw [← z]; exact h1
        exact absurd (Nat.lt_of_lt_of_le (hfp b hb).2 (Nat.le_of_succ_le h2)) (Nat.lt_irrefl _)
    · rcases (hfp b hb).1.2.2.2.1 with z | z
      · exact I.ok.noex b o e z
      · exact absurd (Nat.lt_of_lt_of_le (Heap.lt_size e) (Nat.le_trans I.ok.bsz z)) (Nat.lt_irrefl _)
    · rcases List.mem_cons.mp (I.stkSub b z) with z | z
      · exact (hfp b hb).1.2.1 z
      · exact (hfp b hb).1.2.2.1 z
  refine ⟨okB, rfl, I.bare, Un.kept kp, ⟨fun _ => none, ?_, fun i y av e1 e2 e3 => ?_⟩, fun y c e => ?_, ?_, fun y c e => ?_, fun p hp => ?_, I.hok.kept kp, by rw [wipe_length]; exact I.len⟩
  · show Heap.Ns _ cenv.locals _
    rw [hL]
    exact Heap.Ns.keeps (Heap.Ns.new ..) fun b o e => pushCells_keeps _ _ _ _ e
  · obtain ⟨e2, hne⟩ := wipe_some e2
    have hfr : scope.names.lookup y = some .free ∧ (cenv.kindOf y = some .cell ∨ cenv.kindOf y = some .free) := by
      have key : ∀ k, cenv.scope.names.lookup y = some k → k = .local ∨ k = .cell ∨ k = .free → scope.names.lookup y = some .free ∧ (cenv.kindOf y = some .cell ∨ cenv.kindOf y = some .free) := fun k hk hk' => by
        have hk0 := hk
        rw [hsc] at hk
        obtain ⟨k', e, r⟩ := lookup_relS hk
        have no : ¬ (k' = .local ∨ k' = .cell) := fun hh => by
          rcases ok.own _ (PySem.mem_of_lookup e) hh with e' | e'
          · obtain ⟨p, hp, hpy⟩ := List.mem_map.mp e'
            have e3 := ok.ix p hp
            have : p.1 = y := hpy
            rw [this] at e3
            exact hne (List.mem_map.mpr ⟨p, hp, nodup_ix hN e3 e1⟩)
          · exact e' (List.mem_of_getElem? e1)
        rcases r with rfl | ⟨rfl, rfl⟩
        · rcases hk' with rfl | rfl | rfl
          · exact absurd (.inl rfl) no
          · exact absurd (.inr rfl) no
          · exact ⟨e, .inr hk0⟩
        · exact ⟨e, .inl hk0⟩
      have e3 : Vis cenv.scope y := e3
      rcases e3 with e3 | e3 | e3
      · exact key _ e3 (.inl rfl)
      · exact key _ e3 (.inr (.inl rfl))
      · exact key _ e3 (.inr (.inr rfl))
    obtain ⟨m, hn, hl⟩ := I.loc
    have hvis : Vis X.env.scope y := (ok.free _ (PySem.mem_of_lookup hfr.1) rfl).elim (fun k => .inr (.inl k)) (fun k => .inr (.inr k))
    obtain ⟨w, r, q⟩ := hl i y av e1 e2 hvis
    refine ⟨w, r, .inr ⟨hfr.2, ?_⟩⟩
    obtain ⟨c, h1, h2⟩ := look hfr.1
    rcases q with ⟨k, _⟩ | ⟨_, c', e', z⟩
    · have k : X.env.scope.names.lookup y = some .local := k
      rcases ok.free _ (PySem.mem_of_lookup hfr.1) rfl with k' | k' <;> rw [show X.env.scope.names.lookup y = _ from k'] at k <;> cases k
    · rw [h2] at e'; cases e'
      exact ⟨c, h1, z.keeps kp⟩
  · have e : cenv.cells.lookup y = some c := e
    rcases mem e with ⟨h1, _⟩ | ⟨_, z⟩
    · obtain ⟨w, z⟩ := I.cell y c h1
      exact ⟨w, z.keeps kp⟩
    · exact ⟨_, z⟩
  · show H cenv.locals = none
    rw [hL]; exact I.hok.fresh (Nat.le_refl _)
  · have e : cenv.cells.lookup y = some c := e
    rcases mem e with ⟨h1, _⟩ | ⟨h1, _⟩
    · exact I.freeC y c h1
    · exact I.hok.fresh (Nat.le_of_succ_le h1)
  · exact absurd (show p ∈ ([] : List (Addr × Obj)) ++ [] from hp) (by simp)

/-- an item appended to a tracked list -/
theorem app_ok {E : Value → Shared → Prop} {D : Addr} {xs : List V} {y : V} {v : Value} {Q : Value → Shared → Prop} (I : Inv X pins σ H s) (hD : H D = some (.lst xs)) (hz : xs.length < sizeLine) (r : RelV y v)
    (h : ∀ s', Inv X pins σ (upd H D (.lst (xs ++ [y]))) s' → Q .none s') : wpAny (model X.prog X.w) X.A (call (.builtin "list.append") [.ref D, v]) Q E s := by
  obtain ⟨hz', its, n, ri, e⟩ := I.hok D _ hD
  have hl := ri.length
  refine append_at (hsz := by rw [List.size_toArray]; omega) e fun h' sb ho' => ?_
  refine h { s with heap := h' } (I.write (t' := s.toks) (by rw [hD]; trivial) (.inl rfl) (fun b u hb q => (sb.2 b hb).trans q) ⟨_, ho'⟩ ⟨by rw [List.length_append]; exact hz, its ++ [v], n + 1, ri.append (.cons r .nil), ?_⟩)
  rw [ho']
  simp

/-- a clause's tests -/
def PTs (X : Cx) (ifs : List Expr) (t : TT) : Prop :=
  ∀ (pins : List (Addr × Obj)) (s : Shared) (σ : St) (H : Hp) (Q : Bool → Hp → Prop), Inv X pins σ H s → t σ H Q →
    wpAny (model X.prog X.w) X.A (forIn ifs true fun c r => if r = true then do let ok ← isTrue c X.env (eval c X.env); pure (ForInStep.yield ok) else pure (ForInStep.yield r)) (TP X pins σ Q) X.xe s
def tYes : TT := fun _ H Q => Q true H
theorem pts_nil : PTs X [] tYes := fun _ _ _ H _ I h => wpAny_tests_nil ⟨H, I, h⟩
theorem pts_one {c : Expr} {t : TT} (h : PT X c t) : PTs X [c] t := fun pins s σ H Q I hw => wpAny_tests_one (h pins s σ H Q I hw)
end

theorem thnF {α : Type} {t : Sem α} {Q Q' : α → Shared → Prop} {M : Model} {A : Around} {E : Value → Shared → Prop} {s : Shared} (h : wpAny M A t Q (fun _ _ => False) s) (hQ : ∀ a s, Q a s → Q' a s) : wpAny M A t Q' E s := wpAny_mono h hQ fun _ _ z => False.elim z

/-- the loop of a list comprehension's block, the target of any form (codeAny_compLoop_tests asks a target that no tuple goes to; statement and proof follow it, PyProof/CompMap.lean:41-61, with the step letOwnedTupleGo kept) -/
theorem compLoop_any {prog : Program} {w : World} {A : Around} {R : Result → Shared → Prop} {s : Shared} {elt target iter : Expr} {ifs : List Expr} {scope : Scope} {pos : Pos} {it acc : Value} {env : Env} (I : Nat → Shared → Prop)
    (turn : ∀ n s, I n s → wpAny (model prog w) A (pyNext it) (fun r s₁ => match r with
      | none => R (.ok .next) s₁
      | some v => wpAny (model prog w) A (letOwnedTupleGo target it v) (fun _ s₁' => wpAny (model prog w) A (assign target env v) (fun _ s₂ =>
          wpAny (model prog w) A (forIn ifs true fun c r => if r = true then do let ok ← isTrue c env (eval c env); pure (ForInStep.yield ok) else pure (ForInStep.yield r)) (fun ok s₃ =>
            if ok = true then wpAny (model prog w) A (eval elt env) (fun x s₄ =>
              wpAny (model prog w) A (call (.builtin "list.append") [acc, x]) (fun _ s₅ => ∃ m, m < n ∧ I m s₅) (notedBy (model prog w) A env fun e s' => R (.error e) s') s₄) (notedBy (model prog w) A env fun e s' => R (.error e) s') s₃
            else ∃ m, m < n ∧ I m s₃) (notedBy (model prog w) A env fun e s' => R (.error e) s') s₂) (notedBy (model prog w) A env fun e s' => R (.error e) s') s₁') (notedBy (model prog w) A env fun e s' => R (.error e) s') s₁) (notedBy (model prog w) A env fun e s' => R (.error e) s') s)
    (n : Nat) (h : I n s) :
    codeAny (model prog w) A (.compLoop (.ListComp elt [⟨target, iter, ifs, 0⟩] scope pos) 0 it acc env) R s := by
  refine codeAny_loop rfl I (fun n s hI => ?_) n h
  show wpAny _ A ((compTurn (.ListComp elt [⟨target, iter, ifs, 0⟩] scope pos) 0 it acc env).onRaise (fun x => do noteFrame x env; theTreesLotGoes x)) _ _ s
  refine wpAny_noted ?_
  rw [compTurn_list]
  refine wpAny_bind (wpAny_standAt (wpAny_bind (wpAny_mono (turn n s hI) (fun r s₁ h₁ => ?_) fun _ _ h' => h')))
  cases r with
  | none => exact wpAny_pure h₁
  | some v =>
    refine wpAny_bind (wpAny_mono h₁ (fun _ s₁' h₁' => ?_) fun _ _ h' => h')
    refine wpAny_bind (wpAny_mono h₁' (fun _ s₂ h₂ => wpAny_bind (wpAny_mono h₂ (fun ok s₃ h₃ => ?_) fun _ _ h' => h')) fun _ _ h' => h')
    cases ok with
    | false => exact wpAny_pure ⟨rfl, h₃⟩
    | true =>
      exact wpAny_bind (wpAny_bind (wpAny_mono h₃ (fun x s₄ h₄ => wpAny_bind (wpAny_mono h₄ (fun _ s₅ h₅ => wpAny_pure (wpAny_pure ⟨rfl, h₅⟩)) fun _ _ h' => h')) fun _ _ h' => h'))

section
variable {X : Cx}
/-- [elt for target in iter if ..]: D the new list; W by the turn and a measure, Nx what a turn is to reach -/
def tLc (wi : TI) (g : TG) (tt : TT) (te : TE) (vs : List Nat) : TE := fun σ H Q => wi σ H fun J H1 => ∀ D, H1 D = none → ∃ W : Nat → Nat → Hp → Prop, (∃ m, W 0 m (upd H1 D (.lst []))) ∧ ∀ i m H, W i m H →
  (J.stop i H ∧ Q (.ref D) H) ∨ (J.go i H ∧ ∃ Nx : Hp → Prop, (∀ H', Nx H' → ∃ m', m' < m ∧ W (i + 1) m' H') ∧ ∀ x H', J.yld i H x H' → g x (wipe σ vs) H' fun σ2 H2 => wipe σ2 vs = wipe σ vs ∧ tt σ2 H2 fun b H3 =>
    if b = true then te σ2 H3 fun y H4 => ∃ acc, H4 D = some (.lst acc) ∧ acc.length < sizeLine ∧ Nx (upd H4 D (.lst (acc ++ [y]))) else Nx H3)
theorem lc_core {pins : List (Addr × Obj)} {s : Shared} {σ : St} {H : Hp} {Q : VK} {elt tg iter : Expr} {ifs : List Expr} {scope : Scope} {own : List (Str × Nat)} {pos pos' : Pos} {wi : TI} {g : TG} {tt : TT} {te : TE} {use : Option (Value → Sem Unit)} {Qf : Value → Shared → Prop}
    (hc : X.calm = true) (hN : X.N.Nodup) (I : Inv X pins σ H s) (hi : PI X tg iter wi) (ok : BlkOk X.N X.env.scope scope own)
    (hg : ∀ (s : Shared) (H : Hp) (C : Addr) (cl : List (Str × Addr)) (fp : List Addr), PG (X.blk s H scope (compEnvC scope cl C X.env) fp) tg g) (ht : ∀ (s : Shared) (H : Hp) (C : Addr) (cl : List (Str × Addr)) (fp : List Addr), PTs (X.blk s H scope (compEnvC scope cl C X.env) fp) ifs tt)
    (he : ∀ (s : Shared) (H : Hp) (C : Addr) (cl : List (Str × Addr)) (fp : List Addr), PE (X.blk s H scope (compEnvC scope cl C X.env) fp) elt te) (hs : ∀ x, foldedSetIterable iter X.env x = pure x)
    (h : tLc wi g tt te (own.map (·.2)) σ H Q)
    (hRR : ∀ D C s' m H', Inv X pins σ H' s' → Q (.ref D) H' → s'.heap.Ns C m → FpOk X pins H' C → compPost (model X.prog X.w) X.A X.xe use Qf (.ref D) C (.ok .next) s') :
    wpAny (model X.prog X.w) X.A (comprehension (.ListComp elt [⟨tg, iter, ifs, 0⟩] scope pos) scope X.env pos' (newList []) false (eval iter X.env) use) Qf X.xe s := by
  have hfree : ∀ y ∈ scope.names, y.2 = .free → ∃ c, X.env.cells.lookup y.1 = some c := fun y hy e => by
    rcases ok.free y hy e with k | k
    · exact I.ok.has _ (.inl k)
    · exact I.ok.has _ (.inr k)
  refine wpAny_comprehension_free (use := use) rfl hs (closure_ok hfree) ok.kind (fun y hy e => by rw [ok.uniq y hy, e])
    (thn (hi pins s σ H _ I h) fun xv s1 hx => thn hx fun itv s2 h2 => ?_)
  obtain ⟨it, fp, tn, J, H2, e, I2, T, st2, f2, q⟩ := h2
  subst e
  refine wpAny_newObj_type (newEnv_comp ?_) (by show 0 ≤ sizeLine; decide)
  generalize hD : s2.heap.objs.size = D
  have hDn : H2 D = none := I2.hok.fresh (Nat.le_of_eq hD)
  obtain ⟨W, ⟨m0, w0⟩, turn⟩ := q D hDn
  -- the new list
  generalize hs3 : ({ s2 with heap := s2.heap.push { cls := .type "list", data := .seq ([] : List Value).toArray } } : Shared) = s3
  have I3 : Inv X pins σ (upd H2 D (.lst [])) s3 := by
    rw [← hs3]
    refine I2.laid (t' := s2.toks) (fun b o e => Heap.get?_push_of_some _ e) (Nat.le_of_eq hD) ⟨Nat.zero_le _, [], 0, .nil, ?_⟩
    rw [← hD]
    exact Heap.get?_push_size _ rfl
  have h3 : s3.heap = s2.heap.push { cls := .type "list", data := .seq ([] : List Value).toArray } := by rw [← hs3]
  have sz : ∀ b ∈ fp, b < s2.heap.objs.size := fun b hb => by
    obtain ⟨o, e, _⟩ := T.obj _ _ st2 b hb
    exact Heap.lt_size e
  have f3 : ∀ b ∈ fp, FpOk X pins (upd H2 D (.lst [])) b ∧ b < s3.heap.objs.size := fun b hb => by
    have hlt := sz b hb
    refine ⟨⟨?_, (f2 b hb).2⟩, by rw [h3, Heap.size_push]; exact Nat.lt_succ_of_lt hlt⟩
    rw [upd_ne (by rw [← hD]; exact Nat.ne_of_lt hlt)]
    exact (f2 b hb).1
  have st3 : tn 0 s3.heap := T.keep _ _ _ st2 fun b _ o e => by rw [h3]; exact Heap.get?_push_of_some _ e
  have I4 := block_start I3 ok hN f3
  have pg := hg s3 (upd H2 D (.lst [])) s3.heap.objs.size (cellsFrom (s3.heap.objs.size + 1) scope.names (cloFrom X.env.cells scope.names [])) fp
  have pt := ht s3 (upd H2 D (.lst [])) s3.heap.objs.size (cellsFrom (s3.heap.objs.size + 1) scope.names (cloFrom X.env.cells scope.names [])) fp
  have pe := he s3 (upd H2 D (.lst [])) s3.heap.objs.size (cellsFrom (s3.heap.objs.size + 1) scope.names (cloFrom X.env.cells scope.names [])) fp
  show codeAny _ _ (.compStart (.ListComp elt [⟨tg, iter, ifs, 0⟩] scope pos) 0 (.ref it) (.ref D) (compEnvC scope (cellsFrom (s3.heap.objs.size + 1) scope.names (cloFrom X.env.cells scope.names [])) s3.heap.objs.size X.env)) (compPost (model X.prog X.w) X.A X.xe use Qf (.ref D) s3.heap.objs.size) { s3 with heap := pushCells (s3.heap.push { cls := .type "dict", data := .dict #[] }) scope.names }
  have nfp : ∀ b ∈ fp, (upd H2 D (.lst [])) b = none := fun b hb => (f3 b hb).1.1
  generalize hce : compEnvC scope (cellsFrom (s3.heap.objs.size + 1) scope.names (cloFrom X.env.cells scope.names [])) s3.heap.objs.size X.env = ce at I4 pg pt pe ⊢
  have cL : ce.locals = s3.heap.objs.size := by subst hce; rfl
  generalize hH3 : upd H2 D (.lst []) = H3 at I3 I4 pg pt pe w0 nfp f3
  generalize hs4 : ({ s3 with heap := pushCells (s3.heap.push { cls := .type "dict", data := .dict #[] }) scope.names } : Shared) = s4 at I4 ⊢
  have st4 : tn 0 s4.heap := T.keep _ _ _ st3 fun b _ o e => by rw [← hs4]; exact pushCells_keeps _ _ _ _ (Heap.get?_push_of_some _ e)
  have stat : ∀ {σ' : St} {H' : Hp} {s' : Shared}, Inv (X.blk s3 H3 scope ce fp) [] σ' H' s' → (∀ b ∈ fp, H' b = none) → ∀ b ∈ fp, FpOk (X.blk s3 H3 scope ce fp) [] H' b := fun {σ' H' s'} I' hn b hb =>
    ⟨hn b hb, (I'.ok.exf b hb).1, I'.ok.exfs b hb, .inl hb, fun x c e => (I'.ok.exf b hb).2 x c e, fun p hp => absurd (show p ∈ ([] : List (Addr × Obj)) ++ [] from hp) (by simp)⟩
  have loop : codeAny (model X.prog X.w) X.A (.compLoop (.ListComp elt [⟨tg, iter, ifs, 0⟩] scope pos) 0 (.ref it) (.ref D) ce) (compPost (model X.prog X.w) X.A X.xe use Qf (.ref D) s3.heap.objs.size) s4 := by
    refine compLoop_any (fun n s' => ∃ i H', Inv (X.blk s3 H3 scope ce fp) [] (wipe σ (own.map (·.2))) H' s' ∧ tn i s'.heap ∧ (∀ b ∈ fp, H' b = none) ∧ W i n H') ?_ m0 ⟨0, H3, I4, st4, nfp, w0⟩
    rintro n s5 ⟨i, H5, I5, st5, n5, w5⟩
    rcases turn i n H5 w5 with ⟨stop, qq⟩ | ⟨go, Nx, hNx, step⟩
    · have td := T.done (X.blk s3 H3 scope ce fp) rfl rfl rfl hc i [] s5 _ H5 (fun _ _ => False) I5 (stat I5 n5) st5 stop
      refine thnF td fun r s6 ⟨hr, I6⟩ => ?_
      subst hr
      -- back in the def's context
      have I7 : Inv X pins σ H5 s6 := I3.call' (ch := fp) I6.os I6.base I6.hok I6.bare fun b hb => ⟨(f3 b hb).1.2.2.2.1, (f3 b hb).1.2.1, (f3 b hb).1.2.2.2.2.1, (f3 b hb).1.2.2.2.2.2⟩
      have nC : H5 s3.heap.objs.size = none := by
        have z : H5 ce.locals = none := I6.free
        rw [cL] at z
        exact z
      obtain ⟨m, hn, _⟩ := I6.loc
      have hn : s6.heap.Ns ce.locals m := hn
      rw [cL] at hn
      exact hRR D s3.heap.objs.size s6 m H5 I7 qq hn (I3.fpOk (Nat.le_refl _) nC)
    · have ti := T.item (X.blk s3 H3 scope ce fp) rfl rfl rfl hc i [] s5 _ H5 (fun _ _ => False) I5 (stat I5 n5) st5 go
      refine thnF ti fun r s6 ⟨u, hr, h6⟩ => ?_
      subst hr
      refine thnF h6 fun _ s7 ⟨x, H7, I7, r7, y7, st7, n7⟩ => ?_
      have I7' := I7.pinned (stat I7 n7) (T.obj _ _ st7)
      refine thnF (pg _ s7 _ H7 x u _ I7' r7 (step x H7 y7)) fun _ s8 ⟨σ8, H8, I8, hw8, q8⟩ => ?_
      refine thnF (pt _ s8 σ8 H8 _ I8 q8) fun b s9 ⟨H9, I9, q9⟩ => ?_
      -- the turn's end
      have fin : ∀ {s' : Shared} {H' : Hp}, Inv (X.blk s3 H3 scope ce fp) ([] ++ pinsAt fp s7.heap) σ8 H' s' → Nx H' → ∃ m, m < n ∧ ∃ i H', Inv (X.blk s3 H3 scope ce fp) [] (wipe σ (own.map (·.2))) H' s' ∧ tn i s'.heap ∧ (∀ b ∈ fp, H' b = none) ∧ W i m H' := fun {s' H'} I' nx => by
        obtain ⟨m', hm, w'⟩ := hNx H' nx
        have pin' : ∀ b ∈ fp, ∀ o, s7.heap.get? b = some o → s'.heap.get? b = some o ∧ H' b = none := fun b hb o e =>
          let z := I'.pin (b, o) (List.mem_append_right _ (List.mem_append_right _ (mem_pinsAt hb e)))
          ⟨z.1, z.2.1⟩
        have hl : (wipe σ (own.map (·.2))).length = σ8.length := by rw [← hw8, wipe_length]
        refine ⟨m', hm, i + 1, H', (I'.unpinned (pins := [])).weak hl (fun j v e => ?_), T.keep _ _ _ st7 fun b hb o e => (pin' b hb o e).1, fun b hb => ?_, w'⟩
        · rw [← hw8] at e
          exact (wipe_some e).1
        · obtain ⟨o, e, _⟩ := T.obj _ _ st7 b hb
          exact (pin' b hb o e).2
      cases b with
      | false =>
        simp only [Bool.false_eq_true, if_false] at q9 ⊢
        exact fin I9 q9
      | true =>
        simp only [if_true] at q9 ⊢
        refine thnF (pe _ s9 σ8 H9 _ I9 q9) fun z s10 ⟨yv, H10, I10, r10, acc, hD10, hz10, nx⟩ => ?_
        exact app_ok (X := X.blk s3 H3 scope ce fp) I10 hD10 hz10 r10 fun s11 I11 => fin I11 nx
  exact codeAny_compStart_list loop (T.self X.A 0 _ _ _ st4 loop)
/-- as a value -/
theorem pe_lc {elt tg iter : Expr} {ifs : List Expr} {scope : Scope} {own : List (Str × Nat)} {pos : Pos} {wi : TI} {g : TG} {tt : TT} {te : TE} (hc : X.calm = true) (hN : X.N.Nodup) (hi : PI X tg iter wi) (ok : BlkOk X.N X.env.scope scope own)
    (hg : ∀ (s : Shared) (H : Hp) (C : Addr) (cl : List (Str × Addr)) (fp : List Addr), PG (X.blk s H scope (compEnvC scope cl C X.env) fp) tg g) (ht : ∀ (s : Shared) (H : Hp) (C : Addr) (cl : List (Str × Addr)) (fp : List Addr), PTs (X.blk s H scope (compEnvC scope cl C X.env) fp) ifs tt)
    (he : ∀ (s : Shared) (H : Hp) (C : Addr) (cl : List (Str × Addr)) (fp : List Addr), PE (X.blk s H scope (compEnvC scope cl C X.env) fp) elt te) (hs : ∀ x, foldedSetIterable iter X.env x = pure x := by intro _; rfl) :
    PE X (.ListComp elt [⟨tg, iter, ifs, 0⟩] scope pos) (tLc wi g tt te (own.map (·.2))) := by
  intro pins s σ H Q I h
  rw [eval_ListComp]
  refine lc_core hc hN I hi ok hg ht he hs h fun D C s' m H' I' q hn f => ⟨m, hn, fun h'' sb => ?_⟩
  obtain ⟨f0, f1, f2, f3, f4, f5⟩ := f
  exact ⟨.ref D, H', I'.turned (t' := s'.toks) (fun b o hb e => (sb.2 b hb).trans e) f0 f1 f3 f4 f5, rfl, q⟩
/-- name = [..] on one line, the name a local -/
theorem ps_setLc {i : Nat} {y : Str} {py : Pos} {elt tg iter : Expr} {ifs : List Expr} {scope : Scope} {own : List (Str × Nat)} {pos spos : Pos} {wi : TI} {g : TG} {tt : TT} {te : TE} (hc : X.calm = true) (hN : X.N.Nodup) (hy : X.N[i]? = some y) (hyl : X.env.scope.names.lookup y = some .local)
    (hsw : swapsWith (.ListComp elt [⟨tg, iter, ifs, 0⟩] scope pos) (some (.Name y py)) spos.line X.env = pure true) (hi : PI X tg iter wi) (ok : BlkOk X.N X.env.scope scope own)
    (hg : ∀ (s : Shared) (H : Hp) (C : Addr) (cl : List (Str × Addr)) (fp : List Addr), PG (X.blk s H scope (compEnvC scope cl C X.env) fp) tg g) (ht : ∀ (s : Shared) (H : Hp) (C : Addr) (cl : List (Str × Addr)) (fp : List Addr), PTs (X.blk s H scope (compEnvC scope cl C X.env) fp) ifs tt)
    (he : ∀ (s : Shared) (H : Hp) (C : Addr) (cl : List (Str × Addr)) (fp : List Addr), PE (X.blk s H scope (compEnvC scope cl C X.env) fp) elt te) (hs : ∀ x, foldedSetIterable iter X.env x = pure x := by intro _; rfl) :
    PS X (.Assign [.Name y py] (.ListComp elt [⟨tg, iter, ifs, 0⟩] scope pos) spos) (tAsg (tLc wi g tt te (own.map (·.2))) (gName i)) := by
  intro pins s σ H D I h
  rw [exec_Assign_Name_used _ _ _ _ hsw]
  refine wpAny_bind (wpAny_standAt (wpAny_bind ?_))
  show wpAny _ X.A (do let _ ← comprehension (.ListComp elt [⟨tg, iter, ifs, 0⟩] scope pos) scope X.env (firstIterPos [⟨tg, iter, ifs, 0⟩] pos) (newList []) false (eval iter X.env) (some (assign (.Name y py) X.env))) _ _ s
  have h : tLc wi g tt te (own.map (·.2)) σ H (fun x H1 => gName i x σ H1 D.nx) := h
  refine wpAny_bind (thn (lc_core (Qf := fun _ s' => SP X pins D .next s') hc hN I hi ok hg ht he hs h fun L C s' m H' I' q hn f => ?_) fun _ s' hq => wpAny_pure (wpAny_pure hq))
  show wpAny _ _ (assign (.Name y py) X.env (.ref L)) _ _ _
  refine wpAny_assign_Name (store_ok2 (v := V.ref L) I' hN hy (.inl hyl) rfl (fun s2 I2 ⟨a, sb, ha⟩ => ?_) (.inr hyl))
  obtain ⟨f0, f1, f2, f3, f4, f5⟩ := f
  have haC : C ≠ a := by
    rcases ha with z | z
    · rw [z]; exact f1
    · exact fun e => f4 y a z e.symm
  refine ⟨m, hn.sameBut sb haC, fun h3 sb3 => ?_⟩
  exact ⟨_, H', I2.turned (t' := s2.toks) (fun b o hb e => (sb3.2 b hb).trans e) f0 f1 f3 f4 f5, q⟩
theorem sw_true {elt : Expr} {gs : List Comprehension} {scope : Scope} {pos py : Pos} {y : Str} {l : Nat} {env : Env} (hk : env.scope.kind = .function) (hy : env.scope.names.lookup y = some .local) (hl : (py.line == pos.line) = true)
    (ha : (scope.names.any fun (n, k) => n == y && (k == .local || k == .cell)) = false) : swapsWith (.ListComp elt gs scope pos) (some (.Name y py)) l env = pure true := by
  have ky : env.kindOf y = some .local := hy
  have hb : env.blockKind = .function := by unfold Env.blockKind; rw [hk]; rfl
  unfold swapsWith
  simp only [hb, ky, ha, Expr.pos, hl]
  rfl
end

/-! ### the forms one uses -/
/-- over a range: Pv by the turn and the heap (the new list at D within) -/
theorem lc_range {lo : Int} {n : Nat} {g : TG} {tt : TT} {te : TE} {vs : List Nat} {σ : St} {H1 : Hp} {D : Addr} {Qd : Hp → Prop} (Pv : Nat → Hp → Prop) (h0 : Pv 0 (upd H1 D (.lst [])))
    (hs : ∀ i H, i < n → Pv i H → g (.int (lo + i)) (wipe σ vs) H fun σ2 H2 => wipe σ2 vs = wipe σ vs ∧ tt σ2 H2 fun b H3 =>
      if b = true then te σ2 H3 fun y H4 => ∃ acc, H4 D = some (.lst acc) ∧ acc.length < sizeLine ∧ Pv (i + 1) (upd H4 D (.lst (acc ++ [y]))) else Pv (i + 1) H3) (hd : ∀ H, Pv n H → Qd H) :
    ∃ W : Nat → Nat → Hp → Prop, (∃ m, W 0 m (upd H1 D (.lst []))) ∧ ∀ i m H, W i m H →
      ((Itr lo n).stop i H ∧ Qd H) ∨ ((Itr lo n).go i H ∧ ∃ Nx : Hp → Prop, (∀ H', Nx H' → ∃ m', m' < m ∧ W (i + 1) m' H') ∧ ∀ x H', (Itr lo n).yld i H x H' → g x (wipe σ vs) H' fun σ2 H2 => wipe σ2 vs = wipe σ vs ∧ tt σ2 H2 fun b H3 =>
        if b = true then te σ2 H3 fun y H4 => ∃ acc, H4 D = some (.lst acc) ∧ acc.length < sizeLine ∧ Nx (upd H4 D (.lst (acc ++ [y]))) else Nx H3) := by
  refine ⟨fun i m H => m = n - i ∧ i ≤ n ∧ Pv i H, ⟨n, by simp, Nat.zero_le _, h0⟩, ?_⟩
  rintro i m H ⟨rfl, hi, p⟩
  by_cases hlt : i < n
  · refine .inr ⟨hlt, Pv (i + 1), fun H' p' => ⟨n - (i + 1), by omega, rfl, hlt, p'⟩, fun x H' y => ?_⟩
    obtain ⟨e, y⟩ := y
    subst e y
    exact hs i _ hlt p
  · have e : i = n := by omega
    subst e
    exact .inl ⟨Nat.le_refl _, hd H p⟩
/-- over a list that the block leaves as it is -/
theorem lc_list {K : PySem.W.Frag} {a : Addr} {xs : List V} {g : TG} {tt : TT} {te : TE} {vs : List Nat} {σ : St} {H1 : Hp} {D : Addr} {Qd : Hp → Prop} (Pv : Nat → Hp → Prop) (h0 : Pv 0 (upd H1 D (.lst []))) (hl : ∀ i H, i ≤ xs.length → Pv i H → SqL K H a xs)
    (hs : ∀ i x H, xs[i]? = some x → Pv i H → g x (wipe σ vs) H fun σ2 H2 => wipe σ2 vs = wipe σ vs ∧ tt σ2 H2 fun b H3 =>
      if b = true then te σ2 H3 fun y H4 => ∃ acc, H4 D = some (.lst acc) ∧ acc.length < sizeLine ∧ Pv (i + 1) (upd H4 D (.lst (acc ++ [y]))) else Pv (i + 1) H3) (hd : ∀ H, Pv xs.length H → Qd H) :
    ∃ W : Nat → Nat → Hp → Prop, (∃ m, W 0 m (upd H1 D (.lst []))) ∧ ∀ i m H, W i m H →
      ((Itl K a).stop i H ∧ Qd H) ∨ ((Itl K a).go i H ∧ ∃ Nx : Hp → Prop, (∀ H', Nx H' → ∃ m', m' < m ∧ W (i + 1) m' H') ∧ ∀ x H', (Itl K a).yld i H x H' → g x (wipe σ vs) H' fun σ2 H2 => wipe σ2 vs = wipe σ vs ∧ tt σ2 H2 fun b H3 =>
        if b = true then te σ2 H3 fun y H4 => ∃ acc, H4 D = some (.lst acc) ∧ acc.length < sizeLine ∧ Nx (upd H4 D (.lst (acc ++ [y]))) else Nx H3) := by
  refine ⟨fun i m H => m = xs.length - i ∧ i ≤ xs.length ∧ Pv i H, ⟨xs.length, by simp, Nat.zero_le _, h0⟩, ?_⟩
  rintro i m H ⟨rfl, hi, p⟩
  have q := hl i H hi p
  by_cases hlt : i < xs.length
  · refine .inr ⟨⟨xs, xs[i], q, by simp [hlt]⟩, Pv (i + 1), fun H' p' => ⟨xs.length - (i + 1), by omega, rfl, hlt, p'⟩, fun x H' y => ?_⟩
    obtain ⟨e, y⟩ := y
    subst e
    exact hs i x _ (y xs q) p
  · have e : i = xs.length := by omega
    subst e
    exact .inl ⟨⟨xs, q, Nat.le_refl _⟩, hd H p⟩
def blkC (N : List Str) (sc scope : Scope) (own : List (Str × Nat)) : Bool :=
  (match scope.kind with | .function => true | _ => false) && (scope.names.all fun y => decide (scope.names.lookup y.1 = some y.2)) && (own.all fun p => decide (N[p.2]? = some p.1)) &&
    (scope.names.all fun y => match y.2 with
      | .free => (match sc.names.lookup y.1 with | some .cell => true | some .free => true | _ => false)
      | .local => decide (y.1 ∈ own.map (·.1)) || decide (y.1 ∉ N)
      | .cell => decide (y.1 ∈ own.map (·.1)) || decide (y.1 ∉ N)
      | _ => true)
theorem blkOk_by {N : List Str} {sc scope : Scope} {own : List (Str × Nat)} (h : blkC N sc scope own = true) : BlkOk N sc scope own := by
  unfold blkC at h
  simp only [Bool.and_eq_true, List.all_eq_true, decide_eq_true_eq] at h
  obtain ⟨⟨⟨h1, h2⟩, h3⟩, h4⟩ := h
  refine ⟨?_, h2, h3, fun y hy e => ?_, fun y hy e => ?_⟩
  · split at h1
    · assumption
    · cases h1
  · have q := h4 y hy
    simp only [e] at q
    split at q <;> first | exact .inl (by assumption) | exact .inr (by assumption) | cases q
  · have q := h4 y hy
    rcases e with e | e <;> (simp only [e, Bool.or_eq_true, decide_eq_true_eq] at q; exact q)
end L2

namespace L2
open PySem PySem.Spec PyProof.Rows

section
variable {prog : Program} {w : World} {A : Around} {R : Result → Shared → Prop} {s : Shared} {elt t0 i0 t1 i1 : Expr} {ifs0 ifs1 : List Expr} {scope : Scope} {pos : Pos} {it acc : Value} {env : Env}
end

section
variable {X : Cx}
end
end L2

namespace L2
open PySem PySem.Spec PyProof.Rows

/-! ### lists of pairs as tables -/
section
variable {κ : Type} [DecidableEq κ]
end


/-! ### a tracked dict, its keys ints and texts or tuples of these -/
section
variable {P : Program} {w : World} {H : Hp} {h : Heap} {a : Addr}
end

section
variable {X : Cx} {pins : List (Addr × Obj)} {σ : St} {H : Hp} {s : Shared} {a : Addr} {y v : V} {u r : Value} {o : Option V} {A : Around} {E : Value → Shared → Prop}

end

section
variable {X : Cx} {pins : List (Addr × Obj)} {σ : St} {H : Hp} {s : Shared} {a : Addr} {kvs : List (Key × V)} {k : Key} {u : Value} {A : Around} {E : Value → Shared → Prop}
end


/-! ### readings and rules -/
section
variable {X : Cx} {o i e value : Expr} {pos pos' tpos : Pos} {td ty tv : TE}
end


/-! ### displays -/
section
variable {X : Cx} {pos : Pos}
end

/-! ### methods -/
section
variable {X : Cx} {pins : List (Addr × Obj)} {σ : St} {H : Hp} {s : Shared} {a : Addr} {y d : V} {u r : Value} {o : Option V} {A : Around} {E : Value → Shared → Prop}
end

section
variable {X : Cx} {o e f : Expr} {apos cpos : Pos} {td ty tx : TE}
end

/-! ### dict(d): a copy -/
section
variable {X : Cx} {pins : List (Addr × Obj)} {σ : St} {H : Hp} {s : Shared} {a : Addr} {kvs : List (Key × V)} {A : Around} {E : Value → Shared → Prop}
end


section
variable {X : Cx} {pins : List (Addr × Obj)} {σ : St} {H : Hp} {s : Shared} {a : Addr} {y : V} {u : Value} {A : Around} {E : Value → Shared → Prop}
end
end L2

namespace L2
open PySem PySem.Spec PyProof.Rows

section
variable {prog : Program} {w : World} {A : Around} {E : Value → Shared → Prop}
end

section
variable {X : Cx}
end
end L2

namespace L2
open PySem PySem.Spec PyProof.Rows

theorem boot_reversed5 : bootBuiltins "reversed" = some (.type "reversed") := by decide +kernel

section
variable {X : Cx} {pins : List (Addr × Obj)} {σ : St} {H : Hp} {s : Shared} {h' : Heap}
/-! ### locking a thing while a statement runs -/
theorem Inv.lock {d : Addr} {u : HO} (I : Inv X pins σ H s) (h : H d = some u) (mu : Mut (some u)) : ∃ od, Inv X pins σ (upd H d (.frz od u)) s := by
  have x := I.hok d u h
  have ex : ∃ od, s.heap.get? d = some od := by
    cases u with
    | lst xs => obtain ⟨_, _, _, _, e⟩ := x; exact ⟨_, e⟩
    | dK kvs => obtain ⟨_, _, _, _, o, _, _, e, _⟩ := x; exact ⟨o, e⟩
    | dT kvs => obtain ⟨_, _, _, _, o, _, _, e, _⟩ := x; exact ⟨o, e⟩
    | set S n => obtain ⟨o, _, _, _, e, _⟩ := x; exact ⟨o, e⟩
    | ins C dx fs => obtain ⟨_, _, _, e, _⟩ := x; exact ⟨_, e⟩
    | ext φ => obtain ⟨_, ⟨_, e⟩, _⟩ := x; exact ⟨_, e⟩
    | _ => exact False.elim mu
  obtain ⟨od, e⟩ := ex
  have new : ObjOk X.prog X.w (upd H d (.frz od u)) s.heap d (.frz od u) := by
    refine ⟨e, x.stay (fun b v _ q => q) (fun b q => ?_) fun b xs q => ?_⟩
    · rw [upd_ne (fun z => by rw [z, h] at q; cases q; exact mu)]; exact q
    · rw [upd_ne (fun z => by rw [z, h] at q; cases q; exact mu)]; exact q
  exact ⟨od, I.write (x := d) (e := d) (t' := s.toks) (h' := s.heap) (by rw [h]; exact mu) (.inl rfl) (fun b v _ q => q) ⟨od, e⟩ new⟩
theorem Inv.nofrz {d : Addr} {u : HO} (I : Inv X pins σ H s) (h : H d = some u) (mu : Mut (some u)) : ∀ o' u', X.H_0 d ≠ some (.frz o' u') := fun o' u' e => by
  have q := I.base.frzs d o' u' e
  rw [h] at q
  cases q
  exact mu
theorem Inv.unlock {d : Addr} {od : Obj} {u : HO} (I : Inv X pins σ H s) (h : H d = some (.frz od u)) (hn : ∀ o' u', X.H_0 d ≠ some (.frz o' u')) : Inv X pins σ (upd H d u) s := by
  have neH : ∀ b o, H b = some o → (∀ o' u', o ≠ .frz o' u') → b ≠ d := fun b o e hne z => by
    rw [z, h] at e
    cases e
    exact hne _ _ rfl
  have neN : ∀ b, H b = none → b ≠ d := fun b e z => by rw [z, h] at e; cases e
  refine ⟨I.ok, I.os, I.bare, ⟨I.base.keep, I.base.slot, fun b o e n hx => ?_, I.base.there, fun b xs e => ?_, fun b o x e => ?_, fun b ps e => ?_⟩, I.loc, I.cell, ?_, fun x c e => ?_, fun p hp => ?_, fun b o e => ?_, I.len⟩
  · rw [upd_ne (neN b (I.base.free b o e n hx))]; exact I.base.free b o e n hx
  · have q := I.base.tups b xs e
    rw [upd_ne (neH b _ q (fun _ _ z => nomatch z))]; exact q
  · have q := I.base.frzs b o x e
    rw [upd_ne (fun z => by rw [z] at e; exact hn _ _ e)]; exact q
  · obtain ⟨m, q⟩ := I.base.tbls b ps e
    exact ⟨m, by rw [upd_ne (neH b _ q (fun _ _ z => nomatch z))]; exact q⟩
  · rw [upd_ne (neN _ I.free)]; exact I.free
  · rw [upd_ne (neN c (I.freeC x c e))]; exact I.freeC x c e
  · obtain ⟨e, n, r⟩ := I.pin p hp
    exact ⟨e, by rw [upd_ne (neN _ n)]; exact n, r⟩
  · by_cases hb : b = d
    · rw [hb, upd_same] at e
      cases e
      rw [hb]
      obtain ⟨_, x⟩ := I.hok d _ h
      exact x.stay (fun c v _ q => q) (fun c q => by rw [upd_ne (neH c _ q (fun _ _ z => nomatch z))]; exact q) fun c xs q => by rw [upd_ne (neH c _ q (fun _ _ z => nomatch z))]; exact q
    · rw [upd_ne hb] at e
      exact (I.hok b o e).stay (fun c v _ q => q) (fun c q => by rw [upd_ne (neH c _ q (fun _ _ z => nomatch z))]; exact q) fun c xs q => by rw [upd_ne (neH c _ q (fun _ _ z => nomatch z))]; exact q
end
def tLockE (t : TE) : TE := fun σ H Q => ∃ d u, H d = some u ∧ Mut (some u) ∧ ∀ od, t σ (upd H d (.frz od u)) fun v H' => H' d = some (.frz od u) ∧ Q v (upd H' d u)
section
variable {X : Cx}
theorem pe_lock {e : Expr} {t : TE} (h : PE X e t) : PE X e (tLockE t) := by
  intro pins s σ H Q I hw
  obtain ⟨d, u, hd, mu, hw⟩ := hw
  obtain ⟨od, I1⟩ := I.lock hd mu
  refine thn (h pins s σ _ _ I1 (hw od)) fun v s1 ⟨x, H1, I2, r, e2, q⟩ => ?_
  exact ⟨x, _, I2.unlock e2 (I.nofrz hd mu), r, q⟩

/-! ### one iterator just laid -/
theorem pi_one {tg : Expr} {pins : List (Addr × Obj)} {σ : St} {H : Hp} {s : Shared} {R : It → Hp → Prop} {J : It} {tn : Nat → Heap → Prop} {tk : Nat} (I : Inv X pins σ H s) (o : Obj)
    (T : Turn X.prog X.w X.K tg J [s.heap.objs.size] s.heap.objs.size tn) (st : tn 0 (s.heap.push o)) (q : R J H) : PIE X pins σ tg R (.ref s.heap.objs.size) { s with heap := s.heap.push o, toks := tk } := by
  refine ⟨s.heap.objs.size, [s.heap.objs.size], tn, J, H, rfl, I.kept fun b ob e => Heap.get?_push_of_some _ e, T, st, fun b hb => ?_, q⟩
  have e : b = s.heap.objs.size := by simpa using hb
  subst e
  exact I.fpOk (Nat.le_refl _) (I.hok.fresh (Nat.le_refl _))
end

/-! ### range with a step -/
section
variable {X : Cx} {tg : Expr}
end
/-! ### reversed(list) -/
/-- the list at a (n items at the start, which the loop leaves there), from its end -/
def Itv (K : PySem.W.Frag) (a : Addr) (n : Nat) : It :=
  ⟨fun i H => i < n ∧ ∃ (xs : List V) (x : V), SqL K H a xs ∧ xs[n - 1 - i]? = some x, fun i H x H' => H' = H ∧ ∀ xs, SqL K H a xs → xs[n - 1 - i]? = some x, fun i _ => n ≤ i⟩
theorem turn_rev {P : Program} {w : World} {K : PySem.W.Frag} {tg : Expr} (a it : Addr) (n : Nat) : Turn P w K tg (Itv K a n) [it] it (fun i h => i ≤ n ∧ h.IsRevIter it a ((n : Int) - 1 - (i : Nat))) where
  mem := by simp
  obj := fun i h st b hb => by
    have e : b = it := by simpa using hb
    subst e
    obtain ⟨_, o, e, c, d⟩ := st
    exact ⟨o, e, fun v z => by rw [d] at z; cases z⟩
  keep := fun i h h' st k => ⟨st.1, st.2.at fun o e => k it (by simp) o e⟩
  item := by
    intro X hP hw hK hc i pins s σ H E I hf st hg
    subst hP hw hK
    obtain ⟨hin, xs, x, hq, hx⟩ := hg
    obtain ⟨its, rv, p, hz⟩ := I.list hq
    obtain ⟨u, hu, ru⟩ := rv.get hx
    obtain ⟨f0, f1, f2, f3, f4, f5⟩ := hf it (by simp)
    obtain ⟨_, hit⟩ := st
    have e1 : (n : Int) - 1 - ((i : Nat) : Int) = ((n - 1 - i : Nat) : Int) := by omega
    rw [e1] at hit
    refine wpAny_pyNext_rev_item hit p.isList (x := u) (by simpa using hu) fun h' st' sb => ?_
    have e2 : ((n - 1 - i : Nat) : Int) - 1 = (n : Int) - 1 - ((i + 1 : Nat) : Int) := by omega
    rw [e2] at st'
    have I1 : Inv X pins σ H { s with heap := h' } := I.turned (t' := s.toks) (fun b o hb e => (sb.2 b hb).trans e) f0 f1 f3 f4 f5
    obtain ⟨o, e, c, d⟩ := id st'
    exact ⟨u, rfl, go_of (s := { s with heap := h' }) e c d (by decide) ⟨x, H, I1, ru, ⟨rfl, fun ys hy => by rw [I.list_inj hy hq]; exact hx⟩, ⟨hin, st'⟩, fun b hb => (hf b hb).1⟩⟩
  done := by
    intro X hP hw hK hc i pins s σ H E I hf st hg
    subst hP hw hK
    obtain ⟨f0, f1, f2, f3, f4, f5⟩ := hf it (by simp)
    obtain ⟨hin, hit⟩ := st
    have hge : n ≤ i := hg
    have e1 : (n : Int) - 1 - ((i : Nat) : Int) = -1 := by omega
    rw [e1] at hit
    exact wpAny_pyNext_rev_end (I.ok.hd hc) hit fun h' eb => ⟨rfl, I.turned (t' := s.toks) (fun b o hb e => eb b o hb e) f0 f1 f3 f4 f5⟩
  self := fun A i s Q E st h => wpAny_pyIter_revIter st.2 h
def iRev (K : PySem.W.Frag) (ta : TA) : TI := fun σ H R => ta σ H fun vs H1 => ∃ (a : Addr) (xs : List V), vs = [.ref a] ∧ SqL K H1 a xs ∧ R (Itv K a xs.length) H1
section
variable {X : Cx} {tg : Expr}
theorem pi_reversed {e : Expr} {ta : TA} {p pos : Pos} (hg : Gl X "reversed") (hm : X.mg "reversed" = none) (ha : PA X [e] ta) (hs : starEach [e] X.env = [(false, eval e X.env)] := by rfl) : PI X tg (.Call (.Name "reversed" p) [e] [] pos) (iRev X.K ta) := by
  intro pins s σ H R I h
  refine Call_ (ld_blt I hg hm boot_reversed5 (PyProof.Rows.callWith_type1 (thn (ha pos pins s σ H _ I h) fun us s1 ⟨vs, H1, I1, r1, q1⟩ => ?_) hs rfl))
  obtain ⟨a, xs, e, hq, q⟩ := q1
  subst e
  cases r1 with
  | cons r rr =>
    cases rr
    cases r
    obtain ⟨its, rv, p', hz⟩ := I1.list hq
    have hl := rv.length
    have e1 : ((its.toArray.size : Nat) : Int) - 1 = (xs.length : Int) - 1 - ((0 : Nat) : Int) := by simp only [List.size_toArray]; omega
    refine call_reversed_list p'.isList (wpAny_pyIter_revIter (l := a) (i := ((its.toArray.size : Nat) : Int) - 1) ⟨_, Heap.get?_push_size _ rfl, rfl, rfl⟩ ?_)
    refine pi_one (tk := s1.toks) I1 _ (turn_rev a _ xs.length) ⟨Nat.zero_le _, ?_⟩ q
    rw [← e1]
    exact ⟨_, Heap.get?_push_size _ rfl, rfl, rfl⟩
end

/-! ### a str -/
/-! ### a dict's keys: any dict's entries -/
section
variable {prog : Program} {w : World} {A : Around} {E : Value → Shared → Prop} {s : Shared}
end

/-! ### a locked dict -/
section
variable {X : Cx} {pins : List (Addr × Obj)} {σ : St} {H : Hp} {s : Shared} {d : Addr} {o : Obj}
end

section
variable {P : Program} {w : World} {K : PySem.W.Frag} {tg : Expr} {d : Addr} {o : Obj} {es : Array DictEntry} {ep : Nat}
end

/-! ### for k in d, d.keys(), d.values(), d.items() -/
section
variable {X : Cx} {tg e : Expr} {td : TE} {apos cpos : Pos}
end

/-! ### enumerate(list) -/
/-! ### zip(list, list) -/
theorem boot_zip5 : bootBuiltins "zip" = some (.type "zip") := by decide +kernel
end L2

section 
namespace Bits
open PySem PyProof.Rows

end Bits
end 

section 
namespace TL
open PySem PySem.Builtin PySem.Builtin.Str PySem.StrLaws

/-! ### the list functions -/
/-! ### the model's split and partition are these -/
/-! ### computing spl and par -/
/-! ### digits -/
/-! ### words: x.split() -/
end TL
end 

namespace L2
open PySem PySem.Spec PyProof.Rows

section
variable {X : Cx} {pins : List (Addr × Obj)} {σ : St} {H : Hp} {s : Shared} {Q : VK}
end

section
variable {X : Cx}

/-! ### of a text alone -/
/-! ### of a text and a text -/
end

section
variable {X : Cx} {o e : Expr} {to te : TE}
end
end L2

namespace L2
open PySem PySem.Spec PyProof.Rows

section
variable {X : Cx}
end

/-! ### slices of a text -/
end L2

namespace Att
open PySem PySem.W PySem.Calls PyProof.Rows

/-! ### the script -/
/-! ### the attachment: holds_open's last premise (the goal 'hc' behind k_head) from a wpAny of the law's body -/
/-! ### rules over ANY heap (no ledger) from facts about the written part K: the library's own take a ledger (News) for what they write -/
section
variable {prog : Program} {w : World} {A : Around} {E : Value → Shared → Prop} {s : Shared} {K : Frag}

/-! the whole heap as the ledger: makes every rule that writes through a ledger a rule over any heap -/
end
end Att

namespace L2
open PySem PySem.Spec PyProof.Rows

end L2

namespace L2
open PySem PySem.Spec PyProof.Rows

end L2

/-! SHORT WORDS over the layer: a def of the text, its body, what a loop and a test want. -/
namespace L2
open PySem PySem.Spec PyProof.Rows

/-! ### the text by places -/
/-- the j-th statement of a class's body -/
def inClass (s : Stmt) (j : Nat) : Stmt := match s with
  | .ClassDef _ _ _ body _ _ _ _ _ _ _ => body.getD j (.Pass ⟨0, 0, 0, 0⟩)
  | _ => .Pass ⟨0, 0, 0, 0⟩
def defArgs (s : Stmt) : Arguments := match s with
  | .FunctionDef _ a _ _ _ _ _ _ _ _ => a
  | _ => { posonlyargs := [], args := [], vararg := none, kwonlyargs := [], kw_defaults := [], kwarg := none, defaults := [] }
def defBody (s : Stmt) : List Stmt := match s with
  | .FunctionDef _ _ b _ _ _ _ _ _ _ => b
  | _ => []
def defScope (s : Stmt) : Scope := match s with
  | .FunctionDef _ _ _ _ _ _ sc _ _ _ => sc
  | _ => { kind := .function, names := [], isGenerator := false, isCoroutine := false }

/-! ### no exception leaves a def -/
abbrev CX0 : CXT := fun _ _ _ _ _ _ => False
abbrev E0 : XK := fun _ _ _ => False
theorem pass0 {X : Cx} : Passes CX0 X E0 := fun _ _ _ _ _ _ _ h => h.elim

/-! ### a def (or method) of the text as it stands behind the top -/
structure Fun (K : PySem.W.Frag) (x qual : Str) (st : Stmt) (f : Addr) (fd : FuncData) : Prop where
  ex : ∃ (oc : Value) (od : Option Addr) (kV doc pm : Value) (an : Option Addr) (cdv ct : Value) (osl : Array (Option Value)),
    fd = PySem.W.fnOf x qual (defArgs st) (defBody st) (defScope st) .none kV doc pm an cdv ct ∧ K.lookup f = some ⟨oc, od, .func fd, osl⟩ ∧ PySem.W.codeIn K cdv qual = true
  kp : PySem.W.keepIn K (.ref f) = true
section
variable {P : Program} {w : World} {K : PySem.W.Frag} {mg : Str → Option Value} {base : Heap}
/-- THE RULE for a def: its body as a term of rules, and the reading of that term -/
theorem Fun.ok {x qual : Str} {st : Stmt} {f : Addr} {fd : FuncData} {N ps : List Str} {k : Nat} {sp : Sp} (F : Fun K x qual st f fd) (S : FnScope N ps (defScope st)) (len : ∀ vs H Q E, sp vs H Q E → vs.length = ps.length)
    (hbody : ∀ (cdv : Value) (A : Around) (outer : List Env) (s : Shared) (H : Hp) (vs : List V) (Q : VK) (E : XK), Room k (A.deeper (envOfC qual (defScope st) s.heap.objs.size f cdv)) → sp vs H Q E →
      ∃ t, PSs (cxOf CX0 P w K mg base N qual (defScope st) f cdv A outer s H E).nox (defBody st) t ∧ t { nx := fun _ H' => Q .non H', rt := Q } (start N vs) H) : FnOk P w K mg base CX0 (k + 1) f fd ps sp := by
  obtain ⟨oc, od, kV, doc, pm, an, cdv, ct, osl, rfl, lk, hcd⟩ := F.ex
  refine fn_of lk hcd S len fun A outer s H vs Q E hr hsp => ?_
  obtain ⟨t, h, q⟩ := hbody cdv A outer s H vs Q E hr hsp
  exact ⟨t, h.nox, q⟩
/-- how its arguments bind (no defaults): h is «fun _ _ _ _ _ _ us hl => match us, hl with | [_, _], _ => rfl», one _ a parameter -/
theorem Fun.binds {x qual : Str} {st : Stmt} {f : Addr} {fd : FuncData} {ps : List Str} (F : Fun K x qual st f fd)
    (h : ∀ (kV doc pm : Value) (an : Option Addr) (cdv ct : Value) (us : List Value), us.length = ps.length → bindArgs (PySem.W.fnOf x qual (defArgs st) (defBody st) (defScope st) .none kV doc pm an cdv ct) ⟨us, []⟩ = pure (ps.zip us)) : Binds K fd ps [] := by
  obtain ⟨oc, od, kV, doc, pm, an, cdv, ct, osl, rfl, lk, hcd⟩ := F.ex
  exact .all (h kV doc pm an cdv ct)
theorem fun_mk {x qual : Str} {st : Stmt} {f : Addr} {oc : Value} {od an : Option Addr} {osl : Array (Option Value)} {kV doc pm cdv ct : Value} (l : K.lookup f = some ⟨oc, od, .func (PySem.W.fnOf x qual (defArgs st) (defBody st) (defScope st) .none kV doc pm an cdv ct), osl⟩)
    (c : PySem.W.codeIn K cdv qual = true) (k : PySem.W.keepIn K (.ref f) = true) : Fun K x qual st f (PySem.W.fnOf x qual (defArgs st) (defBody st) (defScope st) .none kV doc pm an cdv ct) := ⟨⟨oc, od, kV, doc, pm, an, cdv, ct, osl, rfl, l, c⟩, k⟩
end
/-! ### expressions in short: the name that stands in the i-th slot -/
section
variable {X : Cx}
theorem pv (i : Nat) {x : Str} {pos : Pos} (hN : X.N[i]? = some x := by rfl) (hv : Vis X.env.scope x := by first | exact Or.inl rfl | exact Or.inr (Or.inl rfl) | exact Or.inr (Or.inr rfl)) (hd : (x == ("__debug__" : Str)) = false := by decide)
    (hcd : (x == ("__classdict__" : Str)) = false := by decide) : PE X (.Name x pos) (tVar i) := pe_var hN hv hd hcd
end

/-! ### tests -/
theorem iteF {A B : Prop} (h : B) : if false = true then A else B := by
  rw [if_neg Bool.false_ne_true]
  exact h
theorem iteT {A B : Prop} (h : A) : if true = true then A else B := by
  rw [if_pos rfl]
  exact h
theorem ite2 {c A B : Prop} [Decidable c] (h1 : c → A) (h2 : ¬ c → B) : if c then A else B := by
  by_cases h : c
  · rw [if_pos h]
    exact h1 h
  · rw [if_neg h]
    exact h2 h
/-! ### heaps -/
/-- all that was tracked is as it was -/
def Same (H H' : Hp) : Prop := ∀ b o, H b = some o → H' b = some o
theorem Same.refl (H : Hp) : Same H H := fun _ _ h => h
theorem Same.trans {H H1 H2 : Hp} (a : Same H H1) (b : Same H1 H2) : Same H H2 := fun c o h => b c o (a c o h)
theorem Same.free {H H' : Hp} (e : Same H H') {l : Addr} (h : H' l = Option.none) : H l = Option.none := by
  cases q : H l with
  | none => rfl
  | some o =>
    rw [e l o q] at h
    cases h
theorem Same.seq {K : PySem.W.Frag} {H H' : Hp} {a : Addr} {xs : List V} (e : Same H H') (h : SqL K H a xs) : SqL K H' a xs := by
  rcases h with (h | ⟨o, h⟩) | h
  · exact .inl (.inl (e _ _ h))
  · exact .inl (.inr ⟨o, e _ _ h⟩)
  · exact .inr h

/-! ### a dict's pairs: keys that differ -/
section
variable {κ : Type} [DecidableEq κ]
end
/-! ### lists -/
theorem at_of {xs : List V} {z : Int} {j : Nat} {v : V} (e : z = (j : Int)) (h : xs[j]? = some v) : atI xs z = some v := by
  rw [e]
  exact atI_nat h
theorem nd_ix {α : Type} {l : List α} (hN : l.Nodup) {i j : Nat} {x : α} (a : l[i]? = some x) (b : l[j]? = some x) : i = j := by
  obtain ⟨h1, e1⟩ := List.getElem?_eq_some_iff.mp a
  obtain ⟨h2, e2⟩ := List.getElem?_eq_some_iff.mp b
  exact (List.getElem_inj hN).mp (e1.trans e2.symm)
end L2

section
set_option Elab.async false
set_option linter.all false
set_option maxRecDepth 100000
set_option maxHeartbeats 2000000
namespace L2
open PySem PySem.Spec PyProof.Rows
open PySem.W (WData Codec OpenSpec Well WellAll ReadsW ReadsAllW)
/-! ### an answer as data -/
mutual
/-- x stands for the datum d, lists and tuples all the way -/
inductive Dw (K : PySem.W.Frag) (H : Hp) : V → WData → Prop
  | non : Dw K H .non .none
  | bl (b : Bool) : Dw K H (.bl b) (.bool b)
  | int (i : Int) : Dw K H (.int i) (.int i)
  | str (x : Str) : Dw K H (.str x) (.str x)
  | byt (b : Array UInt8) : Dw K H (.byt b) (.bytes b.toList)
  | lst {a : Addr} {xs : List V} {ds : List WData} : SqL K H a xs → DwAll K H xs ds → Dw K H (.ref a) (.list ds)
  | tup {a : Addr} {xs : List V} {ds : List WData} : SqT K H a xs → DwAll K H xs ds → Dw K H (.ref a) (.tuple ds)
inductive DwAll (K : PySem.W.Frag) (H : Hp) : List V → List WData → Prop
  | nil : DwAll K H [] []
  | cons {v : V} {vs : List V} {d : WData} {ds : List WData} : Dw K H v d → DwAll K H vs ds → DwAll K H (v :: vs) (d :: ds)
end
theorem dw_ints {K : PySem.W.Frag} {H : Hp} : ∀ ns : List Int, DwAll K H (ns.map V.int) (ns.map WData.int)
  | [] => .nil
  | n :: r => .cons (.int n) (dw_ints r)
theorem ints_dw {K : PySem.W.Frag} {H : Hp} : ∀ (ns : List Int) (xs : List V), DwAll K H xs (ns.map WData.int) → xs = ns.map V.int
  | [], xs, h => by
    cases h
    rfl
  | n :: r, xs, h => by
    cases h with
    | cons h1 h2 =>
      cases h1
      rw [ints_dw r _ h2] <;> rfl
section
variable {P : Program} {w : World} {K : PySem.W.Frag} {H : Hp} {h : Heap} {R : PySem.W.WRecords} {cl : Str → Option Addr}
theorem sqL_at {a : Addr} {xs : List V} (hok : HOk P w H h) (KX : K.In h) (q : SqL K H a xs) : ∃ (its : List Value) (o : Obj) (n : Nat), Vals xs its ∧ h.get? a = some o ∧ o.cls = .type "list" ∧ o.data = .seq its.toArray n := by
  rcases q with q | ⟨o, its, n, e, hc, _, hd, _, hv⟩
  · obtain ⟨_, its, n, hv, e⟩ := (show ObjOk P w H h a (.lst xs) from q.ok hok)
    exact ⟨its, _, n, hv, e, rfl, rfl⟩
  · exact ⟨its.toList, o, n, hv, KX _ _ e, hc, by simp [hd]⟩
theorem sqT_at {a : Addr} {xs : List V} (hok : HOk P w H h) (KX : K.In h) (q : SqT K H a xs) : ∃ (its : List Value) (o : Obj) (n : Nat), Vals xs its ∧ h.get? a = some o ∧ o.cls = .type "tuple" ∧ o.data = .seq its.toArray n := by
  rcases q with q | ⟨o, its, n, e, hc, hd, _, hv⟩
  · obtain ⟨_, its, hv, o, e, hc, n, hd⟩ := (show ObjOk P w H h a (.tup xs) from q.ok hok)
    exact ⟨its, o, n, hv, e, hc, hd⟩
  · exact ⟨its.toList, o, n, hv, KX _ _ e, hc, by simp [hd]⟩
mutual
theorem Dw.reads (hok : HOk P w H h) (KX : K.In h) : ∀ (d : WData) (v : V) (u : Value), Dw K H v d → RelV v u → ∃ as, ReadsW R cl h u d as
  | .none, _, _, x, r => by
    cases x
    cases r
    exact ⟨_, ReadsW.none⟩
  | .bool b, _, _, x, r => by
    cases x
    cases r
    exact ⟨_, ReadsW.bool b⟩
  | .int i, _, _, x, r => by
    cases x
    obtain ⟨t, rfl⟩ := r
    exact ⟨_, ReadsW.int i t⟩
  | .str s, _, _, x, r => by
    cases x
    obtain ⟨t, rfl⟩ := r
    exact ⟨_, ReadsW.str s t⟩
  | .bytes b, _, _, x, r => by
    cases x
    obtain ⟨t, rfl⟩ := r
    exact ⟨_, ReadsW.bytes _ t⟩
  | .list ds, _, _, x, r => by
    cases x with
    | lst hs ha =>
      cases r
      obtain ⟨its, o, n, rv, ho, hc, hd⟩ := sqL_at hok KX hs
      obtain ⟨as, hr⟩ := Dw.readsAll hok KX ds _ its ha rv
      exact ⟨_, ReadsW.list ho hc hd hr⟩
  | .tuple ds, _, _, x, r => by
    cases x with
    | tup hs ha =>
      cases r
      obtain ⟨its, o, n, rv, ho, hc, hd⟩ := sqT_at hok KX hs
      obtain ⟨as, hr⟩ := Dw.readsAll hok KX ds _ its ha rv
      exact ⟨_, ReadsW.tuple ho hc hd hr⟩
  | .float _, _, _, x, _ => by cases x
  | .dict _, _, _, x, _ => by cases x
  | .bytearray _, _, _, x, _ => by cases x
  | .set _, _, _, x, _ => by cases x
  | .frozenset _, _, _, x, _ => by cases x
  | .obj _ _, _, _, x, _ => by cases x
theorem Dw.readsAll (hok : HOk P w H h) (KX : K.In h) : ∀ (ds : List WData) (vs : List V) (us : List Value), DwAll K H vs ds → Vals vs us → ∃ as, ReadsAllW R cl h us ds as
  | [], _, _, x, r => by
    cases x
    cases r
    exact ⟨_, ReadsAllW.nil⟩
  | d :: ds, _, _, x, r => by
    cases x with
    | cons h1 h2 =>
      cases r with
      | cons r1 r2 =>
        obtain ⟨as, q1⟩ := Dw.reads hok KX d _ _ h1 r1
        obtain ⟨bs, q2⟩ := Dw.readsAll hok KX ds _ _ h2 r2
        exact ⟨_, ReadsAllW.cons q1 q2⟩
end
end
/-! ### the arguments -/
mutual
/-- data that a codec tells -/
def plW : WData → Bool
  | .none => true
  | .bool _ => true
  | .int _ => true
  | .str _ => true
  | .bytes _ => true
  | .list xs => plWs xs
  | .tuple xs => plWs xs
  | _ => false
def plWs : List WData → Bool
  | [] => true
  | x :: r => plW x && plWs r
end
theorem plWs_map {α : Type} {f : α → WData} (h : ∀ a, plW (f a) = true) : ∀ l : List α, plWs (l.map f) = true
  | [] => rfl
  | x :: r => by
    show (plW (f x) && plWs (r.map f)) = true
    rw [h x, plWs_map h r] <;> rfl
theorem pl_enc : ∀ (c : Codec) (a : c.denote), plW (c.enc a) = true
  | .unit, _ => rfl
  | .bool, _ => rfl
  | .int _ _, _ => rfl
  | .nat _ _, _ => rfl
  | .u8, _ => rfl
  | .bytes _ _, _ => rfl
  | .text _ _ _ _, _ => rfl
  | .list _ _ c, a => plWs_map (fun x => pl_enc c x) a
  | .pair c d, a => by
    show (plW (c.enc a.1) && (plW (d.enc a.2) && true)) = true
    rw [pl_enc c a.1, pl_enc d a.2] <;> rfl
  | .triple c d e, a => by
    show (plW (c.enc a.1) && (plW (d.enc a.2.1) && (plW (e.enc a.2.2) && true))) = true
    rw [pl_enc c a.1, pl_enc d a.2.1, pl_enc e a.2.2] <;> rfl
  | .option c, none => rfl
  | .option c, some x => pl_enc c x
theorem pl_encAll : ∀ (cs : List Codec) (a : Codec.denoteAll cs), plWs (Codec.encAll cs a) = true
  | [], _ => rfl
  | c :: cs, a => by
    show (plW (c.enc a.1) && plWs (Codec.encAll cs a.2)) = true
    rw [pl_enc c a.1, pl_encAll cs a.2] <;> rfl
theorem weight_mem : ∀ {xs : List WData} {d : WData}, d ∈ xs → d.weight ≤ WData.weightAll xs
  | [], d, h => absurd h (by simp)
  | x :: r, d, h => by
    show d.weight ≤ x.weight + 1 + WData.weightAll r
    rcases List.mem_cons.mp h with e | m
    · rw [e]
      omega
    · have z := weight_mem m
      omega
def toV : Value → V
  | .none => .non
  | .bool b => .bl b
  | .int i _ => .int i
  | .str x _ => .str x
  | .bytes b _ => .byt b
  | .ref a => .ref a
  | _ => .non
/-- a value of the arguments, its objects among A -/
def OkU (A : List Addr) : Value → Prop
  | .none => True
  | .bool _ => True
  | .int _ _ => True
  | .str _ _ => True
  | .bytes _ _ => True
  | .ref a => a ∈ A
  | _ => False
theorem OkU.mono {A B : List Addr} (h : ∀ a ∈ A, a ∈ B) : ∀ {u : Value}, OkU A u → OkU B u := fun {u} x => by
  cases u with
  | ref a => exact h a x
  | none => trivial
  | bool b => trivial
  | int i t => trivial
  | str s t => trivial
  | bytes b t => trivial
  | _ => exact False.elim x
theorem relV_toV {A : List Addr} {u : Value} (x : OkU A u) : RelV (toV u) u := by
  cases u with
  | ref a => rfl
  | none => rfl
  | bool b => rfl
  | int i t => exact ⟨t, rfl⟩
  | str s t => exact ⟨t, rfl⟩
  | bytes b t => exact ⟨t, rfl⟩
  | _ => exact False.elim x
theorem vals_toV {A : List Addr} : ∀ {vs : List Value}, (∀ u ∈ vs, OkU A u) → Vals (vs.map toV) vs
  | [], _ => .nil
  | u :: r, h => .cons (relV_toV (h u (List.mem_cons_self ..))) (vals_toV fun x hx => h x (List.mem_cons_of_mem _ hx))
/-- an object of the arguments -/
def ArgOb (h : Heap) (A : List Addr) (a : Addr) : Prop := ∃ vs : List Value, vs.length ≤ sizeLine ∧ (∀ u ∈ vs, OkU A u) ∧
  (h.get? a = some { cls := .type "list", data := .seq vs.toArray } ∨ h.get? a = some { cls := .type "tuple", data := .seq vs.toArray })
theorem ArgOb.mono {h : Heap} {A B : List Addr} {a : Addr} (k : ∀ a ∈ A, a ∈ B) (x : ArgOb h A a) : ArgOb h B a := by
  obtain ⟨vs, h1, h2, h3⟩ := x
  exact ⟨vs, h1, fun u hu => (h2 u hu).mono k, h3⟩
theorem wellAll_len {P : Params} {h : Heap} : ∀ {vs : List Value} {ds : List WData}, WellAll P h vs ds → vs.length = ds.length
  | _, _, .nil => rfl
  | _, _, .cons _ b => by
    show _ + 1 = _ + 1
    rw [wellAll_len b]
theorem well_list {P : Params} {h : Heap} {v : Value} {ds : List WData} (x : Well P h v (.list ds)) : ∃ (a : Addr) (vs : List Value), v = .ref a ∧ h.get? a = some { cls := .type "list", data := .seq vs.toArray } ∧ WellAll P h vs ds := by
  cases x with
  | list ho hall => exact ⟨_, _, rfl, ho, hall⟩
theorem well_tuple {P : Params} {h : Heap} {v : Value} {ds : List WData} (x : Well P h v (.tuple ds)) : ∃ (a : Addr) (vs : List Value), v = .ref a ∧ h.get? a = some { cls := .type "tuple", data := .seq vs.toArray } ∧ WellAll P h vs ds := by
  cases x with
  | tuple ho hall => exact ⟨_, _, rfl, ho, hall⟩
theorem well_cons {P : Params} {h : Heap} {us : List Value} {d : WData} {ds : List WData} (x : WellAll P h us (d :: ds)) : ∃ (v : Value) (vs : List Value), us = v :: vs ∧ Well P h v d ∧ WellAll P h vs ds := by
  cases x with
  | cons a b => exact ⟨_, _, rfl, a, b⟩
theorem line_of {n : Nat} (h : n ≤ 1048576) : n ≤ sizeLine := Nat.le_trans h (by decide)
section
variable {P : Params} {h : Heap}
mutual
theorem area_one : ∀ (d : WData) (v : Value), Well P h v d → plW d = true → d.weight ≤ 1048576 → ∃ A : List Addr, OkU A v ∧ ∀ a ∈ A, ArgOb h A a
  | .none, _, x, _, _ => by
    cases x
    exact ⟨[], trivial, fun a m => absurd m (by simp)⟩
  | .bool b, _, x, _, _ => by
    cases x
    exact ⟨[], trivial, fun a m => absurd m (by simp)⟩
  | .int i, _, x, _, _ => by
    cases x
    exact ⟨[], trivial, fun a m => absurd m (by simp)⟩
  | .str s, _, x, _, _ => by
    cases x
    exact ⟨[], trivial, fun a m => absurd m (by simp)⟩
  | .bytes b, _, x, _, _ => by
    cases x
    exact ⟨[], trivial, fun a m => absurd m (by simp)⟩
  | .list ds, _, x, p, z => by
    obtain ⟨a, vs, rfl, ho, hall⟩ := well_list x
    have z2 : WData.weightAll ds ≤ 1048576 := z
    obtain ⟨A, h1, h2⟩ := area_all ds _ hall p fun d hd => Nat.le_trans (weight_mem hd) z2
    have k : ∀ b ∈ A, b ∈ a :: A := fun b hb => List.mem_cons_of_mem _ hb
    refine ⟨a :: A, List.mem_cons_self .., fun b hb => ?_⟩
    rcases List.mem_cons.mp hb with e | m
    · rw [e]
      exact ⟨vs, line_of (by rw [wellAll_len hall]; exact Nat.le_trans (PySem.W.length_le_weightAllW ds) z2), fun u hu => (h1 u hu).mono k, .inl ho⟩
    · exact (h2 b m).mono k
  | .tuple ds, _, x, p, z => by
    obtain ⟨a, vs, rfl, ho, hall⟩ := well_tuple x
    have z2 : WData.weightAll ds ≤ 1048576 := z
    obtain ⟨A, h1, h2⟩ := area_all ds _ hall p fun d hd => Nat.le_trans (weight_mem hd) z2
    have k : ∀ b ∈ A, b ∈ a :: A := fun b hb => List.mem_cons_of_mem _ hb
    refine ⟨a :: A, List.mem_cons_self .., fun b hb => ?_⟩
    rcases List.mem_cons.mp hb with e | m
    · rw [e]
      exact ⟨vs, line_of (by rw [wellAll_len hall]; exact Nat.le_trans (PySem.W.length_le_weightAllW ds) z2), fun u hu => (h1 u hu).mono k, .inr ho⟩
    · exact (h2 b m).mono k
  | .float _, _, _, p, _ => Bool.noConfusion (show false = true from p)
  | .dict _, _, _, p, _ => Bool.noConfusion (show false = true from p)
  | .bytearray _, _, _, p, _ => Bool.noConfusion (show false = true from p)
  | .set _, _, _, p, _ => Bool.noConfusion (show false = true from p)
  | .frozenset _, _, _, p, _ => Bool.noConfusion (show false = true from p)
  | .obj _ _, _, _, p, _ => Bool.noConfusion (show false = true from p)
theorem area_all : ∀ (ds : List WData) (vs : List Value), WellAll P h vs ds → plWs ds = true → (∀ d ∈ ds, d.weight ≤ 1048576) → ∃ A : List Addr, (∀ u ∈ vs, OkU A u) ∧ ∀ a ∈ A, ArgOb h A a
  | [], _, x, _, _ => by
    cases x
    exact ⟨[], fun u m => absurd m (by simp), fun a m => absurd m (by simp)⟩
  | d :: ds, _, x, p, z => by
    obtain ⟨v, vs, rfl, x1, x2⟩ := well_cons x
    have q : plW d = true ∧ plWs ds = true := Bool.and_eq_true_iff.mp p
    obtain ⟨A, a1, a2⟩ := area_one d v x1 q.1 (z d (List.mem_cons_self ..))
    obtain ⟨B, b1, b2⟩ := area_all ds vs x2 q.2 fun e he => z e (List.mem_cons_of_mem _ he)
    have kA : ∀ b ∈ A, b ∈ A ++ B := fun b hb => List.mem_append.mpr (.inl hb)
    have kB : ∀ b ∈ B, b ∈ A ++ B := fun b hb => List.mem_append.mpr (.inr hb)
    refine ⟨A ++ B, fun u hu => ?_, fun b hb => ?_⟩
    · rcases List.mem_cons.mp hu with e | m
      · rw [e]
        exact a1.mono kA
      · exact (b1 u m).mono kB
    · rcases List.mem_append.mp hb with m | m
      · exact (a2 b m).mono kA
      · exact (b2 b m).mono kB
end
end
/-- what is tracked of an argument's object -/
def hoOf (o : Obj) : Option HO := match o.data with
  | .seq vs _ => if (o.cls == Value.type "list") = true then some (.frz o (.lst (vs.toList.map toV))) else some (.frz o (.tup (vs.toList.map toV)))
  | _ => none
def argH (K : PySem.W.Frag) (h : Heap) (A : List Addr) : Hp := fun b => if b ∈ A then (if (K.lookup b).isNone = true then (h.get? b).bind hoOf else none) else none
/-- nothing is tracked but what is known to the object -/
def OnlyF (H : Hp) : Prop := ∀ b, H b = none ∨ ∃ o u, H b = some (.frz o u)
theorem hoOf_lst (vs : List Value) : hoOf { cls := .type "list", data := .seq vs.toArray } = some (.frz { cls := .type "list", data := .seq vs.toArray } (.lst (vs.map toV))) := by
  show (if (Value.type "list" == Value.type "list") = true then some (HO.frz { cls := .type "list", data := .seq vs.toArray } (.lst (vs.toArray.toList.map toV))) else some (HO.frz { cls := .type "list", data := .seq vs.toArray } (.tup (vs.toArray.toList.map toV)))) = _
  rw [if_pos (beq_self_eq_true _)]
theorem hoOf_tup (vs : List Value) : hoOf { cls := .type "tuple", data := .seq vs.toArray } = some (.frz { cls := .type "tuple", data := .seq vs.toArray } (.tup (vs.map toV))) := by
  show (if (Value.type "tuple" == Value.type "list") = true then some (HO.frz { cls := .type "tuple", data := .seq vs.toArray } (.lst (vs.toArray.toList.map toV))) else some (HO.frz { cls := .type "tuple", data := .seq vs.toArray } (.tup (vs.toArray.toList.map toV)))) = _
  rw [if_neg (by decide)]
section
variable {P : Program} {w : World} {K : PySem.W.Frag} {h : Heap} {A : List Addr}
theorem argH_at {b : Addr} {o : Obj} (hb : b ∈ A) (hk : K.lookup b = none) (e : h.get? b = some o) : argH K h A b = hoOf o := by
  unfold argH
  rw [if_pos hb, hk, if_pos (show (none : Option Obj).isNone = true from rfl), e] <;> rfl
theorem of_argH {b : Addr} {u : HO} (q : argH K h A b = some u) : b ∈ A ∧ K.lookup b = none := by
  unfold argH at q
  by_cases hb : b ∈ A
  · rw [if_pos hb] at q
    cases hk : K.lookup b with
    | none => exact ⟨hb, rfl⟩
    | some o =>
      rw [hk, if_neg (by simp)] at q
      cases q
  · rw [if_neg hb] at q
    cases q
/-- what stands tracked -/
theorem argH_is (ar : ∀ a ∈ A, ArgOb h A a) {b : Addr} {u : HO} (q : argH K h A b = some u) : K.lookup b = none ∧ ∃ vs : List Value, vs.length ≤ sizeLine ∧ (∀ u ∈ vs, OkU A u) ∧
    ((h.get? b = some { cls := .type "list", data := .seq vs.toArray } ∧ u = .frz { cls := .type "list", data := .seq vs.toArray } (.lst (vs.map toV))) ∨
     (h.get? b = some { cls := .type "tuple", data := .seq vs.toArray } ∧ u = .frz { cls := .type "tuple", data := .seq vs.toArray } (.tup (vs.map toV)))) := by
  obtain ⟨hb, hk⟩ := of_argH q
  obtain ⟨vs, h1, h2, h3⟩ := ar b hb
  refine ⟨hk, vs, h1, h2, ?_⟩
  rcases h3 with e | e
  · rw [argH_at hb hk e, hoOf_lst] at q
    exact .inl ⟨e, (Option.some.inj q).symm⟩
  · rw [argH_at hb hk e, hoOf_tup] at q
    exact .inr ⟨e, (Option.some.inj q).symm⟩
theorem argH_only (ar : ∀ a ∈ A, ArgOb h A a) : OnlyF (argH K h A) := fun b => by
  cases q : argH K h A b with
  | none => exact .inl rfl
  | some u =>
    obtain ⟨_, vs, _, _, ⟨_, e⟩ | ⟨_, e⟩⟩ := argH_is ar q
    · exact .inr ⟨_, _, by rw [e]⟩
    · exact .inr ⟨_, _, by rw [e]⟩
theorem argH_ok (ar : ∀ a ∈ A, ArgOb h A a) : HOk P w (argH K h A) h := fun b u q => by
  obtain ⟨_, vs, h1, h2, ⟨e, rfl⟩ | ⟨e, rfl⟩⟩ := argH_is ar q
  · exact ⟨e, by rw [List.length_map]; exact h1, vs, _, vals_toV h2, e⟩
  · exact ⟨e, by rw [List.length_map]; exact h1, vs, vals_toV h2, _, e, rfl, _, rfl⟩
theorem seq_inj {c c' : Value} {vs us : List Value} (e : (some { cls := c, data := .seq vs.toArray } : Option Obj) = some { cls := c', data := .seq us.toArray }) : c = c' ∧ vs = us := by
  have e1 := Option.some.inj e
  have e2 : c = c' := congrArg Obj.cls e1
  have e3 : Data.seq vs.toArray = Data.seq us.toArray := congrArg Obj.data e1
  injection e3 with e4
  refine ⟨e2, ?_⟩
  have e5 := congrArg Array.toList e4
  simpa using e5
/-- a list argument -/
theorem argL (KX : K.In h) (ar : ∀ a ∈ A, ArgOb h A a) {a : Addr} {vs : List Value} (ha : a ∈ A) (e : h.get? a = some { cls := .type "list", data := .seq vs.toArray }) : (∀ u ∈ vs, OkU A u) ∧ SqL K (argH K h A) a (vs.map toV) := by
  obtain ⟨us, h1, h2, h3⟩ := ar a ha
  have hu : us = vs := by
    rcases h3 with q | q
    · rw [e] at q
      exact (seq_inj q).2.symm
    · rw [e] at q
      exact absurd (Value.type.inj (seq_inj q).1) (by decide)
  subst hu
  refine ⟨h2, ?_⟩
  cases hk : K.lookup a with
  | none => exact .inl (.inr ⟨_, by rw [argH_at ha hk e, hoOf_lst]⟩)
  | some o =>
    have e2 := KX a o hk
    rw [e] at e2
    obtain rfl := Option.some.inj e2
    exact .inr ⟨_, us.toArray, _, hk, rfl, rfl, rfl, by rw [List.size_toArray]; exact h1, by simpa using vals_toV h2⟩
theorem argT (KX : K.In h) (ar : ∀ a ∈ A, ArgOb h A a) {a : Addr} {vs : List Value} (ha : a ∈ A) (e : h.get? a = some { cls := .type "tuple", data := .seq vs.toArray }) : (∀ u ∈ vs, OkU A u) ∧ SqT K (argH K h A) a (vs.map toV) := by
  obtain ⟨us, h1, h2, h3⟩ := ar a ha
  have hu : us = vs := by
    rcases h3 with q | q
    · rw [e] at q
      exact absurd (Value.type.inj (seq_inj q).1) (by decide)
    · rw [e] at q
      exact (seq_inj q).2.symm
  subst hu
  refine ⟨h2, ?_⟩
  cases hk : K.lookup a with
  | none => exact .inl (.inr ⟨_, by rw [argH_at ha hk e, hoOf_tup]⟩)
  | some o =>
    have e2 := KX a o hk
    rw [e] at e2
    obtain rfl := Option.some.inj e2
    exact .inr ⟨_, us.toArray, _, hk, rfl, rfl, by rw [List.size_toArray]; exact h1, by simpa using vals_toV h2⟩
mutual
theorem dw_one {Pm : Params} (KX : K.In h) (ar : ∀ a ∈ A, ArgOb h A a) : ∀ (d : WData) (v : Value), Well Pm h v d → plW d = true → OkU A v → Dw K (argH K h A) (toV v) d
  | .none, _, x, _, _ => by
    cases x
    exact .non
  | .bool b, _, x, _, _ => by
    cases x
    exact .bl b
  | .int i, _, x, _, _ => by
    cases x
    exact .int i
  | .str s, _, x, _, _ => by
    cases x
    exact .str s
  | .bytes b, _, x, _, _ => by
    cases x
    have z := Dw.byt (K := K) (H := argH K h A) b.toArray
    exact z
  | .list ds, _, x, p, hu => by
    obtain ⟨a, vs, rfl, ho, hall⟩ := well_list x
    obtain ⟨h2, hs⟩ := argL KX ar hu ho
    exact .lst hs (dw_all KX ar ds _ hall p h2)
  | .tuple ds, _, x, p, hu => by
    obtain ⟨a, vs, rfl, ho, hall⟩ := well_tuple x
    obtain ⟨h2, hs⟩ := argT KX ar hu ho
    exact .tup hs (dw_all KX ar ds _ hall p h2)
  | .float _, _, _, p, _ => Bool.noConfusion (show false = true from p)
  | .dict _, _, _, p, _ => Bool.noConfusion (show false = true from p)
  | .bytearray _, _, _, p, _ => Bool.noConfusion (show false = true from p)
  | .set _, _, _, p, _ => Bool.noConfusion (show false = true from p)
  | .frozenset _, _, _, p, _ => Bool.noConfusion (show false = true from p)
  | .obj _ _, _, _, p, _ => Bool.noConfusion (show false = true from p)
theorem dw_all {Pm : Params} (KX : K.In h) (ar : ∀ a ∈ A, ArgOb h A a) : ∀ (ds : List WData) (vs : List Value), WellAll Pm h vs ds → plWs ds = true → (∀ u ∈ vs, OkU A u) → DwAll K (argH K h A) (vs.map toV) ds
  | [], _, x, _, _ => by
    cases x
    exact .nil
  | d :: ds, _, x, p, hu => by
    obtain ⟨v, vs, rfl, x1, x2⟩ := well_cons x
    have q : plW d = true ∧ plWs ds = true := Bool.and_eq_true_iff.mp p
    exact .cons (dw_one KX ar d v x1 q.1 (hu _ (List.mem_cons_self ..))) (dw_all KX ar ds vs x2 q.2 fun u m => hu u (List.mem_cons_of_mem _ m))
end
end
/-! ### the call -/
theorem spec_call {P : Program} {w : World} {K : PySem.W.Frag} {mg mb : Str → Option Value} {CX : CXT} {k : Nat} {fa : Addr} {fd : FuncData} {ps : List Str} {sp : Sp} {s₁ : Shared} {vals : List Value} {ds : List WData} {R : PySem.W.WRecords} {cl : Str → Option Addr} {d0 : WData}
    (KX : K.In s₁.heap) (hns : s₁.heap.Ns mainGlobals mg) (hb : s₁.heap.Ns builtinsNs mb) (hbb : ∀ x : Str, x ≠ "__name__" → mb x = bootBuiltins x) (hlim : s₁.heap.NoLimit) (hg : s₁.gens = #[])
    (hwl : WellAll w.params s₁.heap vals ds) (hpl : plWs ds = true) (hwt : ∀ d ∈ ds, d.weight ≤ 1048576) (hr : Room k callerA)
    (F : ∀ base : Heap, K.In base → base.Ns mainGlobals mg → FnOk P w K mg base CX k fa fd ps sp) (hbind : ∀ (s : Shared) (us : List Value), us.length = ps.length → BindsTo s fd ⟨us, []⟩ (ps.zip us)) (hlen : ds.length = ps.length)
    (hsp : ∀ (H : Hp) (xs : List V), OnlyF H → DwAll K H xs ds → sp xs H (fun v H' => Dw K H' v d0) fun _ _ _ => False)
    (hCX : ∀ H e s', CX [] H s₁ (fun _ _ _ => False) e s' → False) :
    codeAny (model P w) callerA (.call (.ref fa) ⟨vals, []⟩) (fun r s' => ∃ u as, r = .ok (.ret u) ∧ ReadsW R cl s'.heap u d0 as ∧ OldK s₁.heap s'.heap ∧ s'.os = s₁.os ∧ AllBare s'.gens) s₁ := by
  obtain ⟨A, ho, ar⟩ := area_all ds vals hwl hpl hwt
  have hO : OnlyF (argH K s₁.heap A) := argH_only ar
  have hok : HOk P w (argH K s₁.heap A) s₁.heap := argH_ok ar
  have hS := dw_all KX ar ds vals hwl hpl ho
  have hV := vals_toV ho
  have hK : ∀ b u, argH K s₁.heap A b = some u → K.lookup b = none := fun b u q => (argH_is ar q).1
  have noA : ∀ {b : Addr} {o : Obj} {es : Array DictEntry} {ep : Nat}, s₁.heap.get? b = some o → o.data = .dict es ep → argH K s₁.heap A b = none := fun {b o es ep} e d => by
    cases q : argH K s₁.heap A b with
    | none => rfl
    | some u =>
      obtain ⟨_, vs, _, _, ⟨e2, _⟩ | ⟨e2, _⟩⟩ := argH_is ar q
      · rw [e2] at e
        cases e
        have d' : Data.seq vs.toArray _ = Data.dict es ep := d
        cases d'
      · rw [e2] at e
        cases e
        have d' : Data.seq vs.toArray _ = Data.dict es ep := d
        cases d'
  generalize argH K s₁.heap A = H at hO hok hS hK noA
  have base_of : ∀ {b : Addr} {o : Obj}, s₁.heap.get? b = some o → H b = none → (hidT s₁.heap H).get? b = some o := fun e n => hidT_get e n
  have nsK : ∀ {b : Addr} {m : Str → Option Value}, s₁.heap.Ns b m → (hidT s₁.heap H).Ns b m := fun {b m} ⟨o, es, ep, e, d, r⟩ => ⟨o, es, ep, base_of e (noA e d), d, r⟩
  have nK : ∀ b o, K.lookup b = some o → H b = none := fun b o e => by
    cases q : H b with
    | none => rfl
    | some u =>
      rw [hK b u q] at e
      cases e
  have hKb : K.In (hidT s₁.heap H) := fun b o e => base_of (KX b o e) (nK b o e)
  have hM : Mod K mg (hidT s₁.heap H) := ⟨hKb, nsK hns, ⟨mb, nsK hb, hbb⟩, let ⟨mc, h1, h2⟩ := hlim; ⟨mc, nsK h1, h2⟩⟩
  have e0 : Env0 P w K mg (hidT s₁.heap H) callerA [] s₁ H := ⟨rfl, hM, fun b o e => of_hidT e, Nat.le_of_eq (hidT_size _ _), trivial, fun b hb => absurd (show b ∈ ([] : List Addr) from hb) (by simp), hok, .of_eq hg⟩
  have hl : vals.length = ps.length := by rw [wellAll_len hwl]; exact hlen
  refine codeAny_mono ((F _ hKb (nsK hns)).run callerA [] s₁ H ⟨vals, []⟩ vals (vals.map toV) _ _ hr e0 (hbind s₁ vals hl) hV (hsp H _ hO hS)) fun r s' x => ?_
  cases r with
  | error e => exact (hCX H e s' x).elim
  | ok fl =>
    cases fl with
    | next => exact False.elim x
    | brk => exact False.elim x
    | cont => exact False.elim x
    | ret u =>
      obtain ⟨v, H', os, bare, un, hok', r', q⟩ := x
      have kept : ∀ b o, s₁.heap.get? b = some o → s'.heap.get? b = some o := fun b o e => by
        cases q2 : H b with
        | none => exact un.keep b o e q2 (by intro z; exact absurd (show b ∈ ([] : List Addr) from z) (by simp)) (by simp)
        | some u2 =>
          rcases hO b with z | ⟨ob, u3, z⟩
          · rw [q2] at z
            cases z
          · have z2 := un.frzs b ob _ z
            obtain ⟨e1, _⟩ := hok b _ z
            obtain ⟨e2, _⟩ := hok' b _ z2
            rw [e] at e1
            cases e1
            exact e2
      have KX' : K.In s'.heap := fun b o e => kept b o (KX b o e)
      obtain ⟨as, hrd⟩ := Dw.reads (R := R) (cl := cl) hok' KX' d0 v u q r'
      exact ⟨u, as, rfl, hrd, OldK.of_keep kept, os, bare⟩
/-! ### the row -/
theorem layable_weight {ds : List WData} (h : WData.layableAll ds = true) : ∀ d ∈ ds, d.weight ≤ 1048576 := fun d hd =>
  (PySem.W.layableW_iff.mp (List.all_eq_true.mp h d hd)).2.2
theorem encAll_len : ∀ (cs : List Codec) (a : Codec.denoteAll cs), (Codec.encAll cs a).length = cs.length
  | [], _ => rfl
  | c :: cs, a => by
    show (Codec.encAll cs a.2).length + 1 = cs.length + 1
    rw [encAll_len cs a.2]
/-- the goal that k_headS leaves (case hc), from the promise of the row's def: whatever the arguments that the codecs let and the row asks for, the def gives what stands for enc (f ..) -/
theorem walk_spec {r : OpenSpec} {k : Nat} {q : Program} {loose : List Str} {XP : (Str → Option Value) → Heap → Prop} {YP : World → Heap → Prop} {d : DefRec} {K : Params → PySem.W.Frag} {CX : World → CXT} {ps : List Str} {sp : World → Sp}
    (hwell : r.wellSaid = true) (hdf : d.params.defaults = []) (hlen : r.args.length = ps.length) (hr : Room k callerA)
    (hY : ∀ (w : World) (h : Heap), YP w h → (K w.params).In h)
    (F : ∀ (w : World) (mg : Str → Option Value) (fa : Addr) (h : Heap), YP w h → (K w.params).In h → h.Ns mainGlobals mg → mg d.name = some (.ref fa) →
      ∃ fd : FuncData, (∀ (s : Shared) (us : List Value), us.length = ps.length → BindsTo s fd ⟨us, []⟩ (ps.zip us)) ∧
        ∀ base : Heap, (K w.params).In base → base.Ns mainGlobals mg → FnOk r.prog w (K w.params) mg base (CX w) k fa fd ps (sp w))
    (hsp : ∀ (w : World) (H : Hp) (xs : List V) (a : Codec.denoteAll r.args), OnlyF H → Codec.withinAll r.args a = true → Codec.app r.args r.asked a = true → DwAll (K w.params) H xs (Codec.encAll r.args a) →
      sp w xs H (fun v H' => Dw (K w.params) H' v (r.ret.enc (Codec.app r.args r.f a))) fun _ _ _ => False)
    (hCX : ∀ (w : World) (H : Hp) (s : Shared) (e : Value) (s' : Shared), CX w [] H s (fun _ _ _ => False) e s' → False) :
    PySem.W.WalkOS q loose XP YP r d [] (fun f vs => PySem.call f vs) := by
  intro w s_0 s₁ mg mb G Y fa o pm cd doc dV kV ho hd hcd hD hmg hg args vals as hpre hlay hrd hwl hlo
  obtain ⟨a, e1, e2⟩ := PySem.W.os_pre_some hpre
  obtain ⟨e3, hwi⟩ := Codec.encAll_of_decAll r.args args a e1
  subst e3
  have KX := hY w _ Y
  obtain ⟨fd, hb, hF⟩ := F w mg fa _ Y KX G.T.g hmg
  refine PySem.W.enter_call (codeAny_mono (spec_call (R := []) (cl := classAt s_0.heap) (d0 := r.ret.enc (Codec.app r.args r.f a)) KX G.T.g G.T.b G.T.builtins G.T.nolimit hg hwl (pl_encAll _ _) (layable_weight hlay) hr hF hb (by rw [encAll_len]; exact hlen)
    (fun H xs hO hS => hsp w H xs a hO hwi e2 hS) fun H e s' => hCX w H s₁ e s') fun r' s' hq => ?_)
  obtain ⟨u, as', rfl, h1, h2, h3, h4⟩ := hq
  exact ⟨.inl ⟨u, _, as', rfl, fun _ => rfl, h1, (OpenSpec.post_iff hwell hwi _ _).mpr rfl, fun z => Bool.noConfusion (show false = true from z)⟩, h2, h3, h4⟩
/-- the same where the promise hangs on the written part alone -/
theorem walk_specK {r : OpenSpec} {k : Nat} {q : Program} {loose : List Str} {XP : (Str → Option Value) → Heap → Prop} {YP : World → Heap → Prop} {d : DefRec} {K : Params → PySem.W.Frag} {CX : CXT} {ps : List Str} {sp : PySem.W.Frag → Sp}
    (hwell : r.wellSaid = true) (hdf : d.params.defaults = []) (hlen : r.args.length = ps.length) (hr : Room k callerA)
    (hY : ∀ (w : World) (h : Heap), YP w h → (K w.params).In h)
    (F : ∀ (w : World) (mg : Str → Option Value) (fa : Addr) (h : Heap), YP w h → (K w.params).In h → h.Ns mainGlobals mg → mg d.name = some (.ref fa) →
      ∃ fd : FuncData, (∀ (s : Shared) (us : List Value), us.length = ps.length → BindsTo s fd ⟨us, []⟩ (ps.zip us)) ∧
        ∀ base : Heap, (K w.params).In base → base.Ns mainGlobals mg → FnOk r.prog w (K w.params) mg base CX k fa fd ps (sp (K w.params)))
    (hsp : ∀ (K : PySem.W.Frag) (H : Hp) (xs : List V) (a : Codec.denoteAll r.args), OnlyF H → Codec.withinAll r.args a = true → Codec.app r.args r.asked a = true → DwAll K H xs (Codec.encAll r.args a) →
      sp K xs H (fun v H' => Dw K H' v (r.ret.enc (Codec.app r.args r.f a))) fun _ _ _ => False)
    (hCX : ∀ (H : Hp) (s : Shared) (e : Value) (s' : Shared), CX [] H s (fun _ _ _ => False) e s' → False) :
    PySem.W.WalkOS q loose XP YP r d [] (fun f vs => PySem.call f vs) :=
  walk_spec (K := K) (CX := fun _ => CX) (sp := fun w => sp (K w.params)) hwell hdf hlen hr hY F (fun w H xs a h1 h2 h3 h4 => hsp (K w.params) H xs a h1 h2 h3 h4) fun _ H s e s' => hCX H s e s'
end L2
-- rests on (row put in by the clerk, for the bench that shows a file only what it spells): KE.SpHead KE.OsShapes
end

/-! The program's own reckoning as plain functions over lists of naturals, and that it is the document's. -/
namespace Lc

def isAcross (a b : Nat) : Bool := a % 2 != b % 2
def isHeld3 (a e b : Nat) : Bool := isAcross a e || isAcross e b
/-- begun[-2], begun[-1] -/
def last2 (l : List Nat) : Nat := l.getD (l.length - 2) 0
def last1 (l : List Nat) : Nat := l.getD (l.length - 1) 0
def mayGo (b : List Nat) (e : Nat) : Bool := b.length == 1 || isHeld3 (last2 b) (last1 b) e
def longer1 (es : List Nat) (b : List Nat) : List (List Nat) := (es.filter fun e => !b.contains e && mayGo b e).map fun e => b ++ [e]
def oneLonger (bs : List (List Nat)) (es : List Nat) : List (List Nat) := bs.flatMap (longer1 es)
def iter (es : List Nat) : Nat → List (List Nat) → List (List Nat)
  | 0, bs => bs
  | n + 1, bs => iter es n (oneLonger bs es)
def finish (bs : List (List Nat)) : List (List Nat) := (bs.filter fun b => mayGo b 1).map fun b => b ++ [1]
def lacings (whole : List Nat) : List (List Nat) :=
  finish (iter (whole.filter fun e => decide (1 < e)) (whole.filter fun e => decide (1 < e)).length [[0]])

/-! ### held -/
theorem crossing_is (a b : Nat) : Uw74.crossing (a, b) = isAcross a b := rfl
theorem held_nil : Uw74.isHeld [] = true := rfl
theorem held_one (a : Nat) : Uw74.isHeld [a] = true := rfl
theorem held_two (a b : Nat) : Uw74.isHeld [a, b] = true := rfl
theorem held_cons3 (a b c : Nat) (l : List Nat) : Uw74.isHeld (a :: b :: c :: l) = (isHeld3 a b c && Uw74.isHeld (b :: c :: l)) := rfl

theorem held_snoc : ∀ (l : List Nat) (a b e : Nat), Uw74.isHeld (l ++ [a, b] ++ [e]) = (Uw74.isHeld (l ++ [a, b]) && isHeld3 a b e)
  | [], a, b, e => by
    show Uw74.isHeld [a, b, e] = (Uw74.isHeld [a, b] && isHeld3 a b e)
    rw [held_cons3, held_two, held_two]; simp
  | [x], a, b, e => by
    show Uw74.isHeld (x :: a :: b :: [e]) = (Uw74.isHeld (x :: a :: b :: []) && isHeld3 a b e)
    rw [held_cons3, held_cons3, held_cons3, held_two, held_two]; simp
  | x :: y :: l, a, b, e => by
    have ih := held_snoc (y :: l) a b e
    have h1 : ∃ z r, l ++ [a, b] = z :: r := by cases l with
      | nil => exact ⟨a, [b], rfl⟩
      | cons z r => exact ⟨z, r ++ [a, b], rfl⟩
    obtain ⟨z, r, hz⟩ := h1
    have e1 : (x :: y :: l) ++ [a, b] = x :: y :: z :: r := by
      show x :: y :: (l ++ [a, b]) = _
      rw [hz]
    have e2 : (y :: l) ++ [a, b] = y :: z :: r := by
      show y :: (l ++ [a, b]) = _
      rw [hz]
    rw [e1]
    rw [e2] at ih
    show Uw74.isHeld (x :: y :: z :: (r ++ [e])) = _
    rw [held_cons3, held_cons3, Bool.and_assoc]
    have ih' : Uw74.isHeld (y :: z :: (r ++ [e])) = (Uw74.isHeld (y :: z :: r) && isHeld3 a b e) := ih
    rw [ih']

theorem held_go (b : List Nat) (hb : b ≠ []) (e : Nat) : Uw74.isHeld (b ++ [e]) = (Uw74.isHeld b && mayGo b e) := by
  rcases Nat.lt_or_ge b.length 2 with h | h
  · match b, hb, h with
    | [a], _, _ => rfl
  · -- b = l ++ [x, y]
    have : ∃ l x y, b = l ++ [x, y] := by
      refine ⟨b.take (b.length - 2), last2 b, last1 b, ?_⟩
      conv => lhs; rw [← List.take_append_drop (b.length - 2) b]
      congr 1
      apply List.ext_getElem
      · simp; omega
      · intro i h1 h2
        simp at h2
        simp only [List.getElem_drop]
        match i, h2 with
        | 0, _ => simp [last2, List.getElem?_eq_getElem (show b.length - 2 < b.length by omega)]
        | 1, _ => simp [last1, List.getElem?_eq_getElem (show b.length - 1 < b.length by omega), show b.length - 2 + 1 = b.length - 1 by omega]
    obtain ⟨l, x, y, rfl⟩ := this
    rw [held_snoc]
    have e1 : last2 (l ++ [x, y]) = x := by simp [last2]
    have e2 : last1 (l ++ [x, y]) = y := by simp [last1]
    have e3 : ((l ++ [x, y]).length == 1) = false := by simp
    unfold mayGo
    rw [e1, e2, e3, Bool.false_or]

theorem held_pre : ∀ (r b : List Nat), Uw74.isHeld b = false → b ≠ [] → Uw74.isHeld (b ++ r) = false
  | [], b, h, _ => by rw [List.append_nil]; exact h
  | e :: r, b, h, hb => by
    have : b ++ e :: r = (b ++ [e]) ++ r := by simp
    rw [this]
    refine held_pre r (b ++ [e]) ?_ (by simp)
    rw [held_go b hb, h, Bool.false_and]

/-! ### the walk in layers is the walk in depth -/
theorem iter_append (es : List Nat) : ∀ (n : Nat) (xs ys : List (List Nat)), iter es n (xs ++ ys) = iter es n xs ++ iter es n ys
  | 0, _, _ => rfl
  | n + 1, xs, ys => by
    show iter es n (oneLonger (xs ++ ys) es) = iter es n (oneLonger xs es) ++ iter es n (oneLonger ys es)
    rw [show oneLonger (xs ++ ys) es = oneLonger xs es ++ oneLonger ys es from List.flatMap_append ..]
    exact iter_append es n _ _
theorem iter_nil (es : List Nat) : ∀ n : Nat, iter es n [] = []
  | 0 => rfl
  | n + 1 => iter_nil es n
theorem iter_flat (es : List Nat) (n : Nat) : ∀ xs : List (List Nat), iter es n xs = xs.flatMap fun b => iter es n [b]
  | [] => iter_nil es n
  | x :: xs => by
    rw [List.flatMap_cons, ← iter_flat es n xs, ← iter_append]
    rfl
theorem finish_flat {α : Type} (f : α → List (List Nat)) : ∀ xs : List α, finish (xs.flatMap f) = xs.flatMap fun b => finish (f b)
  | [] => rfl
  | x :: xs => by
    rw [List.flatMap_cons, List.flatMap_cons, ← finish_flat f xs]
    unfold finish
    rw [List.filter_append, List.map_append]

theorem flatMap_filter {α β : Type} (p : α → Bool) (f : α → List β) (g : α → List β) : ∀ xs : List α,
    (∀ x ∈ xs, p x = true → f x = g x) → (∀ x ∈ xs, p x = false → g x = []) → (xs.filter p).flatMap f = xs.flatMap g
  | [], _, _ => rfl
  | x :: xs, h1, h2 => by
    have ih := flatMap_filter p f g xs (fun y hy => h1 y (List.mem_cons_of_mem _ hy)) (fun y hy => h2 y (List.mem_cons_of_mem _ hy))
    rw [List.flatMap_cons]
    cases e : p x with
    | true => rw [List.filter_cons_of_pos e, List.flatMap_cons, ih, h1 x List.mem_cons_self e]
    | false => rw [List.filter_cons_of_neg (by simp [e]), ih, h2 x List.mem_cons_self e, List.nil_append]

theorem filter_flatMap {α β : Type} (p : β → Bool) (f : α → List β) : ∀ xs : List α, (xs.flatMap f).filter p = xs.flatMap fun x => (f x).filter p
  | [] => rfl
  | x :: xs => by rw [List.flatMap_cons, List.filter_append, filter_flatMap p f xs, List.flatMap_cons]

def left (es b : List Nat) : List Nat := es.filter fun e => !b.contains e

theorem left_snoc (es b : List Nat) (e : Nat) : left es (b ++ [e]) = (left es b).filter fun x => x != e := by
  unfold left
  rw [List.filter_filter]
  congr 1
  funext x
  simp only [List.contains_eq_mem, List.mem_append, List.mem_singleton, bne]
  by_cases h1 : x ∈ b <;> by_cases h2 : x = e <;> simp [h1, h2]

theorem length_ne {l : List Nat} (nd : l.Nodup) {e : Nat} (he : e ∈ l) : (l.filter fun x => x != e).length + 1 = l.length := by
  induction l with
  | nil => simp at he
  | cons a l ih =>
    rw [List.nodup_cons] at nd
    rcases List.mem_cons.mp he with rfl | h
    · have : (l.filter fun x => x != e) = l := List.filter_eq_self.mpr fun x hx => by
        simp only [bne_iff_ne]; rintro rfl; exact nd.1 hx
      rw [List.filter_cons_of_neg (by simp), this, List.length_cons]
    · have hne : a ≠ e := by rintro rfl; exact nd.1 h
      rw [List.filter_cons_of_pos (by simpa using hne), List.length_cons, List.length_cons, ih nd.2 h]

theorem walk {es : List Nat} (nd : es.Nodup) : ∀ (n : Nat) (b : List Nat), b ≠ [] → Uw74.isHeld b = true → (left es b).length = n →
    finish (iter es n [b]) = ((Uw74.orders n (left es b)).map fun r => b ++ (r ++ [1])).filter Uw74.isHeld
  | 0, b, hb, hh, _ => by
    show finish [b] = (([[]] : List (List Nat)).map fun r => b ++ (r ++ [1])).filter Uw74.isHeld
    show finish [b] = ([b ++ [1]] : List (List Nat)).filter Uw74.isHeld
    unfold finish
    have e := held_go b hb 1
    rw [hh, Bool.true_and] at e
    cases h : mayGo b 1 with
    | true => rw [h] at e; simp [h, e]
    | false => rw [h] at e; simp [h, e]
  | n + 1, b, hb, hh, hn => by
    show finish (iter es n (oneLonger [b] es)) = _
    rw [iter_flat, finish_flat]
    have e1 : oneLonger [b] es = ((left es b).filter (mayGo b)).map fun e => b ++ [e] := by
      show longer1 es b ++ [] = _
      rw [List.append_nil]
      unfold longer1 left
      rw [List.filter_filter]
      congr 2
      funext x
      rw [Bool.and_comm]
    rw [e1, List.flatMap_map]
    show _ = (((left es b).flatMap fun e => (Uw74.orders n ((left es b).filter fun x => x != e)).map fun r => e :: r).map fun r => b ++ (r ++ [1])).filter Uw74.isHeld
    rw [List.map_flatMap, filter_flatMap]
    have ndl : (left es b).Nodup := nd.filter _
    refine flatMap_filter (mayGo b) _ _ (left es b) (fun e he hm => ?_) (fun e he hm => ?_)
    · have hl : (left es (b ++ [e])).length = n := by
        rw [left_snoc]
        have := length_ne ndl he
        omega
      rw [walk nd n (b ++ [e]) (by simp) (by rw [held_go b hb, hh, hm]; rfl) hl, left_snoc, List.map_map]
      congr 2
      funext r
      simp
    · rw [List.map_map]
      apply List.filter_eq_nil_iff.mpr
      intro l hl
      obtain ⟨r, _, rfl⟩ := List.mem_map.mp hl
      have : b ++ (e :: r ++ [1]) = (b ++ [e]) ++ (r ++ [1]) := by simp
      show ¬ Uw74.isHeld (b ++ (e :: r ++ [1])) = true
      rw [this, held_pre _ _ (by rw [held_go b hb, hm, Bool.and_false]) (by simp)]
      simp

theorem inner_nodup (s : Uw74.Shoe) : (Uw74.inner s).Nodup := List.nodup_range.filter _

/-- what the program keeps as whole -/
def whole (s : Uw74.Shoe) : List Nat := (List.range (2 * s.rows)).filter fun e => !s.torn.contains e

theorem whole_between (s : Uw74.Shoe) : ((whole s).filter fun e => decide (1 < e)) = Uw74.inner s := by
  unfold whole Uw74.inner
  rw [List.filter_filter]
  rfl

theorem lacings_all (s : Uw74.Shoe) : lacings (whole s) = Uw74.all s := by
  unfold lacings Uw74.all
  rw [whole_between]
  have h0 : left (Uw74.inner s) [0] = Uw74.inner s := List.filter_eq_self.mpr fun x hx => by
    have : 2 ≤ x := by
      have := (List.mem_filter.mp hx).2
      simp at this
      exact this.1
    have : x ≠ 0 := by omega
    simp [this]
  have := walk (inner_nodup s) (Uw74.inner s).length [0] (by simp) rfl (by rw [h0])
  rw [this, h0]
  rfl
end Lc

namespace Lc
/-! ### a row is a lacing -/
theorem perm_pick {l : List Nat} (nd : l.Nodup) {e : Nat} (he : e ∈ l) : (e :: l.filter fun x => x != e).Perm l := by
  have h := (List.perm_cons_erase he).symm
  rw [List.Nodup.erase_eq_filter nd e] at h
  exact h

theorem mem_orders : ∀ (n : Nat) (l r : List Nat), l.Nodup → l.length = n → (r ∈ Uw74.orders n l ↔ r.Perm l)
  | 0, l, r, _, hl => by
    have e : l = [] := List.length_eq_zero_iff.mp hl
    subst e
    show r ∈ [[]] ↔ _
    rw [List.mem_singleton, List.perm_nil]
  | n + 1, l, r, nd, hl => by
    show r ∈ (l.flatMap fun e => (Uw74.orders n (l.filter fun x => x != e)).map fun r => e :: r) ↔ _
    rw [List.mem_flatMap]
    constructor
    · rintro ⟨e, he, h⟩
      obtain ⟨r', hr', rfl⟩ := List.mem_map.mp h
      have hle := length_ne nd he
      have := (mem_orders n _ r' (nd.filter _) (by omega)).mp hr'
      exact (this.cons e).trans (perm_pick nd he)
    · intro h
      match r, h with
      | [], h => have := h.length_eq; simp at this; omega
      | e :: r', h =>
        have he : e ∈ l := h.mem_iff.mp List.mem_cons_self
        have hle := length_ne nd he
        refine ⟨e, he, List.mem_map.mpr ⟨r', (mem_orders n _ r' (nd.filter _) (by omega)).mpr ?_, rfl⟩⟩
        exact (List.perm_cons e).mp (h.trans (perm_pick nd he).symm)

/-- 0 and 1 are never torn -/
structure Fit (s : Uw74.Shoe) : Prop where
  two : 2 ≤ s.rows
  four : s.rows ≤ 4
  zero : 0 ∉ s.torn
  one : 1 ∉ s.torn
  across : s.across.length = s.rows
  along : s.along.length = s.rows - 1

theorem range_two {n : Nat} (h : 2 ≤ n) : List.range n = 0 :: 1 :: (List.range n).filter (fun e => decide (2 ≤ e)) := by
  obtain ⟨m, rfl⟩ : ∃ m, n = m + 2 := ⟨n - 2, by omega⟩
  rw [show m + 2 = (m + 1) + 1 from rfl, List.range_succ_eq_map, List.range_succ_eq_map]
  simp only [List.map_cons, List.map_map, List.filter_cons]
  simp
  rw [List.filter_eq_self.mpr]
  intro x hx
  obtain ⟨y, _, rfl⟩ := List.mem_map.mp hx
  simp

theorem whole_eq {s : Uw74.Shoe} (F : Fit s) : whole s = 0 :: 1 :: Uw74.inner s := by
  unfold whole
  have h := range_two (n := 2 * s.rows) (by have := F.two; omega)
  rw [h, List.filter_cons_of_pos (by simp [F.zero]), List.filter_cons_of_pos (by simp [F.one]), List.filter_filter]
  unfold Uw74.inner
  congr 3
  funext x
  rw [Bool.and_comm]

theorem whole_sorted (s : Uw74.Shoe) : (whole s).Pairwise (· < ·) := List.Pairwise.filter _ List.pairwise_lt_range
theorem whole_nodup (s : Uw74.Shoe) : (whole s).Nodup := List.nodup_range.filter _

theorem ends_split : ∀ (row : List Nat), 2 ≤ row.length → ∃ r, row = row.getD 0 0 :: (r ++ [last1 row]) := by
  intro row h
  match row, h with
  | a :: b :: l, _ =>
    refine ⟨(b :: l).dropLast, ?_⟩
    have e : last1 (a :: b :: l) = (b :: l).getLast (by simp) := by
      unfold last1
      simp [List.getLast_eq_getElem]
    rw [e]
    simp only [List.getD_cons_zero]
    congr 1
    exact (List.dropLast_concat_getLast (by simp)).symm

theorem isLacing_perm {s : Uw74.Shoe} (F : Fit s) {row : List Nat} (h : row.Perm (whole s)) :
    Uw74.isLacing s row = (row.getD 0 0 == 0 && last1 row == 1 && Uw74.isHeld row) := by
  have hw := whole_eq F
  rw [Bool.eq_iff_iff]
  unfold Uw74.isLacing Uw74.all
  rw [List.contains_iff_mem, List.mem_filter, List.mem_map]
  constructor
  · rintro ⟨⟨r, _, rfl⟩, hh⟩
    rw [hh]
    simp [last1]
  · intro hb
    rw [Bool.and_eq_true, Bool.and_eq_true] at hb
    obtain ⟨⟨h0, h1⟩, hh⟩ := hb
    refine ⟨?_, hh⟩
    have h2 : 2 ≤ row.length := by rw [h.length_eq, hw]; simp
    obtain ⟨r, hr⟩ := ends_split row h2
    rw [eq_of_beq h0, eq_of_beq h1] at hr
    refine ⟨r, ?_, hr.symm⟩
    rw [mem_orders _ _ _ (inner_nodup s) rfl]
    rw [hr, hw] at h
    have h3 : (r ++ [1]).Perm (1 :: Uw74.inner s) := (List.perm_cons 0).mp h
    have h4 : (1 :: r).Perm (1 :: Uw74.inner s) := (List.perm_append_singleton 1 r).symm.trans h3
    exact (List.perm_cons 1).mp h4

theorem isLacing_mem {s : Uw74.Shoe} {row : List Nat} (h : Uw74.isLacing s row = true) : row ∈ Uw74.all s := by
  unfold Uw74.isLacing at h
  exact List.contains_iff_mem.mp h

theorem all_perm {s : Uw74.Shoe} (F : Fit s) {row : List Nat} (h : row ∈ Uw74.all s) : row.Perm (whole s) := by
  unfold Uw74.all at h
  obtain ⟨h1, _⟩ := List.mem_filter.mp h
  obtain ⟨r, hr, rfl⟩ := List.mem_map.mp h1
  have hp := (mem_orders _ _ _ (inner_nodup s) rfl).mp hr
  rw [whole_eq F]
  exact List.Perm.cons 0 ((List.perm_append_singleton 1 r).trans (hp.cons 1))

theorem isLacing_not {s : Uw74.Shoe} (F : Fit s) {row : List Nat} (h : ¬ row.Perm (whole s)) : Uw74.isLacing s row = false := by
  cases e : Uw74.isLacing s row with
  | false => rfl
  | true => exact absurd (all_perm F (isLacing_mem e)) h

theorem sorted_unique : ∀ {l m : List Nat}, l.Perm m → l.Pairwise (· ≤ ·) → m.Pairwise (· ≤ ·) → l = m
  | [], m, h, _, _ => (List.nil_perm.mp h).symm
  | a :: l, [], h, _, _ => by have := h.length_eq; simp at this
  | a :: l, b :: m, h, hl, hm => by
    have hab : a = b := by
      have h1 : a ∈ b :: m := h.mem_iff.mp List.mem_cons_self
      have h2 : b ∈ a :: l := h.mem_iff.mpr List.mem_cons_self
      rcases List.mem_cons.mp h1 with e | h1
      · exact e
      · rcases List.mem_cons.mp h2 with e | h2
        · exact e.symm
        · have i1 := (List.pairwise_cons.mp hm).1 a h1
          have i2 := (List.pairwise_cons.mp hl).1 b h2
          omega
    subst hab
    rw [sorted_unique ((List.perm_cons a).mp h) (List.pairwise_cons.mp hl).2 (List.pairwise_cons.mp hm).2]

/-- what sorted(row) == whole asks -/
theorem sorted_is {s : Uw74.Shoe} {row ns : List Nat} (hp : ns.Perm row) (hs : ns.Pairwise (· ≤ ·)) : ns = whole s ↔ row.Perm (whole s) := by
  constructor
  · rintro rfl; exact hp.symm
  · intro h
    exact sorted_unique (hp.trans h) hs ((whole_sorted s).imp Nat.le_of_lt)

/-- the tests that all() is given -/
def heldList (row : List Nat) : List Bool := (List.range (row.length - 2)).map fun i => isHeld3 (row.getD i 0) (row.getD (i + 1) 0) (row.getD (i + 2) 0)
theorem heldList_all : ∀ row : List Nat, (heldList row).all id = Uw74.isHeld row
  | [] => rfl
  | [_] => rfl
  | [_, _] => rfl
  | a :: b :: c :: l => by
    have ih := heldList_all (b :: c :: l)
    rw [held_cons3, ← ih]
    unfold heldList
    show (List.map _ (List.range (l.length + 1))).all id = (_ && (List.map _ (List.range l.length)).all id)
    rw [List.range_succ_eq_map, List.map_cons, List.all_cons, List.map_map]
    rfl
end Lc

namespace Lc
/-! ### how long -/
def apartI (a b : Nat) : Nat := Uw74.apart (a / 2) (b / 2)
/-- across, and along with a 0 ahead -/
def pieceLen (ac al : List Nat) (a b : Nat) : Nat := if isAcross a b = true then ac.getD (apartI a b) 0 else (0 :: al).getD (apartI a b) 0
theorem pieceLen_is (s : Uw74.Shoe) {a b : Nat} (h : a ≠ b) : pieceLen s.across s.along a b = Uw74.piece s a b := by
  unfold pieceLen Uw74.piece apartI isAcross Uw74.rowOf Uw74.side
  by_cases e : a % 2 = b % 2
  · have hk : Uw74.apart (a / 2) (b / 2) ≠ 0 := by unfold Uw74.apart; omega
    simp only [e, bne_self_eq_false, if_true]
    obtain ⟨k, hk'⟩ : ∃ k, Uw74.apart (a / 2) (b / 2) = k + 1 := ⟨_, (Nat.succ_pred hk).symm⟩
    rw [hk', List.getD_cons_succ]
    simp
  · have : (a % 2 != b % 2) = true := by simpa using e
    rw [if_pos this, if_neg e]
def longM (ac al l : List Nat) : List Nat := (Uw74.pieces l).map fun p => pieceLen ac al p.1 p.2
theorem foldl_add : ∀ (l : List Nat) (a : Nat), l.foldl (fun a b => a + b) a = a + l.sum
  | [], a => by simp
  | x :: l, a => by rw [List.foldl_cons, foldl_add l, List.sum_cons]; omega
theorem total_sum (l : List Nat) : Uw74.total l = l.sum := by unfold Uw74.total; rw [foldl_add]; omega
theorem pieces_ne : ∀ {l : List Nat}, l.Nodup → ∀ p ∈ Uw74.pieces l, p.1 ≠ p.2
  | [], _, p, h => by simp [Uw74.pieces] at h
  | [a], _, p, h => by simp [Uw74.pieces] at h
  | a :: b :: l, nd, p, h => by
    have e : Uw74.pieces (a :: b :: l) = (a, b) :: Uw74.pieces (b :: l) := rfl
    rw [e] at h
    rw [List.nodup_cons] at nd
    rcases List.mem_cons.mp h with rfl | h
    · intro e2
      have e3 : a = b := e2
      exact nd.1 (by rw [e3]; exact List.mem_cons_self)
    · exact pieces_ne nd.2 p h
theorem long_is (s : Uw74.Shoe) {l : List Nat} (nd : l.Nodup) : (longM s.across s.along l).sum = Uw74.long s l := by
  unfold longM Uw74.long
  rw [total_sum]
  congr 1
  apply List.map_congr_left
  intro p hp
  exact pieceLen_is s (pieces_ne nd p hp)
theorem all_nodup {s : Uw74.Shoe} (F : Fit s) {l : List Nat} (h : l ∈ Uw74.all s) : l.Nodup := (all_perm F h).nodup_iff.mpr (whole_nodup s)
theorem all_lt {s : Uw74.Shoe} (F : Fit s) {l : List Nat} (h : l ∈ Uw74.all s) : ∀ x ∈ l, x < 2 * s.rows := fun x hx => by
  have := (all_perm F h).mem_iff.mp hx
  exact List.mem_range.mp (List.mem_filter.mp this).1

/-! ### crossings -/
def ltP (p q : Nat × Nat) : Bool := decide (p.1 < q.1) && decide (q.2 < p.2)
def cnt (p : Nat × Nat) (l : List (Nat × Nat)) : Nat := (l.filter fun q => ltP p q).length
def cc (l : List (Nat × Nat)) : Nat := (l.map fun p => cnt p l).sum
theorem cross_or (p q : Nat × Nat) : Uw74.cross p q = (ltP p q || ltP q p) := rfl
theorem ltP_irr (p : Nat × Nat) : ltP p p = false := by simp [ltP]
theorem ltP_as (p q : Nat × Nat) (h : ltP p q = true) : ltP q p = false := by
  simp [ltP] at *; omega
theorem len_or (x : Nat × Nat) : ∀ l : List (Nat × Nat), (l.filter fun y => Uw74.cross x y).length = cnt x l + (l.filter fun p => ltP p x).length
  | [] => rfl
  | y :: l => by
    have ih := len_or x l
    unfold cnt at ih ⊢
    simp only [List.filter_cons, cross_or] at ih ⊢
    cases h1 : ltP x y with
    | true => rw [ltP_as _ _ h1]; simp [ih]; omega
    | false =>
      cases h2 : ltP y x with
      | true => simp [ih]; omega
      | false => simp [ih]
theorem sum_split (x : Nat × Nat) (m : List (Nat × Nat)) : ∀ l : List (Nat × Nat), (l.map fun p => cnt p (x :: m)).sum = (l.filter fun p => ltP p x).length + (l.map fun p => cnt p m).sum
  | [] => rfl
  | y :: l => by
    have ih := sum_split x m l
    rw [List.map_cons, List.sum_cons, List.map_cons, List.sum_cons, ih]
    have e : cnt y (x :: m) = (if ltP y x = true then 1 else 0) + cnt y m := by
      unfold cnt
      rw [List.filter_cons]
      by_cases h : ltP y x = true
      · rw [if_pos h, if_pos h, List.length_cons]; omega
      · rw [if_neg h, if_neg h]; omega
    rw [e, List.filter_cons]
    by_cases h : ltP y x = true
    · rw [if_pos h, if_pos h, List.length_cons]; omega
    · rw [if_neg h, if_neg h]; omega
theorem cc_is : ∀ l : List (Nat × Nat), cc l = ((Uw74.pairsOf l).filter fun x => Uw74.cross x.1 x.2).length
  | [] => rfl
  | x :: l => by
    have ih := cc_is l
    have e1 : cc (x :: l) = cnt x (x :: l) + (l.map fun p => cnt p (x :: l)).sum := by
      unfold cc; rw [List.map_cons, List.sum_cons]
    have e2 : cnt x (x :: l) = cnt x l := by
      unfold cnt; rw [List.filter_cons, ltP_irr, if_neg (by simp)]
    rw [e1, e2, sum_split]
    show _ = (((l.map fun y => (x, y)) ++ Uw74.pairsOf l).filter fun x => Uw74.cross x.1 x.2).length
    rw [List.filter_append, List.length_append, ← ih, List.filter_map, List.length_map]
    have e3 := len_or x l
    show _ = (l.filter fun y => Uw74.cross x y).length + cc l
    rw [e3]
    unfold cc
    omega
def joined (l : List Nat) : List (Nat × Nat) := ((Uw74.pieces l).filter Uw74.crossing).map Uw74.ends
theorem crossings_is (l : List Nat) : Uw74.crossings l = cc (joined l) := (cc_is _).symm

/-! ### in a mirror -/
theorem beside_xor (e : Nat) : Uw74.beside e = e ^^^ 1 := by
  unfold Uw74.beside
  apply Nat.eq_of_testBit_eq
  intro i
  rw [Nat.testBit_xor]
  by_cases h : e % 2 = 0
  · rw [if_pos h]
    obtain ⟨k, rfl⟩ : ∃ k, e = 2 * k := ⟨e / 2, by omega⟩
    cases i with
    | zero => simp
    | succ i =>
      rw [Nat.testBit_succ, Nat.testBit_succ, Nat.testBit_succ, show (2 * k + 1) / 2 = k by omega, show 2 * k / 2 = k by omega]
      simp
  · rw [if_neg h]
    obtain ⟨k, rfl⟩ : ∃ k, e = 2 * k + 1 := ⟨e / 2, by omega⟩
    cases i with
    | zero => simp
    | succ i =>
      rw [Nat.testBit_succ, Nat.testBit_succ, Nat.testBit_succ, show (2 * k + 1 - 1) / 2 = k by omega, show (2 * k + 1) / 2 = k by omega]
      simp

/-! ### the least, the greatest -/
theorem foldl_min : ∀ (l : List Nat) (a m : Nat), m ∈ a :: l → (∀ y ∈ a :: l, m ≤ y) → l.foldl min a = m
  | [], a, m, h, _ => by simp at h; exact h.symm
  | b :: l, a, m, h, hm => by
    rw [List.foldl_cons]
    refine foldl_min l (min a b) m ?_ ?_
    · have h1 := hm a List.mem_cons_self
      have h2 := hm b (List.mem_cons_of_mem _ List.mem_cons_self)
      rcases List.mem_cons.mp h with rfl | h
      · have : min m b = m := by omega
        rw [this]; exact List.mem_cons_self
      · rcases List.mem_cons.mp h with rfl | h
        · have : min a m = m := by omega
          rw [this]; exact List.mem_cons_self
        · exact List.mem_cons_of_mem _ h
    · intro y hy
      rcases List.mem_cons.mp hy with rfl | hy
      · have h1 := hm a List.mem_cons_self
        have h2 := hm b (List.mem_cons_of_mem _ List.mem_cons_self)
        omega
      · exact hm y (List.mem_cons_of_mem _ (List.mem_cons_of_mem _ hy))
theorem foldl_max : ∀ (l : List Nat) (a m : Nat), m ∈ a :: l → (∀ y ∈ a :: l, y ≤ m) → l.foldl max a = m
  | [], a, m, h, _ => by simp at h; exact h.symm
  | b :: l, a, m, h, hm => by
    rw [List.foldl_cons]
    refine foldl_max l (max a b) m ?_ ?_
    · have h1 := hm a List.mem_cons_self
      have h2 := hm b (List.mem_cons_of_mem _ List.mem_cons_self)
      rcases List.mem_cons.mp h with rfl | h
      · have : max m b = m := by omega
        rw [this]; exact List.mem_cons_self
      · rcases List.mem_cons.mp h with rfl | h
        · have : max a m = m := by omega
          rw [this]; exact List.mem_cons_self
        · exact List.mem_cons_of_mem _ h
    · intro y hy
      rcases List.mem_cons.mp hy with rfl | hy
      · have h1 := hm a List.mem_cons_self
        have h2 := hm b (List.mem_cons_of_mem _ List.mem_cons_self)
        omega
      · exact hm y (List.mem_cons_of_mem _ (List.mem_cons_of_mem _ hy))
theorem least_is {f : List Nat → Nat} : ∀ {L : List (List Nat)} {m : Nat}, m ∈ L.map f → (∀ y ∈ L.map f, m ≤ y) →
    Uw74.least f L = some (m, (L.filter fun y => f y == m).length, (L.filter fun y => f y == m).headD [])
  | [], m, h, _ => by simp at h
  | x :: r, m, h, hm => by
    have e := foldl_min (r.map f) (f x) m h hm
    unfold Uw74.least
    simp only [e]
theorem greatest_is {f : List Nat → Nat} : ∀ {L : List (List Nat)} {m : Nat}, m ∈ L.map f → (∀ y ∈ L.map f, y ≤ m) →
    Uw74.greatest f L = some (m, (L.filter fun y => f y == m).length, (L.filter fun y => f y == m).headD [])
  | [], m, h, _ => by simp at h
  | x :: r, m, h, hm => by
    have e := foldl_max (r.map f) (f x) m h hm
    unfold Uw74.greatest
    simp only [e]
/-- lengths.count(least) -/
theorem count_is {f : List Nat → Nat} (m : Nat) : ∀ L : List (List Nat), (L.filter fun y => f y == m).length = (L.map f).count m
  | [] => rfl
  | x :: L => by
    rw [List.map_cons, List.count_cons, ← count_is m L, List.filter_cons]
    by_cases h : (f x == m) = true
    · rw [if_pos h, if_pos h, List.length_cons]
    · rw [if_neg h, if_neg h]; rfl
/-- laced[lengths.index(least)] -/
theorem first_is {f : List Nat → Nat} {m : Nat} : ∀ {L : List (List Nat)} {j : Nat} {l : List Nat}, L[j]? = some l → f l = m → (∀ i l', i < j → L[i]? = some l' → f l' ≠ m) → (L.filter fun y => f y == m).headD [] = l
  | [], j, l, h, _, _ => by simp at h
  | x :: L, 0, l, h, hf, _ => by
    have : x = l := by simpa using h
    subst this
    rw [List.filter_cons_of_pos (by simpa using hf)]; rfl
  | x :: L, j + 1, l, h, hf, hno => by
    have hx : f x ≠ m := hno 0 x (by omega) rfl
    rw [List.filter_cons_of_neg (by simpa using hx)]
    refine first_is (j := j) (by simpa using h) hf fun i l' hi hl => ?_
    exact hno (i + 1) l' (by omega) (by simpa using hl)
end Lc

namespace Lc
/-! ### the calls, one behind another -/
def toN (l : List Int) : List Nat := l.map Int.toNat
/-- one call is taken from the list: what it is, what is left -/
inductive Take : List Int → Uw74.Call → List Int → Prop where
  | shoe {n m : Int} {r : List Int} (h : 0 ≤ m) (hl : m.toNat ≤ r.length) (h12 : m.toNat ≤ 12) : Take (0 :: n :: m :: r) (.shoe n.toNat (toN (r.take m.toNat))) (r.drop m.toNat)
  | tear {e : Int} {r : List Int} : Take (1 :: e :: r) (.tear e.toNat) r
  | mend {e : Int} {r : List Int} : Take (2 :: e :: r) (.mend e.toNat) r
  | is {m : Int} {r : List Int} (h : 0 ≤ m) (hl : m.toNat ≤ r.length) (h12 : m.toNat ≤ 12) : Take (3 :: m :: r) (.is (toN (r.take m.toNat))) (r.drop m.toNat)
  | look {m : Int} {r : List Int} (h : 0 ≤ m) (hl : m.toNat ≤ r.length) (h12 : m.toNat ≤ 12) : Take (4 :: m :: r) (.look (toN (r.take m.toNat))) (r.drop m.toNat)
  | shortest {r : List Int} : Take (5 :: r) .shortest r
  | most {e : Int} {r : List Int} : Take (6 :: e :: r) (.most e.toNat) r
  | flattest {r : List Int} : Take (7 :: r) .flattest r
  | even {r : List Int} : Take (8 :: r) .even r
  | which {e : Int} {r : List Int} : Take (9 :: e :: r) (.which e.toNat) r
  | mirror {m : Int} {r : List Int} (h : 0 ≤ m) (hl : m.toNat ≤ r.length) (h12 : m.toNat ≤ 12) : Take (10 :: m :: r) (.mirror (toN (r.take m.toNat))) (r.drop m.toNat)

/-- what is left to be told -/
def tail (st : Uw74.Shoe) (cs : List (List (List Int))) : List Int :=
  PyFlat.told (PyFlat.played (fun s c => Uw74Neutral.step s (c.headD [])) st (cs.map PyUw74.whole))
theorem tail_nil (st : Uw74.Shoe) : tail st [] = [] := rfl
theorem tail_cons (st : Uw74.Shoe) (c : List (List Int)) (cs : List (List (List Int))) {x : Uw74.Call} (h : Uw74Neutral.step st ((PyUw74.whole c).headD []) = Uw74.step st x) :
    tail st (c :: cs) = (((Uw74.step st x).2.length : Nat) : Int) :: (Uw74.step st x).2 ++ tail (Uw74.step st x).1 cs := by
  unfold tail
  rw [List.map_cons]
  show PyFlat.told ((Uw74Neutral.step st ((PyUw74.whole c).headD [])).2 :: PyFlat.played _ (Uw74Neutral.step st ((PyUw74.whole c).headD [])).1 (cs.map PyUw74.whole)) = _
  rw [h]
  unfold PyFlat.told
  rw [List.flatMap_cons]

theorem row_inv {l x t : List Int} (h : PyFlat.row l = some (x, t)) : ∃ m r, l = m :: r ∧ 0 ≤ m ∧ m.toNat ≤ r.length ∧ x = r.take m.toNat ∧ t = r.drop m.toNat := by
  cases l with
  | nil => cases h
  | cons m r =>
    simp only [PyFlat.row] at h
    by_cases c : 0 ≤ m ∧ m.toNat ≤ r.length
    · rw [if_pos c] at h
      cases h
      exact ⟨m, r, rfl, c.1, c.2, rfl, rfl⟩
    · rw [if_neg c] at h; cases h

theorem call_inv {p : Int} {r : List Int} {c : List (List Int)} {t : List Int} {n k : Nat} (hs : PyUw74.shape p = some (n, k)) (h : PyFlat.call PyUw74.shape (p :: r) = some (c, t)) :
    n ≤ r.length ∧ ∃ xs, PyFlat.rows k (r.drop n) = some (xs, t) ∧ c = (p :: r.take n) :: xs := by
  simp only [PyFlat.call, hs] at h
  by_cases hn : r.length < n
  · rw [if_pos hn] at h; cases h
  · rw [if_neg hn] at h
    refine ⟨by omega, ?_⟩
    cases e : PyFlat.rows k (r.drop n) with
    | none => rw [e] at h; cases h
    | some y =>
      obtain ⟨xs, t'⟩ := y
      rw [e] at h
      simp only at h
      cases h
      exact ⟨xs, rfl, rfl⟩
theorem rows0 {l : List Int} {xs : List (List Int)} {t : List Int} (h : PyFlat.rows 0 l = some (xs, t)) : xs = [] ∧ t = l := by
  unfold PyFlat.rows at h
  cases h
  exact ⟨rfl, rfl⟩
theorem rows1 {l : List Int} {xs : List (List Int)} {t : List Int} (h : PyFlat.rows 1 l = some (xs, t)) : ∃ x, xs = [x] ∧ PyFlat.row l = some (x, t) := by
  unfold PyFlat.rows at h
  cases e : PyFlat.row l with
  | none => rw [e] at h; cases h
  | some y =>
    obtain ⟨x, s⟩ := y
    rw [e] at h
    simp only [PyFlat.rows] at h
    cases h
    exact ⟨x, rfl, rfl⟩
/-- one number -/
theorem form1 {p : Int} {r : List Int} {c : List (List Int)} {t : List Int} (hs : PyUw74.shape p = some (1, 0)) (h : PyFlat.call PyUw74.shape (p :: r) = some (c, t)) : ∃ e, r = e :: t ∧ c = [[p, e]] := by
  obtain ⟨hn, xs, hx, rfl⟩ := call_inv hs h
  obtain ⟨rfl, rfl⟩ := rows0 hx
  cases r with
  | nil => simp at hn
  | cons e r => exact ⟨e, rfl, rfl⟩
theorem form0 {p : Int} {r : List Int} {c : List (List Int)} {t : List Int} (hs : PyUw74.shape p = some (0, 0)) (h : PyFlat.call PyUw74.shape (p :: r) = some (c, t)) : r = t ∧ c = [[p]] := by
  obtain ⟨hn, xs, hx, rfl⟩ := call_inv hs h
  obtain ⟨rfl, rfl⟩ := rows0 hx
  exact ⟨rfl, rfl⟩
theorem formR {p : Int} {r : List Int} {c : List (List Int)} {t : List Int} (hs : PyUw74.shape p = some (0, 1)) (h : PyFlat.call PyUw74.shape (p :: r) = some (c, t)) :
    ∃ m r', r = m :: r' ∧ 0 ≤ m ∧ m.toNat ≤ r'.length ∧ c = [[p], r'.take m.toNat] ∧ t = r'.drop m.toNat := by
  obtain ⟨hn, xs, hx, rfl⟩ := call_inv hs h
  obtain ⟨x, rfl, hr⟩ := rows1 hx
  obtain ⟨m, r', e, h1, h2, rfl, rfl⟩ := row_inv hr
  exact ⟨m, r', e, h1, h2, rfl, rfl⟩
theorem form1R {p : Int} {r : List Int} {c : List (List Int)} {t : List Int} (hs : PyUw74.shape p = some (1, 1)) (h : PyFlat.call PyUw74.shape (p :: r) = some (c, t)) :
    ∃ n m r', r = n :: m :: r' ∧ 0 ≤ m ∧ m.toNat ≤ r'.length ∧ c = [[p, n], r'.take m.toNat] ∧ t = r'.drop m.toNat := by
  obtain ⟨hn, xs, hx, rfl⟩ := call_inv hs h
  obtain ⟨x, rfl, hr⟩ := rows1 hx
  obtain ⟨m, r', e, h1, h2, rfl, rfl⟩ := row_inv hr
  cases r with
  | nil => simp at hn
  | cons n r =>
    have e' : r = m :: r' := e
    subst e'
    exact ⟨n, m, r', rfl, h1, h2, rfl, rfl⟩

def Nat32 (l : List Int) : Prop := ∀ x ∈ l, 0 ≤ x ∧ x ≤ 4294967295
theorem nat_of {z : Int} (h : 0 ≤ z ∧ z ≤ 4294967295) : Uw74Neutral.nat z = true := by
  unfold Uw74Neutral.nat
  rw [Bool.and_eq_true]
  exact ⟨decide_eq_true h.1, decide_eq_true (by omega)⟩
theorem callOf_of {l : List Int} (h : Nat32 l) : Uw74Neutral.callOf l = Uw74Neutral.callIn (l.map Int.toNat) := by
  unfold Uw74Neutral.callOf
  have e : l.all Uw74Neutral.nat = true := List.all_eq_true.mpr fun x hx => nat_of (h x hx)
  rw [e]
  simp
theorem step_of {st : Uw74.Shoe} {l : List Int} {x : Uw74.Call} (h : Nat32 l) (e : Uw74Neutral.callIn (l.map Int.toNat) = some x) : Uw74Neutral.step st l = Uw74.step st x := by
  unfold Uw74Neutral.step
  rw [callOf_of h, e]
  rfl

theorem shape_cases {p : Int} {n k : Nat} (h : PyUw74.shape p = some (n, k)) : p = 0 ∨ p = 1 ∨ p = 2 ∨ p = 3 ∨ p = 4 ∨ p = 5 ∨ p = 6 ∨ p = 7 ∨ p = 8 ∨ p = 9 ∨ p = 10 := by
  unfold PyUw74.shape at h
  repeat (split at h; · simp [*])
  cases h

theorem lists1 {lo hi : Int} {a b : Nat} {r : List Int} (h : PyInside.lists [(lo, hi, a, b)] [r] = true) : r.length ≤ b := by
  simp [PyInside.lists] at h
  exact h.1.2
theorem lists_of {p : Int} {a : List Int} {rows : List (List Int)} {B : List (Int × Int × Nat × Nat)} (h : PyInside.call PyUw74.bound ((p :: a) :: rows) = true) (e : (PyUw74.bound p).2 = B) : PyInside.lists B rows = true := by
  have h' : (PyInside.each (PyUw74.bound p).1 a && PyInside.lists (PyUw74.bound p).2 rows) = true := h
  rw [Bool.and_eq_true] at h'
  rw [← e]
  exact h'.2
theorem take_len {m : Nat} {r : List Int} (h : m ≤ r.length) : (r.take m).length = m := by rw [List.length_take]; omega

theorem Nat32.tl {x : Int} {l : List Int} (h : Nat32 (x :: l)) : Nat32 l := fun y hy => h y (List.mem_cons_of_mem _ hy)
theorem Nat32.drop {l : List Int} (h : Nat32 l) (n : Nat) : Nat32 (l.drop n) := fun y hy => h y (List.mem_of_mem_drop hy)
theorem Nat32.take {l : List Int} (h : Nat32 l) (n : Nat) : Nat32 (l.take n) := fun y hy => h y (List.mem_of_mem_take hy)
theorem Nat32.cons {x : Int} {l : List Int} (hx : 0 ≤ x ∧ x ≤ 4294967295) (h : Nat32 l) : Nat32 (x :: l) := fun y hy => by
  rcases List.mem_cons.mp hy with rfl | hy
  · exact hx
  · exact h y hy
theorem Nat32.hd {x : Int} {l : List Int} (h : Nat32 (x :: l)) : 0 ≤ x ∧ x ≤ 4294967295 := h x List.mem_cons_self
theorem Nat32.nil : Nat32 [] := fun y hy => by simp at hy

/-- **A turn of the loop**, by the specification's own reading. -/
theorem turn {f : Nat} {p : Int} {r : List Int} {cs : List (List (List Int))} (h : PyFlat.calls PyUw74.shape f (p :: r) = some cs) (hn : Nat32 (p :: r)) (hb : PyInside.calls PyUw74.bound cs = true) :
    ∃ f' c cs' t x, f = f' + 1 ∧ cs = c :: cs' ∧ Take (p :: r) x t ∧ PyFlat.calls PyUw74.shape f' t = some cs' ∧ Nat32 t ∧ PyInside.calls PyUw74.bound cs' = true ∧
      ∀ st, Uw74Neutral.step st ((PyUw74.whole c).headD []) = Uw74.step st x := by
  cases f with
  | zero => cases h
  | succ f =>
    unfold PyFlat.calls at h
    cases e : PyFlat.call PyUw74.shape (p :: r) with
    | none => rw [e] at h; cases h
    | some y =>
      obtain ⟨c, t⟩ := y
      rw [e] at h
      simp only at h
      cases e2 : PyFlat.calls PyUw74.shape f t with
      | none => rw [e2] at h; cases h
      | some cs' =>
        rw [e2] at h
        simp only [Option.some.injEq] at h
        subst h
        have hb' : PyInside.call PyUw74.bound c = true ∧ PyInside.calls PyUw74.bound cs' = true := by
          unfold PyInside.calls at hb ⊢
          rw [List.all_cons, Bool.and_eq_true] at hb
          exact hb
        obtain ⟨hb1, hb2⟩ := hb'
        have hsh : ∃ n k, PyUw74.shape p = some (n, k) := by
          cases e3 : PyUw74.shape p with
          | none => simp only [PyFlat.call, e3] at e; cases e
          | some z => exact ⟨z.1, z.2, rfl⟩
        obtain ⟨n, k, hsh⟩ := hsh
        have fin : ∀ x, Take (p :: r) x t → Nat32 t → (∀ st, Uw74Neutral.step st ((PyUw74.whole c).headD []) = Uw74.step st x) →
            ∃ f' c1 cs1 t1 x, f + 1 = f' + 1 ∧ c :: cs' = c1 :: cs1 ∧ Take (p :: r) x t1 ∧ PyFlat.calls PyUw74.shape f' t1 = some cs1 ∧ Nat32 t1 ∧ PyInside.calls PyUw74.bound cs1 = true ∧
              ∀ st, Uw74Neutral.step st ((PyUw74.whole c1).headD []) = Uw74.step st x :=
          fun x h1 h2 h3 => ⟨f, c, cs', t, x, rfl, rfl, h1, e2, h2, hb2, h3⟩
        rcases shape_cases hsh with rfl | rfl | rfl | rfl | rfl | rfl | rfl | rfl | rfl | rfl | rfl
        · obtain ⟨n, m, r', rfl, h1, h2, rfl, rfl⟩ := form1R rfl e
          have h12 := lists1 (lists_of hb1 rfl)
          rw [take_len h2] at h12
          refine fin _ (.shoe h1 h2 h12) (hn.tl.tl.tl.drop _) fun st => step_of (.cons hn.hd (.cons hn.tl.hd (hn.tl.tl.tl.take _))) rfl
        · obtain ⟨x, rfl, rfl⟩ := form1 rfl e
          refine fin _ .tear hn.tl.tl fun st => step_of (.cons hn.hd (.cons hn.tl.hd .nil)) rfl
        · obtain ⟨x, rfl, rfl⟩ := form1 rfl e
          refine fin _ .mend hn.tl.tl fun st => step_of (.cons hn.hd (.cons hn.tl.hd .nil)) rfl
        · obtain ⟨m, r', rfl, h1, h2, rfl, rfl⟩ := formR rfl e
          have h12 := lists1 (lists_of hb1 rfl)
          rw [take_len h2] at h12
          refine fin _ (.is h1 h2 h12) (hn.tl.tl.drop _) fun st => step_of (.cons hn.hd (hn.tl.tl.take _)) rfl
        · obtain ⟨m, r', rfl, h1, h2, rfl, rfl⟩ := formR rfl e
          have h12 := lists1 (lists_of hb1 rfl)
          rw [take_len h2] at h12
          refine fin _ (.look h1 h2 h12) (hn.tl.tl.drop _) fun st => step_of (.cons hn.hd (hn.tl.tl.take _)) rfl
        · obtain ⟨rfl, rfl⟩ := form0 rfl e
          refine fin _ .shortest hn.tl fun st => step_of (.cons hn.hd .nil) rfl
        · obtain ⟨x, rfl, rfl⟩ := form1 rfl e
          refine fin _ .most hn.tl.tl fun st => step_of (.cons hn.hd (.cons hn.tl.hd .nil)) rfl
        · obtain ⟨rfl, rfl⟩ := form0 rfl e
          refine fin _ .flattest hn.tl fun st => step_of (.cons hn.hd .nil) rfl
        · obtain ⟨rfl, rfl⟩ := form0 rfl e
          refine fin _ .even hn.tl fun st => step_of (.cons hn.hd .nil) rfl
        · obtain ⟨x, rfl, rfl⟩ := form1 rfl e
          refine fin _ .which hn.tl.tl fun st => step_of (.cons hn.hd (.cons hn.tl.hd .nil)) rfl
        · obtain ⟨m, r', rfl, h1, h2, rfl, rfl⟩ := formR rfl e
          have h12 := lists1 (lists_of hb1 rfl)
          rw [take_len h2] at h12
          refine fin _ (.mirror h1 h2 h12) (hn.tl.tl.drop _) fun st => step_of (.cons hn.hd (hn.tl.tl.take _)) rfl

/-- the start -/
theorem asked_start {l : List Int} (h : PyUw74.answers_asked l = true) : ∃ cs, PyFlat.calls PyUw74.shape l.length l = some cs ∧ PyInside.calls PyUw74.bound cs = true ∧ PyUw74.answers l = tail Uw74.init cs := by
  unfold PyUw74.answers_asked at h
  cases e : PyFlat.calls PyUw74.shape l.length l with
  | none => rw [e] at h; cases h
  | some cs =>
    rw [e] at h
    simp only [Bool.and_eq_true] at h
    refine ⟨cs, rfl, h.1.1.2, ?_⟩
    unfold PyUw74.answers PyUw74.calls
    rw [e]
    rfl
theorem Take.left {l t : List Int} {x : Uw74.Call} (h : Take l x t) : t.length < l.length := by
  cases h <;> simp <;> omega

/-! ### the shoe stays fit -/
theorem fit_init : Fit Uw74.init := ⟨by decide, by decide, by decide, by decide, rfl, rfl⟩
theorem step_shoe (s : Uw74.Shoe) (n : Nat) (l : List Nat) : Uw74.step s (.shoe n l) = if n < 2 ∨ 4 < n ∨ l.length ≠ 2 * n - 1 ∨ l.any (fun x => decide (x < 1) || decide (1000 < x)) = true then (s, [-1]) else Uw74.many ⟨n, l.take n, l.drop n, []⟩ := rfl
theorem step_tear (s : Uw74.Shoe) (e : Nat) : Uw74.step s (.tear e) = if 2 * s.rows ≤ e ∨ e < 2 then (s, [-2]) else if s.torn.contains e = true then (s, [-4]) else Uw74.many { s with torn := s.torn ++ [e] } := rfl
theorem step_mend (s : Uw74.Shoe) (e : Nat) : Uw74.step s (.mend e) = if 2 * s.rows ≤ e ∨ e < 2 then (s, [-2]) else if s.torn.contains e = false then (s, [-9]) else Uw74.many { s with torn := s.torn.filter fun x => x != e } := rfl
theorem fit_shoe {n : Nat} {l : List Nat} (h1 : 2 ≤ n) (h2 : n ≤ 4) (h3 : l.length = 2 * n - 1) : Fit ⟨n, l.take n, l.drop n, []⟩ := by
  refine ⟨h1, h2, by simp, by simp, ?_, ?_⟩
  · show (l.take n).length = n
    rw [List.length_take]; omega
  · show (l.drop n).length = n - 1
    rw [List.length_drop]; omega
theorem fit_tear {s : Uw74.Shoe} (F : Fit s) {e : Nat} (h : 2 ≤ e) : Fit { s with torn := s.torn ++ [e] } := by
  refine ⟨F.two, F.four, ?_, ?_, F.across, F.along⟩
  · show 0 ∉ s.torn ++ [e]
    simp [F.zero]; omega
  · show 1 ∉ s.torn ++ [e]
    simp [F.one]; omega
theorem fit_mend {s : Uw74.Shoe} (F : Fit s) (e : Nat) : Fit { s with torn := s.torn.filter fun x => x != e } := by
  refine ⟨F.two, F.four, ?_, ?_, F.across, F.along⟩
  · show 0 ∉ s.torn.filter _
    simp [F.zero]
  · show 1 ∉ s.torn.filter _
    simp [F.one]
theorem whole_tear {s : Uw74.Shoe} (e : Nat) : whole { s with torn := s.torn ++ [e] } = (whole s).filter fun x => x != e := by
  unfold whole
  rw [List.filter_filter]
  congr 1
  funext x
  simp only [List.contains_eq_mem, List.mem_append, List.mem_singleton, bne]
  by_cases h1 : x ∈ s.torn <;> by_cases h2 : x = e <;> simp [h1, h2]
theorem mem_whole {s : Uw74.Shoe} {e : Nat} : e ∈ whole s ↔ e < 2 * s.rows ∧ e ∉ s.torn := by
  unfold whole
  rw [List.mem_filter, List.mem_range]
  simp
theorem mend_perm {s : Uw74.Shoe} {e : Nat} (h1 : e < 2 * s.rows) (h2 : e ∈ s.torn) : (whole s ++ [e]).Perm (whole { s with torn := s.torn.filter fun x => x != e }) := by
  refine (List.perm_append_singleton e _).trans ?_
  have nd : (whole { s with torn := s.torn.filter fun x => x != e }).Nodup := whole_nodup _
  have he : e ∈ whole { s with torn := s.torn.filter fun x => x != e } := mem_whole.mpr ⟨h1, by simp⟩
  have : whole s = (whole { s with torn := s.torn.filter fun x => x != e }).filter fun x => x != e := by
    unfold whole
    rw [List.filter_filter]
    apply List.filter_congr
    intro x _
    simp only [List.contains_eq_mem, List.mem_filter, bne]
    by_cases h3 : x = e
    · subst h3; simp [h2]
    · by_cases h4 : x ∈ s.torn <;> simp [h3, h4]
  rw [this]
  exact perm_pick nd he
end Lc

set_option Elab.async false
set_option linter.all false
set_option maxRecDepth 100000
/-! list(zip(xs, ys)), list(range(n)), xs.count(v) -/
namespace Lz
open PySem
open Sem (wp)

/-- a zip that has handed out a tuple which lives -/
abbrev ZOut (h : Heap) (z TI TO a : Addr) (f : Bool) : Prop :=
  h.get? z = some { cls := .type "zip", dict := none, data := .fields #[rawInt a, .bool f, .bool false, .ref TI, .ref TO], slots := #[] }
section
variable {prog : Program} {w : World} {A : Around} {E : Value → Shared → Prop} {s : Shared}
theorem alive {a : Addr} {o : Obj} {Q : Option Obj → Shared → Prop} (ho : s.heap.get? a = some o) (h : Q (some o) s) : wpAny (model prog w) A (loadIfAlive a) Q E s := by
  have h' : Q (s.heap.get? a) s := by rw [ho]; exact h
  exact fun _ _ _ => h'

theorem notfree {z TI TO a : Addr} {f : Bool} {oa : Obj} {Q : Bool → Shared → Prop} (hz : ZOut s.heap z TI TO a f) (ha : s.heap.get? a = some oa)
    (h : ∀ h', ZOut h' z TI TO a true → Heap.SameBut z s.heap h' → Q false { s with heap := h' }) : wpAny (model prog w) A (Builtin.SmallTypes.ownedTupleIsFree (.ref z)) Q E s := by
  unfold Builtin.SmallTypes.ownedTupleIsFree
  refine wpAny_bind (wpAny_field hz rfl (x := rawInt a) rfl ?_)
  show wpAny _ _ (loadIfAlive ((a : Int).toNat) >>= _) _ _ _
  rw [Int.toNat_natCast]
  refine wpAny_bind (alive ha ?_)
  simp only [Option.isNone_some, Bool.false_eq_true, if_false]
  refine wpAny_bind (wpAny_field hz rfl (x := .bool f) rfl ?_)
  cases f with
  | true =>
    rw [if_neg (show ¬ ((Value.bool true != Value.bool true) = true) from Bool.false_ne_true)]
    exact wpAny_pure (h _ hz (Heap.SameBut.refl _ _))
  | false =>
    rw [if_pos (show (Value.bool false != Value.bool true) = true from rfl)]
    refine wpAny_bind (wpAny_setField_rec hz (by simp) fun h₃ he₃ hs₃ => ?_)
    exact wpAny_pure (h _ he₃ hs₃)

theorem out_item {z TI TO i1 i2 l1 l2 a : Addr} {f : Bool} {oa : Obj} {k1 k2 : Nat} {xs ys : Array Value} {x y : Value} {Q : Value → Shared → Prop} (D : ZipApart z TI TO i1 i2 l1 l2)
    (hz : ZOut s.heap z TI TO a f) (ha : s.heap.get? a = some oa) (hTI : IsPair s.heap TI (.ref i1) (.ref i2))
    (h1 : s.heap.IsListIter i1 l1 k1) (h2 : s.heap.IsListIter i2 l2 k2) (hl1 : s.heap.IsList l1 xs) (hl2 : s.heap.IsList l2 ys) (hx : xs[k1]? = some x) (hy : ys[k2]? = some y)
    (hQ : ∀ h', ZOut h' z TI TO a true → h'.IsListIter i1 l1 (k1 + 1) → h'.IsListIter i2 l2 (k2 + 1) → IsPair h' s.heap.objs.size x y → h'.objs.size = s.heap.objs.size + 1 →
      (∀ c o, c ≠ z → c ≠ i1 → c ≠ i2 → s.heap.get? c = some o → h'.get? c = some o) → Q (.ref s.heap.objs.size) { s with heap := h' }) :
    wpAny (model prog w) A (Builtin.«zip.__next__» ⟨[.ref z], []⟩) (fun fin s' => ∃ v, fin = .done (.ret v) ∧ Q v s') E s := by
  show wpAny _ _ (field (.ref z) 2 >>= _) _ _ _
  refine wpAny_bind (wpAny_field hz rfl (x := .bool false) rfl ?_)
  show wpAny _ _ (field (.ref z) 3 >>= _) _ _ _
  refine wpAny_bind (wpAny_field hz rfl (x := .ref TI) rfl ?_)
  refine wpAny_bind (wpAny_seqItems hTI rfl ?_)
  show wpAny _ _ (Builtin.SmallTypes.ownedTupleIsFree (.ref z) >>= _) _ _ _
  refine wpAny_bind (notfree hz ha fun h₁ hz₁ hs₁ => ?_)
  simp only [Bool.false_eq_true, if_false]
  refine wpAny_bind ?_
  simp only [List.forIn_toArray, List.forIn_cons, List.forIn_nil]
  refine wpAny_bind ?_
  refine wpAny_bind (wpAny_holding ?_)
  show wpAny _ _ (Builtin.SmallTypes.nextOf (.ref i1) >>= _) _ _ _
  refine wpAny_bind (wpAny_nextOf_list_item (h1.extBut hs₁.extBut D.i1z) (hl1.extBut hs₁.extBut D.l1z) hx fun h₂ h1₂ hs₂ => wpAny_pure ?_)
  refine wpAny_pure ?_
  refine wpAny_bind ?_
  refine wpAny_bind (wpAny_holding ?_)
  show wpAny _ _ (Builtin.SmallTypes.nextOf (.ref i2) >>= _) _ _ _
  refine wpAny_bind (wpAny_nextOf_list_item ((h2.extBut hs₁.extBut D.i2z).extBut hs₂.extBut D.i12.symm) ((hl2.extBut hs₁.extBut D.l2z).extBut hs₂.extBut D.l2i1) hy fun h₃ h2₃ hs₃ => wpAny_pure ?_)
  refine wpAny_pure (wpAny_pure ?_)
  refine wpAny_bind (wpAny_newTuple ?_ (hsz := by show 2 ≤ sizeLine; decide))
  have hsz : h₃.objs.size = s.heap.objs.size := by rw [hs₃.1, hs₂.1, hs₁.1]
  have hz₃ : ZOut h₃ z TI TO a true := hs₃.extBut _ _ D.i2z.symm (hs₂.extBut _ _ D.i1z.symm hz₁)
  have h1₃ : h₃.IsListIter i1 l1 (k1 + 1) := h1₂.extBut hs₃.extBut D.i12
  refine wpAny_pure ⟨_, rfl, ?_⟩
  have hT : IsPair (h₃.push { cls := .type "tuple", data := .seq #[x, y] }) h₃.objs.size x y := Heap.get?_push_size _ rfl
  show Q (.ref h₃.objs.size) _
  rw [hsz] at hT ⊢
  exact hQ _ (Heap.get?_push_of_some _ hz₃) (h1₃.at fun o e => Heap.get?_push_of_some _ e) (h2₃.at fun o e => Heap.get?_push_of_some _ e) hT (by rw [Heap.size_push, hsz]) fun c o c1 c3 c4 e =>
    Heap.get?_push_of_some _ (hs₃.extBut _ _ c4 (hs₂.extBut _ _ c3 (hs₁.extBut _ _ c1 e)))

theorem out_end {z TI TO i1 i2 l1 l2 a : Addr} {f : Bool} {oa : Obj} {k1 k2 : Nat} {xs ys : Array Value} {Q : Fin → Shared → Prop} (hh : A.handled = none) (D : ZipApart z TI TO i1 i2 l1 l2)
    (hz : ZOut s.heap z TI TO a f) (ha : s.heap.get? a = some oa) (hTI : IsPair s.heap TI (.ref i1) (.ref i2))
    (h1 : s.heap.IsListIter i1 l1 k1) (h2 : s.heap.IsListIter i2 l2 k2) (hl1 : s.heap.IsList l1 xs) (hl2 : s.heap.IsList l2 ys) (hend : xs[k1]? = none ∨ ys[k2]? = none)
    (hE : ∀ h' e, (∀ c o, c ≠ z → c ≠ i1 → c ≠ i2 → s.heap.get? c = some o → h'.get? c = some o) → (∃ o, h'.get? e = some o ∧ o.cls = .type "StopIteration") → E (.ref e) { s with heap := h' }) :
    wpAny (model prog w) A (Builtin.«zip.__next__» ⟨[.ref z], []⟩) Q E s := by
  show wpAny _ _ (field (.ref z) 2 >>= _) _ _ _
  refine wpAny_bind (wpAny_field hz rfl (x := .bool false) rfl ?_)
  show wpAny _ _ (field (.ref z) 3 >>= _) _ _ _
  refine wpAny_bind (wpAny_field hz rfl (x := .ref TI) rfl ?_)
  refine wpAny_bind (wpAny_seqItems hTI rfl ?_)
  show wpAny _ _ (Builtin.SmallTypes.ownedTupleIsFree (.ref z) >>= _) _ _ _
  refine wpAny_bind (notfree hz ha fun h₁ hz₁ hs₁ => ?_)
  simp only [Bool.false_eq_true, if_false]
  refine wpAny_bind ?_
  simp only [List.forIn_toArray, List.forIn_cons, List.forIn_nil]
  refine wpAny_bind ?_
  refine wpAny_bind (wpAny_holding ?_)
  show wpAny _ _ (Builtin.SmallTypes.nextOf (.ref i1) >>= _) _ _ _
  cases hx : xs[k1]? with
  | none =>
    refine wpAny_bind (wpAny_nextOf_list_end hh (h1.extBut hs₁.extBut D.i1z) (hl1.extBut hs₁.extBut D.l1z) hx fun h₂ e hs₂ he => ?_)
    exact hE h₂ e (fun c o c1 c3 _ x => hs₂ _ _ c3 (hs₁.extBut _ _ c1 x)) he
  | some x =>
    have hy : ys[k2]? = none := by rcases hend with h | h; rw [hx] at h; cases h; exact h
    refine wpAny_bind (wpAny_nextOf_list_item (h1.extBut hs₁.extBut D.i1z) (hl1.extBut hs₁.extBut D.l1z) hx fun h₂ h1₂ hs₂ => wpAny_pure ?_)
    refine wpAny_pure ?_
    refine wpAny_bind ?_
    refine wpAny_bind (wpAny_holding ?_)
    show wpAny _ _ (Builtin.SmallTypes.nextOf (.ref i2) >>= _) _ _ _
    refine wpAny_bind (wpAny_nextOf_list_end hh ((h2.extBut hs₁.extBut D.i2z).extBut hs₂.extBut D.i12.symm) ((hl2.extBut hs₁.extBut D.l2z).extBut hs₂.extBut D.l2i1) hy fun h₃ e hs₃ he => ?_)
    exact hE h₃ e (fun c o c1 c3 c4 x => hs₃ _ _ c4 (hs₂.extBut _ _ c3 (hs₁.extBut _ _ c1 x))) he


/-- how the zip stands ahead of turn i; S: the list that is filled -/
structure ZSt (h : Heap) (z TI TO i1 i2 l1 l2 S : Addr) (xs ys : Array Value) (i : Nat) : Prop where
  st : (i = 0 ∧ IsZip h z TI TO .none ∧ ∃ x y, IsPair h TO x y) ∨ ∃ a f oa, ZOut h z TI TO a f ∧ h.get? a = some oa ∧ a ≠ S ∧ a ≠ z ∧ a ≠ i1 ∧ a ≠ i2
  ti : IsPair h TI (.ref i1) (.ref i2)
  j1 : h.IsListIter i1 l1 i
  j2 : h.IsListIter i2 l2 i
  k1 : h.IsList l1 xs
  k2 : h.IsList l2 ys
theorem ZSt.keep {h h' : Heap} {z TI TO i1 i2 l1 l2 S : Addr} {xs ys : Array Value} {i : Nat} (x : ZSt h z TI TO i1 i2 l1 l2 S xs ys i) (hk : ∀ b o, b ≠ S → h.get? b = some o → h'.get? b = some o)
    (n : z ≠ S ∧ TI ≠ S ∧ TO ≠ S ∧ i1 ≠ S ∧ i2 ≠ S ∧ l1 ≠ S ∧ l2 ≠ S) : ZSt h' z TI TO i1 i2 l1 l2 S xs ys i := by
  obtain ⟨n1, n2, n3, n4, n5, n6, n7⟩ := n
  refine ⟨?_, hk _ _ n2 x.ti, x.j1.at fun o e => hk _ o n4 e, x.j2.at fun o e => hk _ o n5 e, x.k1.at fun o e => hk _ o n6 e, x.k2.at fun o e => hk _ o n7 e⟩
  rcases x.st with ⟨e, hz, x, y, hp⟩ | ⟨a, f, oa, hz, ha, m1, m2, m3, m4⟩
  · exact .inl ⟨e, hk _ _ n1 hz, x, y, hk _ _ n3 hp⟩
  · exact .inr ⟨a, f, oa, hk _ _ n1 hz, hk _ _ m1 ha, m1, m2, m3, m4⟩
theorem zs_item {z TI TO i1 i2 l1 l2 S : Addr} {xs ys : Array Value} {i : Nat} {x y : Value} {Q : Option Value → Shared → Prop} (D : ZipApart z TI TO i1 i2 l1 l2) (hst : ZSt s.heap z TI TO i1 i2 l1 l2 S xs ys i) (hS : S < s.heap.objs.size)
    (hx : xs[i]? = some x) (hy : ys[i]? = some y)
    (hQ : ∀ h', ZSt h' z TI TO i1 i2 l1 l2 S xs ys (i + 1) → IsPair h' s.heap.objs.size x y → h'.objs.size = s.heap.objs.size + 1 →
      (∀ c o, c ≠ z → c ≠ TO → c ≠ i1 → c ≠ i2 → s.heap.get? c = some o → h'.get? c = some o) → Q (some (.ref s.heap.objs.size)) { s with heap := h' }) :
    wpAny (model prog w) A (pyNext (.ref z)) Q E s := by
  obtain ⟨st, ti, j1, j2, k1, k2⟩ := hst
  have lt : ∀ {c o}, s.heap.get? c = some o → s.heap.objs.size ≠ c := fun e => Nat.ne_of_gt (Heap.lt_size e)
  have e1 : s.heap.objs.size ≠ i1 := by obtain ⟨_, e, _⟩ := j1; exact lt e
  have e2 : s.heap.objs.size ≠ i2 := by obtain ⟨_, e, _⟩ := j2; exact lt e
  rcases st with ⟨rfl, hz, u, v, hTO⟩ | ⟨a, f, oa, hz, ha, m1, m2, m3, m4⟩
  · refine wpAny_pyNext_zip_item D hz ti hTO j1 j2 k1 k2 hx hy fun h' a1 a2 a3 a4 a5 a6 hk => hQ h' ⟨.inr ⟨_, false, _, a1, a5, Nat.ne_of_gt hS, lt hz, e1, e2⟩, ?_, a3, a4, ?_, ?_⟩ a5 a6 hk
    · exact hk _ _ D.TIz D.TITO D.TIi1 D.TIi2 ti
    · exact k1.at fun o e => hk _ o D.l1z D.l1TO D.l1i1 D.l1i2 e
    · exact k2.at fun o e => hk _ o D.l2z D.l2TO D.l2i1 D.l2i2 e
  · have hT : s.TypeIs (.ref z) "zip" := ⟨_, hz, rfl⟩
    unfold pyNext
    refine wpAny_bind (wpAny_attempt (wpAny_callSpecial?_slot (name := Str.ofString "__next__") hT F.slot_zip_next
      (wpAny_call_entry F.slot_zip_next hT F.entry_zip_next
        (out_item D hz ha ti j1 j2 k1 k2 hx hy fun h' a1 a3 a4 a5 a6 hk => wpAny_pure (hQ h' ⟨.inr ⟨a, true, oa, a1, hk _ _ m2 m3 m4 ha, m1, m2, m3, m4⟩, ?_, a3, a4, ?_, ?_⟩ a5 a6 fun c o c1 _ c3 c4 e => hk c o c1 c3 c4 e)) (F.args_zip_next_1 _))))
    · exact hk _ _ D.TIz D.TIi1 D.TIi2 ti
    · exact k1.at fun o e => hk _ o D.l1z D.l1i1 D.l1i2 e
    · exact k2.at fun o e => hk _ o D.l2z D.l2i1 D.l2i2 e
theorem zs_done {z TI TO i1 i2 l1 l2 S : Addr} {xs ys : Array Value} {i : Nat} {Q : Option Value → Shared → Prop} (hh : A.handled = none) (D : ZipApart z TI TO i1 i2 l1 l2) (hst : ZSt s.heap z TI TO i1 i2 l1 l2 S xs ys i)
    (hend : xs[i]? = none ∨ ys[i]? = none) (hQ : ∀ h', (∀ c o, c ≠ z → c ≠ TO → c ≠ i1 → c ≠ i2 → s.heap.get? c = some o → h'.get? c = some o) → Q none { s with heap := h' }) :
    wpAny (model prog w) A (pyNext (.ref z)) Q E s := by
  obtain ⟨st, ti, j1, j2, k1, k2⟩ := hst
  rcases st with ⟨rfl, hz, u, v, hTO⟩ | ⟨a, f, oa, hz, ha, m1, m2, m3, m4⟩
  · exact wpAny_pyNext_zip_end hh D hz ti hTO j1 j2 k1 k2 hend hQ
  · have hT : s.TypeIs (.ref z) "zip" := ⟨_, hz, rfl⟩
    unfold pyNext
    refine wpAny_bind (wpAny_attempt (wpAny_callSpecial?_slot (name := Str.ofString "__next__") hT F.slot_zip_next
      (wpAny_call_entry F.slot_zip_next hT F.entry_zip_next (out_end hh D hz ha ti j1 j2 k1 k2 hend fun h' e hk he => ?_) (F.args_zip_next_1 _))))
    obtain ⟨o, ho, hc⟩ := he
    refine wpAny_bind (wpAny_isInstance (T := "StopIteration") (b := true) ⟨o, ho, hc⟩ isSubtype_stop ?_)
    exact wpAny_pure (hQ _ fun c o c1 _ c3 c4 e => hk c o c1 c3 c4 e)
end

/-- the tuples that were made: above lo, rising -/
structure ZG (xs ys : List Value) (lo : Addr) (h : Heap) (as : List Addr) : Prop where
  rise : as.Pairwise (· < ·)
  above : ∀ a ∈ as, lo < a
  pairs : ∀ (j : Nat) (a : Addr), as[j]? = some a → ∃ x y, xs[j]? = some x ∧ ys[j]? = some y ∧ IsPair h a x y
theorem ZG.there {xs ys : List Value} {lo : Addr} {h : Heap} {as : List Addr} (g : ZG xs ys lo h as) {a : Addr} (ha : a ∈ as) : a < h.objs.size := by
  obtain ⟨j, hj⟩ := List.mem_iff_getElem?.mp ha
  obtain ⟨_, _, _, _, e⟩ := g.pairs j a hj
  exact Heap.lt_size e
section
variable {prog : Program} {w : World} {A : Around} {s : Shared} {R : Result → Shared → Prop}
/-- list.extend.loop over a zip; everything of the zip stands below S -/
theorem zs_loop {S z TI TO i1 i2 l1 l2 : Addr} {xs ys : List Value} (hh : A.handled = none) (D : ZipApart z TI TO i1 i2 l1 l2) (hlt : z < S ∧ TI < S ∧ TO < S ∧ i1 < S ∧ i2 < S ∧ l1 < S ∧ l2 < S) (hxy : ys.length ≤ xs.length) (hn : ys.length ≤ sizeLine) (res : Value) {h₁ : Heap}
    (hR : ∀ h' tk acc c as, (∀ b o, b ≠ S → b ≠ z → b ≠ TO → b ≠ i1 → b ≠ i2 → h₁.get? b = some o → h'.get? b = some o) → h'.get? S = some { cls := .type "list", dict := none, data := .seq acc c, slots := #[] } → as.length = ys.length → ZG xs ys S h' as →
      acc.toList = as.map Value.ref → R (.ok (.ret res)) { s with heap := h', toks := tk }) :
    ∀ (k i : Nat) (h : Heap) (tk c : Nat) (acc : Array Value) (as : List Addr), ys.length - i = k → i ≤ ys.length → ZSt h z TI TO i1 i2 l1 l2 S xs.toArray ys.toArray i → (∀ b o, b ≠ S → b ≠ z → b ≠ TO → b ≠ i1 → b ≠ i2 → h₁.get? b = some o → h.get? b = some o) →
      h.get? S = some { cls := .type "list", dict := none, data := .seq acc c, slots := #[] } → acc.toList = as.map Value.ref → as.length = i → ZG xs ys S h as →
      codeAny (model prog w) A (.builtin "list.extend.loop" ⟨[.ref S, .ref z, res], []⟩) R { s with heap := h, toks := tk } := by
  obtain ⟨b1, b2, b3, b4, b5, b6, b7⟩ := hlt
  have hNS : z ≠ S ∧ TI ≠ S ∧ TO ≠ S ∧ i1 ≠ S ∧ i2 ≠ S ∧ l1 ≠ S ∧ l2 ≠ S := ⟨Nat.ne_of_lt b1, Nat.ne_of_lt b2, Nat.ne_of_lt b3, Nat.ne_of_lt b4, Nat.ne_of_lt b5, Nat.ne_of_lt b6, Nat.ne_of_lt b7⟩
  intro k
  induction k with
  | zero =>
    intro i h tk c acc as hk hi hst hkeep hS hacc hal hG
    refine codeAny_builtin PySem.F.entry_extend_loop ?_
    rw [Around.under_plainId PySem.F.plain_extend_loop _]
    show wpAny _ A.in1 (pyNext (.ref z) >>= _) _ _ _
    refine wpAny_bind (zs_done (s := { s with heap := h, toks := tk }) (A := A.in1) hh D hst (.inr (by simp; omega)) fun h' he => ?_)
    refine wpAny_pure (hR h' tk acc c as (fun b o h1 h2 h3 h4 h5 e => he b o h2 h3 h4 h5 (hkeep b o h1 h2 h3 h4 h5 e)) (he S _ (Nat.ne_of_gt b1) (Nat.ne_of_gt b3) (Nat.ne_of_gt b4) (Nat.ne_of_gt b5) hS) (by omega) ⟨hG.rise, hG.above, fun j a hj => ?_⟩ hacc)
    obtain ⟨x, y, e1, e2, e3⟩ := hG.pairs j a hj
    have ab := hG.above a (List.mem_of_getElem? hj)
    exact ⟨x, y, e1, e2, he a _ (Nat.ne_of_gt (Nat.lt_trans b1 ab)) (Nat.ne_of_gt (Nat.lt_trans b3 ab)) (Nat.ne_of_gt (Nat.lt_trans b4 ab)) (Nat.ne_of_gt (Nat.lt_trans b5 ab)) e3⟩
  | succ k ih =>
    intro i h tk c acc as hk hi hst hkeep hS hacc hal hG
    have hlt : i < ys.length := by omega
    have hltx : i < xs.length := by omega
    have hsz : acc.size = i := by rw [← Array.length_toList, hacc, List.length_map, hal]
    refine codeAny_builtin PySem.F.entry_extend_loop ?_
    rw [Around.under_plainId PySem.F.plain_extend_loop _]
    show wpAny _ A.in1 (pyNext (.ref z) >>= _) _ _ _
    refine wpAny_bind (zs_item (s := { s with heap := h, toks := tk }) (A := A.in1) (S := S) (x := xs[i]) (y := ys[i]) D hst (Heap.lt_size hS) (by simp [hltx]) (by simp [hlt]) fun h' hst' ht hz hkp => ?_)
    dsimp only at ht hz hkp ⊢
    have hS' := hkp S _ (Nat.ne_of_gt b1) (Nat.ne_of_gt b3) (Nat.ne_of_gt b4) (Nat.ne_of_gt b5) hS
    have up : ∀ b o, b ≠ S → h'.get? b = some o → (h'.update S (Obj.mapSeq (·.push (Value.ref h.objs.size)))).get? b = some o := fun b o hb e => (Heap.get?_update_other _ _ (Ne.symm hb)).trans e
    have hSl : S < h.objs.size := Heap.lt_size hS
    show wpAny _ A.in1 (updateSeq S (·.push (Value.ref h.objs.size)) >>= _) _ _ _
    refine wpAny_bind ?_
    refine wpAny_updateSeq hS' rfl (wpAny_pure ⟨plainId_quiet PySem.F.plain_extend_loop _, ih (i + 1) _ tk _ (acc.push (Value.ref h.objs.size)) (as ++ [h.objs.size]) (by omega) hlt (hst'.keep up hNS)
      (fun b o h1 h2 h3 h4 h5 e => up b o h1 (hkp b o h2 h3 h4 h5 (hkeep b o h1 h2 h3 h4 h5 e))) (Heap.get?_update_self _ hS' rfl) (by rw [Array.toList_push, hacc, List.map_append]; rfl) (by rw [List.length_append, hal]; rfl) ⟨?_, ?_, ?_⟩⟩) (by rw [hsz]; omega) (by show (acc.push (Value.ref h.objs.size)).size ≤ sizeLine + 1; rw [Array.size_push, hsz]; omega)
    · refine List.pairwise_append.mpr ⟨hG.rise, List.pairwise_singleton _ _, fun a ha b hb => ?_⟩
      rw [List.mem_singleton.mp hb]
      exact hG.there ha
    · intro a ha
      rcases List.mem_append.mp ha with ha | ha
      · exact hG.above a ha
      · rw [List.mem_singleton.mp ha]; exact hSl
    · intro j b hj
      rcases Nat.lt_trichotomy j as.length with h1 | h1 | h1
      · rw [List.getElem?_append_left h1] at hj
        obtain ⟨x', y', e1, e2, e3⟩ := hG.pairs j b hj
        have ab := hG.above b (List.mem_of_getElem? hj)
        exact ⟨x', y', e1, e2, up b _ (Nat.ne_of_gt ab) (hkp b _ (Nat.ne_of_gt (Nat.lt_trans b1 ab)) (Nat.ne_of_gt (Nat.lt_trans b3 ab)) (Nat.ne_of_gt (Nat.lt_trans b4 ab)) (Nat.ne_of_gt (Nat.lt_trans b5 ab)) e3)⟩
      · subst h1
        have hb : h.objs.size = b := by simpa using hj
        subst hb
        exact ⟨xs[i], ys[i], by rw [hal]; simp [hltx], by rw [hal]; simp [hlt], up _ _ (Nat.ne_of_gt hSl) ht⟩
      · have hnone : (as ++ [h.objs.size])[j]? = none := List.getElem?_eq_none (by rw [List.length_append, List.length_singleton]; omega)
        rw [hnone] at hj; cases hj
end
section
variable {prog : Program} {w : World} {A : Around} {E : Value → Shared → Prop} {s : Shared}
theorem zip_no_len : typeLookup (.type "zip") "__len__" = pure none := by rw [typeLookup_type, builtinLookup_eq_fast]; kernel_rfl
theorem zip_no_hint : typeLookup (.type "zip") "__length_hint__" = pure none := by rw [typeLookup_type, builtinLookup_eq_fast]; kernel_rfl
theorem zl_call {z TI TO i1 i2 l1 l2 : Addr} {xs ys : List Value} {Q : Value → Shared → Prop} (hh : A.handled = none) (D : ZipApart z TI TO i1 i2 l1 l2) (hz : IsZip s.heap z TI TO .none) (hTI : IsPair s.heap TI (.ref i1) (.ref i2)) (hTO : ∃ x y, IsPair s.heap TO x y)
    (h1 : s.heap.IsListIter i1 l1 0) (h2 : s.heap.IsListIter i2 l2 0) (hl1 : s.heap.IsList l1 xs.toArray) (hl2 : s.heap.IsList l2 ys.toArray) (hxy : ys.length ≤ xs.length) (hn : ys.length ≤ sizeLine)
    (hQ : ∀ h' tk acc c as, (∀ b o, b ≠ z → b ≠ TO → b ≠ i1 → b ≠ i2 → s.heap.get? b = some o → h'.get? b = some o) → h'.get? s.heap.objs.size = some { cls := .type "list", dict := none, data := .seq acc c, slots := #[] } → as.length = ys.length →
      ZG xs ys s.heap.objs.size h' as → acc.toList = as.map Value.ref → Q (.ref s.heap.objs.size) { s with heap := h', toks := tk }) :
    wpAny (model prog w) A (call (.type "list") [.ref z]) Q E s := by
  refine callType_codes (Q₁ := fun obj s₁ => obj = .ref s.heap.objs.size ∧ s₁ = { s with heap := s.heap.push { cls := .type "list", data := .seq #[] } }) PySem.F.called_list (PySem.F.typeCall_list_1 _) PySem.F.entry_list_init
    (code_list_new _ ⟨rfl, rfl⟩) fun obj s₁ h₁ => ?_
  obtain ⟨rfl, rfl⟩ := h₁
  have hS : (s.heap.push { cls := .type "list", data := .seq #[] }).get? s.heap.objs.size = some { cls := .type "list", data := .seq #[] } := Heap.get?_push_size _ rfl
  have lt : ∀ {c o}, s.heap.get? c = some o → c < s.heap.objs.size := fun e => Heap.lt_size e
  obtain ⟨x0, y0, hTO⟩ := hTO
  have hlt : z < s.heap.objs.size ∧ TI < s.heap.objs.size ∧ TO < s.heap.objs.size ∧ i1 < s.heap.objs.size ∧ i2 < s.heap.objs.size ∧ l1 < s.heap.objs.size ∧ l2 < s.heap.objs.size :=
    ⟨lt hz, lt hTI, lt hTO, (by obtain ⟨_, e, _⟩ := h1; exact lt e), (by obtain ⟨_, e, _⟩ := h2; exact lt e), (by obtain ⟨_, e, _⟩ := hl1; exact lt e), (by obtain ⟨_, e, _⟩ := hl2; exact lt e)⟩
  have z0 : ZSt s.heap z TI TO i1 i2 l1 l2 s.heap.objs.size xs.toArray ys.toArray 0 := ⟨.inl ⟨rfl, hz, x0, y0, hTO⟩, hTI, h1, h2, hl1, hl2⟩
  have hNS : z ≠ s.heap.objs.size ∧ TI ≠ s.heap.objs.size ∧ TO ≠ s.heap.objs.size ∧ i1 ≠ s.heap.objs.size ∧ i2 ≠ s.heap.objs.size ∧ l1 ≠ s.heap.objs.size ∧ l2 ≠ s.heap.objs.size := by
    obtain ⟨b1, b2, b3, b4, b5, b6, b7⟩ := hlt
    exact ⟨Nat.ne_of_lt b1, Nat.ne_of_lt b2, Nat.ne_of_lt b3, Nat.ne_of_lt b4, Nat.ne_of_lt b5, Nat.ne_of_lt b6, Nat.ne_of_lt b7⟩
  refine ⟨⟨_, hS, rfl⟩, PySem.F.args_list_init_2 _ _, ?_⟩
  have key : ∀ (h : Heap) (c₁ tk : Nat), (∀ b o, b ≠ s.heap.objs.size → s.heap.get? b = some o → h.get? b = some o) →
      h.get? s.heap.objs.size = some { cls := .type "list", data := .seq #[] c₁ } → codeAny (model prog w) A.in1 (.builtin "list.extend.loop" ⟨[.ref s.heap.objs.size, .ref z, .none], []⟩) (wants (fun r s₂ => r = Value.none ∧ Q (Value.ref s.heap.objs.size) s₂) E) { s with heap := h, toks := tk } := by
    intro h c₁ tk hk hS₁
    refine zs_loop (s := s) (h₁ := s.heap) (A := A.in1) hh D hlt hxy hn .none (fun h' tk' acc c as hk' hS' hl hG hacc => ⟨rfl, hQ h' tk' acc c as (fun b o hz hTO h1 h2 e => hk' b o (Nat.ne_of_lt (lt e)) hz hTO h1 h2 e) hS' hl hG hacc⟩)
      ys.length 0 h tk c₁ #[] [] (Nat.sub_zero _) (Nat.zero_le _) (z0.keep hk hNS) (fun b o hb _ _ _ _ e => hk b o hb e) hS₁ rfl rfl ⟨List.Pairwise.nil, (fun _ ha => nomatch ha), (fun j a hj => by simp at hj)⟩
  show wpAny _ _ (do let old ← Builtin.List.listItems (.ref s.heap.objs.size); Builtin.List.listUpdate (.ref s.heap.objs.size) (fun _ => #[]); letGo old.toList.reverse; Builtin.List.listExtendWith (.ref s.heap.objs.size) (.ref z) .none) _ _ _
  refine wpAny_bind ?_
  unfold Builtin.List.listItems
  refine wpAny_bind (wpAny_seqItems hS rfl (wpAny_pure ?_))
  show wpAny _ _ (updateSeq s.heap.objs.size (fun _ => #[]) >>= fun _ => letGo (#[] : Array Value).toList.reverse >>= fun _ => Builtin.List.listExtendWith (.ref s.heap.objs.size) (.ref z) .none) _ _ _
  refine wpAny_bind (wpAny_updateSeq hS rfl ?_)
  have hS₂ := Heap.get?_update_self (Obj.mapSeq (fun _ => (#[] : Array Value))) hS rfl
  have oth : ∀ b o, b ≠ s.heap.objs.size → s.heap.get? b = some o → ((s.heap.push { cls := .type "list", data := .seq #[] }).update s.heap.objs.size (Obj.mapSeq (fun _ => (#[] : Array Value)))).get? b = some o :=
    fun b o hb e => (Heap.get?_update_other _ _ (Ne.symm hb)).trans (Heap.get?_push_of_some _ e)
  refine wpAny_bind (wpAny_letGo ?_)
  unfold Builtin.List.listExtendWith
  have hzz := oth z _ hNS.1 hz
  refine wpAny_bind (wpAny_typeOf (T := "zip") ⟨_, hzz, rfl⟩ ?_)
  have h1' : Builtin.List.listSameRef (.ref s.heap.objs.size) (.ref z) = false := by simp [Builtin.List.listSameRef, Ne.symm hNS.1]
  have h2' : (Value.type "zip" == Value.type "list") = false := by decide
  have h3' : (Value.type "zip" == Value.type "tuple") = false := by decide
  simp only [h1', h2', h3', Bool.or_false, Bool.false_eq_true, if_false]
  refine wpAny_bind (wpAny_pyIter_zip hzz ?_)
  refine wpAny_bind (wpAny_holding ?_)
  unfold Builtin.List.listLengthHint
  refine wpAny_bind (wpAny_specialOf (T := "zip") ⟨_, hzz, rfl⟩ zip_no_len ?_)
  show wpAny _ _ (specialOf (Value.ref z) (Str.ofString "__length_hint__") >>= _) _ _ _
  refine wpAny_bind (wpAny_specialOf (T := "zip") ⟨_, hzz, rfl⟩ zip_no_hint ?_)
  refine wpAny_pure ?_
  show wpAny _ _ (rule "list.extend.makes-room" >>= fun _ => Builtin.List.listTouch (.ref s.heap.objs.size) >>= fun _ =>
    again (.builtin "list.extend.loop" ⟨[.ref s.heap.objs.size, .ref z, .none], []⟩)) _ _ _
  refine wpAny_bind (wpAny_rule ?_)
  refine wpAny_bind ?_
  show wpAny _ _ (updateSeq s.heap.objs.size (·.push .none) >>= fun _ => updateSeq s.heap.objs.size (·.pop)) _ _ _
  refine wpAny_bind (wpAny_updateSeq hS₂ rfl ?_)
  have hS₃ := Heap.get?_update_self (Obj.mapSeq (·.push Value.none)) hS₂ rfl
  refine wpAny_updateSeq (hz := by seq_fits) hS₃ rfl ?_
  have hS₄ := Heap.get?_update_self (Obj.mapSeq (·.pop)) hS₃ rfl
  refine wpAny_pure ⟨plainId_quiet PySem.F.plain_extend_loop _, key _ _ _ (fun b o hb e => ?_) hS₄⟩
  exact (Heap.get?_update_other _ _ (Ne.symm hb)).trans ((Heap.get?_update_other _ _ (Ne.symm hb)).trans (oth b o hb e))
end
end Lz

set_option Elab.async false
set_option linter.all false
set_option maxRecDepth 100000
set_option maxHeartbeats 4000000
namespace Lc
open PySem PySem.Spec PyProof.Rows L2

/-! ### the data in the heap -/
def nv (l : List Nat) : List V := l.map fun (n : Nat) => V.int (n : Int)
theorem nv_len (l : List Nat) : (nv l).length = l.length := List.length_map ..
theorem nv_app (l m : List Nat) : nv (l ++ m) = nv l ++ nv m := List.map_append ..
theorem nv_at {l : List Nat} {i n : Nat} (h : l[i]? = some n) : (nv l)[i]? = some (V.int (n : Int)) := by
  unfold nv; rw [List.getElem?_map, h]; rfl
theorem at_nv {l : List Nat} {i : Nat} {v : V} (h : (nv l)[i]? = some v) : ∃ n, l[i]? = some n ∧ v = V.int (n : Int) := by
  unfold nv at h
  rw [List.getElem?_map] at h
  cases e : l[i]? with
  | none => rw [e] at h; cases h
  | some n => rw [e] at h; exact ⟨n, rfl, (Option.some.inj h).symm⟩
theorem nv_flat (l : List Nat) : (nv l).all flatV = true := List.all_eq_true.mpr fun v hv => by
  obtain ⟨n, _, rfl⟩ := List.mem_map.mp hv
  rfl
/-- a list of naturals stands at a -/
def NL (H : Hp) (a : Addr) (l : List Nat) : Prop := H a = some (.lst (nv l))
theorem NL.same {H H' : Hp} (e : Same H H') {a : Addr} {l : List Nat} (h : NL H a l) : NL H' a l := e _ _ h
theorem NL.seq {K : PySem.W.Frag} {H : Hp} {a : Addr} {l : List Nat} (h : NL H a l) : SqL K H a (nv l) := SqL.of h
theorem paired_mono {α β : Type} {F G : α → β → Prop} (h : ∀ a b, F a b → G a b) : ∀ {l : List α} {m : List β}, Paired F l m → Paired G l m
  | _, _, .nil => .nil
  | _, _, .cons a b => .cons (h _ _ a) (paired_mono h b)
theorem paired_at {α β : Type} {F : α → β → Prop} : ∀ {l : List α} {m : List β} {i : Nat} {a : α}, Paired F l m → l[i]? = some a → ∃ b, m[i]? = some b ∧ F a b
  | _, _, _, _, .nil, e => by simp at e
  | _, _, 0, _, .cons h _, e => by
    have e' : _ = _ := Option.some.inj e
    subst e'
    exact ⟨_, rfl, h⟩
  | _, _, i + 1, _, .cons _ t, e => paired_at (i := i) t e
theorem paired_at' {α β : Type} {F : α → β → Prop} : ∀ {l : List α} {m : List β} {i : Nat} {b : β}, Paired F l m → m[i]? = some b → ∃ a, l[i]? = some a ∧ F a b
  | _, _, _, _, .nil, e => by simp at e
  | _, _, 0, _, .cons h _, e => by
    have e' : _ = _ := Option.some.inj e
    subst e'
    exact ⟨_, rfl, h⟩
  | _, _, i + 1, _, .cons _ t, e => paired_at' (i := i) t e
theorem paired_snoc {α β : Type} {F : α → β → Prop} {a : α} {b : β} (h : F a b) : ∀ {l : List α} {m : List β}, Paired F l m → Paired F (l ++ [a]) (m ++ [b])
  | _, _, .nil => .cons h .nil
  | _, _, .cons x y => .cons x (paired_snoc h y)
theorem paired_len {α β : Type} {F : α → β → Prop} : ∀ {l : List α} {m : List β}, Paired F l m → l.length = m.length
  | _, _, .nil => rfl
  | _, _, .cons _ t => congrArg (· + 1) (paired_len t)
theorem paired_imp {α β : Type} {F G : α → β → Prop} : ∀ {l : List α} {m : List β}, Paired F l m → (∀ a b, a ∈ l → F a b → G a b) → Paired G l m
  | _, _, .nil, _ => .nil
  | _, _, .cons x y, h => .cons (h _ _ (List.mem_cons_self ..) x) (paired_imp y fun a b ha => h a b (List.mem_cons_of_mem _ ha))
/-- a list of lists of naturals -/
def LL (H : Hp) (a : Addr) (ls : List (List Nat)) : Prop := ∃ as : List Addr, H a = some (.lst (as.map V.ref)) ∧ Paired (NL H) as ls
theorem LL.same {H H' : Hp} (e : Same H H') {a : Addr} {ls : List (List Nat)} (h : LL H a ls) : LL H' a ls := by
  obtain ⟨as, h1, h2⟩ := h
  exact ⟨as, e _ _ h1, paired_mono (fun _ _ x => x.same e) h2⟩
/-- one that is being filled: it is none of its own items -/
def LM (H : Hp) (a : Addr) (ls : List (List Nat)) : Prop := ∃ as : List Addr, H a = some (.lst (as.map V.ref)) ∧ Paired (NL H) as ls ∧ a ∉ as
theorem LM.ll {H : Hp} {a : Addr} {ls : List (List Nat)} (h : LM H a ls) : LL H a ls := let ⟨as, h1, h2, _⟩ := h; ⟨as, h1, h2⟩
theorem ref_at {as : List Addr} {i : Nat} {v : V} (h : (as.map V.ref)[i]? = some v) : ∃ p, as[i]? = some p ∧ v = V.ref p := by
  rw [List.getElem?_map] at h
  cases e : as[i]? with
  | none => rw [e] at h; cases h
  | some p => rw [e] at h; exact ⟨p, rfl, (Option.some.inj h).symm⟩
theorem same_new {H H' : Hp} {p : Addr} {o : HO} (e : Same H H') (h : H' p = none) : Same H (upd H' p o) := fun b u hb => by
  rw [upd_ne (ne_of_none (e _ _ hb) h)]
  exact e _ _ hb
/-- writing what is new over H -/
theorem same_write {H H' : Hp} {p : Addr} {o : HO} (e : Same H H') (h : H p = none) : Same H (upd H' p o) := fun b u hb => by
  rw [upd_ne (ne_of_none hb h)]
  exact e _ _ hb

/-! ### a def that is called -/
structure Def (P : Program) (w : World) (K : PySem.W.Frag) (mg : Str → Option Value) (base : Heap) (x : Str) (k : Nat) (ps : List Str) (sp : Sp) : Prop where
  ex : ∃ (f : Addr) (fd : FuncData), FnOk P w K mg base CX0 k f fd ps sp ∧ mg x = some (.ref f) ∧ PySem.W.keepIn K (.ref f) = true ∧ Binds K fd ps []
structure MDef (P : Program) (w : World) (K : PySem.W.Frag) (mg : Str → Option Value) (base : Heap) (C : Addr) (m : Str) (k : Nat) (ps : List Str) (sp : Sp) : Prop where
  ex : ∃ (f : Addr) (fd : FuncData), FnOk P w K mg base CX0 k f fd ps sp ∧ Meth K C m f ∧ Binds K fd ps []
section
variable {X : Cx} {x m : Str} {k : Nat} {ps : List Str} {sp : Sp} {C : Addr} {p pos apos : Pos} {e o : Expr} {es : List Expr} {t : TA} {ta : TE}
theorem pe_def (D : Def X.prog X.w X.K X.mg X.base x k ps sp) (hr : Room k X.A) (hg : Gl X x) (ha : PA X (e :: es) t)
    (hdb : (x == ("__debug__" : Str)) = false := by decide) (he : starEach (e :: es) X.env = (false, eval e X.env) :: starEach es X.env := by rfl) (hpl : (backTo pos (starEach es X.env)).any (·.1) = false := by rfl) :
    PE X (.Call (.Name x p) (e :: es) [] pos) (tCall sp [] E0 t) := by
  obtain ⟨f, fd, F, hm, hk, hb⟩ := D.ex
  exact pe_call F hr hg hm hk hb .nil pass0 ha hdb he hpl
theorem pe_mdef {pl : Sem Bool} (c : Cls X.K C) (D : MDef X.prog X.w X.K X.mg X.base C m k ps sp) (hr : Room k X.A) (he : PE X o ta) (ha : PA X (e :: es) t)
    (hst : starEach (e :: es) X.env = (false, eval e X.env) :: starEach es X.env := by rfl) (hpl : (backTo pos (starEach es X.env)).any (·.1) = false := by rfl)
    (ht : eval (.Call (.Attribute o m apos) (e :: es) [] pos) X.env = (do
      let ov ← eval o X.env
      standAt apos.atName
      let (f, first) ← holding [ov] (getMethod ov m pl)
      callWith pos f first (backTo pos (starEach (e :: es) X.env)) (backToKw pos (keywordEach [] X.env))) := by rfl) :
    PE X (.Call (.Attribute o m apos) (e :: es) [] pos) (tMeth C m sp [] E0 ta t) := by
  obtain ⟨f, fd, F, hm, hb⟩ := D.ex
  exact pe_meth he c hm F hr hb .nil pass0 ha hst hpl ht
theorem pe_mdef0 {pl : Sem Bool} (c : Cls X.K C) (D : MDef X.prog X.w X.K X.mg X.base C m k ps sp) (hr : Room k X.A) (he : PE X o ta)
    (ht : eval (.Call (.Attribute o m apos) [] [] pos) X.env = (do
      let ov ← eval o X.env
      standAt apos.atName
      let (f, first) ← holding [ov] (getMethod ov m pl)
      callWith pos f first (backTo pos (starEach [] X.env)) (backToKw pos (keywordEach [] X.env))) := by rfl) :
    PE X (.Call (.Attribute o m apos) [] [] pos) (tMeth C m sp [] E0 ta tNil) := by
  obtain ⟨f, fd, F, hm, hb⟩ := D.ex
  exact pe_meth0 he c hm F hr hb .nil pass0 ht
end
theorem Def.of {P : Program} {w : World} {K : PySem.W.Frag} {mg : Str → Option Value} {base : Heap} {x qual : Str} {st : Stmt} {k : Nat} {ps : List Str} {sp : Sp} {f : Addr} {fd : FuncData} (F : Fun K x qual st f fd)
    (h : FnOk P w K mg base CX0 k f fd ps sp) (hm : mg x = some (.ref f)) (b : Binds K fd ps []) : Def P w K mg base x k ps sp := ⟨f, fd, h, hm, F.kp, b⟩
/-- a whole number of the file's top -/
theorem pe_gi {X : Cx} {x : Str} {i : Int} {t : Tok} {pos : Pos} (hg : Gl X x) (hm : X.mg x = some (.int i t)) (hd : (x == ("__debug__" : Str)) = false := by decide) : PE X (.Name x pos) (tC (.int i)) :=
  pe_glob (v := .int i) hg hm ⟨t, rfl⟩ hd
/-! within a comprehension's block: the written part by its own letter -/
theorem ix_lk {X : Cx} (K : PySem.W.Frag) (h : X.K = K := by rfl) : IxR X (rIxL K) := by
  subst h
  exact ix_list
theorem ix_tk {X : Cx} (K : PySem.W.Frag) (h : X.K = K := by rfl) : IxR X (rIxT K) := by
  subst h
  exact ix_tup
theorem yesT {σ : L2.St} {H : Hp} {A : Hp → Prop} {B : Hp → Prop} (h : A H) : tYes σ H fun b H3 => if b = true then A H3 else B H3 := by
  show (if true = true then A H else B H)
  exact iteT h
theorem qb {Q : VK} {H : Hp} {c d : Bool} (e : c = d) (q : Q (.bl d) H) : Q (.bl c) H := e ▸ q
theorem qi {Q : VK} {H : Hp} {c d : Int} (e : c = d) (q : Q (.int d) H) : Q (.int c) H := e ▸ q

/-! ### what of the names of the file is asked -/
structure Glo (mg : Str → Option Value) : Prop where
  len : mg "len" = none
  range : mg "range" = none
  all : mg "all" = none
  sorted : mg "sorted" = none
  list : mg "list" = none
  zip : mg "zip" = none
  abs : mg "abs" = none
  sum : mg "sum" = none
  min : mg "min" = none
  max : mg "max" = none
  reversed : mg "reversed" = none
  end_ : ∃ t, mg "END" = some (.int 1 t)
  beg : ∃ t, mg "BEGINNING" = some (.int 0 t)

def top (i : Nat) : Stmt := PySem.Challenge.pw_shoelaces_s01_answers.main.body.getD i (.Pass ⟨0, 0, 0, 0⟩)
end Lc

set_option Elab.async false
set_option linter.all false
set_option maxRecDepth 100000
set_option maxHeartbeats 4000000
namespace Lc
open PySem PySem.Spec PyProof.Rows L2
abbrev sAcross : Stmt := top 25
abbrev sHeld : Stmt := top 26
abbrev sGo : Stmt := top 27
abbrev sLonger : Stmt := top 28
abbrev sAll : Stmt := top 29
section
variable {P : Program} {w : World} {K : PySem.W.Frag} {mg : Str → Option Value} {base : Heap}

/-! is_across -/
def spAcross : Sp := fun vs H Q _ => ∃ a b : Nat, vs = [V.int (a : Int), V.int (b : Int)] ∧ Q (.bl (isAcross a b)) H
theorem scAcross : FnScope ["eyelet", "other"] ["eyelet", "other"] (defScope sAcross) := ⟨rfl, rfl, rfl, by decide +kernel, rfl, by decide +kernel, by decide +kernel⟩
theorem across_dec (a b : Nat) : (!decide (V.int ((a : Int) % 2) = V.int ((b : Int) % 2))) = isAcross a b := by
  unfold isAcross bne
  congr 1
  rw [Bool.eq_iff_iff, decide_eq_true_iff, beq_iff_eq]
  constructor
  · intro h
    injection h with h
    omega
  · intro h
    congr 1
    omega
theorem ok_across {f : Addr} {fd : FuncData} (F : Fun K "is_across" "is_across" sAcross f fd) : FnOk P w K mg base CX0 1 f fd ["eyelet", "other"] spAcross := by
  refine F.ok scAcross (fun vs H Q E h => ?_) (fun cdv A outer s H vs Q E hr h => ?_)
  · obtain ⟨a, b, rfl, _⟩ := h
    rfl
  · obtain ⟨a, b, rfl, k⟩ := h
    refine ⟨_, pss_one (ps_ret (pe_cmpR op_ne (pe_op op_mod (pv 0) pe_int) (pe_op op_mod (pv 1) pe_int) (nomark _))), ?_⟩
    refine ⟨_, rfl, _, _, rfl, rfl, (by show (0 : Int) < 2; decide), _, rfl, _, _, rfl, rfl, (by show (0 : Int) < 2; decide), rfl, ?_⟩
    exact qb (across_dec a b) k

/-! is_held -/
def spHeld : Sp := fun vs H Q _ => ∃ a e b : Nat, vs = [V.int (a : Int), V.int (e : Int), V.int (b : Int)] ∧ Q (.bl (isHeld3 a e b)) H
theorem scHeld : FnScope ["ahead", "eyelet", "behind"] ["ahead", "eyelet", "behind"] (defScope sHeld) := ⟨rfl, rfl, rfl, by decide +kernel, rfl, by decide +kernel, by decide +kernel⟩
theorem ok_held {f : Addr} {fd : FuncData} (F : Fun K "is_held" "is_held" sHeld f fd) (DA : Def P w K mg base "is_across" 1 ["eyelet", "other"] spAcross) : FnOk P w K mg base CX0 2 f fd ["ahead", "eyelet", "behind"] spHeld := by
  refine F.ok scHeld (fun vs H Q E h => ?_) (fun cdv A outer s H vs Q E hr h => ?_)
  · obtain ⟨a, e, b, rfl, _⟩ := h
    rfl
  · obtain ⟨a, e, b, rfl, k⟩ := h
    refine ⟨_, pss_one (ps_ret (pe_or (pe_def DA hr rfl (pa_cons (pv 0) (pa_cons (pv 1) pa_nil))) (pe_one (pe_def DA hr rfl (pa_cons (pv 1) (pa_cons (pv 2) pa_nil)))))), ?_⟩
    refine ⟨_, rfl, _, rfl, a, e, rfl, _, rfl, ?_⟩
    unfold isHeld3 at k
    cases h1 : isAcross a e with
    | true =>
      rw [h1] at k
      exact iteT k
    | false =>
      rw [h1, Bool.false_or] at k
      exact iteF ⟨_, rfl, _, rfl, e, b, rfl, k⟩

/-! may_go_on -/
def spGo : Sp := fun vs H Q _ => ∃ (p : Addr) (b : List Nat) (e : Nat), vs = [V.ref p, V.int (e : Int)] ∧ NL H p b ∧ b ≠ [] ∧ Q (.bl (mayGo b e)) H
theorem scGo : FnScope ["begun", "eyelet"] ["begun", "eyelet"] (defScope sGo) := ⟨rfl, rfl, rfl, by decide +kernel, rfl, by decide +kernel, by decide +kernel⟩
theorem back1 {b : List Nat} (h : 1 ≤ b.length) : atI (nv b) (-1) = some (V.int (last1 b : Nat)) := by
  have e : (nv b)[b.length - 1]? = some (V.int (last1 b : Nat)) := nv_at (by
    unfold last1
    rw [List.getElem?_eq_getElem (by omega), List.getD_eq_getElem?_getD, List.getElem?_eq_getElem (by omega)]
    rfl)
  unfold atI ixN
  rw [nv_len, if_neg (by decide), if_pos (by omega)]
  show (nv b)[((-1 : Int) + b.length).toNat]? = _
  rw [show ((-1 : Int) + b.length).toNat = b.length - 1 by omega]
  exact e
theorem back2 {b : List Nat} (h : 2 ≤ b.length) : atI (nv b) (-2) = some (V.int (last2 b : Nat)) := by
  have e : (nv b)[b.length - 2]? = some (V.int (last2 b : Nat)) := nv_at (by
    unfold last2
    rw [List.getElem?_eq_getElem (by omega), List.getD_eq_getElem?_getD, List.getElem?_eq_getElem (by omega)]
    rfl)
  unfold atI ixN
  rw [nv_len, if_neg (by decide), if_pos (by omega)]
  show (nv b)[((-2 : Int) + b.length).toNat]? = _
  rw [show ((-2 : Int) + b.length).toNat = b.length - 2 by omega]
  exact e
theorem ok_go {f : Addr} {fd : FuncData} (F : Fun K "may_go_on" "may_go_on" sGo f fd) (T : Glo mg) (DH : Def P w K mg base "is_held" 2 ["ahead", "eyelet", "behind"] spHeld) : FnOk P w K mg base CX0 3 f fd ["begun", "eyelet"] spGo := by
  refine F.ok scGo (fun vs H Q E h => ?_) (fun cdv A outer s H vs Q E hr h => ?_)
  · obtain ⟨p, b, e, rfl, _⟩ := h
    rfl
  · obtain ⟨p, b, e, rfl, hp, hb, k⟩ := h
    refine ⟨_, pss_one (ps_ret (pe_or (pe_cmpR op_eq (pe_callB call_len_seq (by rfl) T.len PySem.boot_len (pa_cons (pv 0) pa_nil)) pe_int (nomark _))
      (pe_one (pe_def DH hr rfl (pa_cons (pe_ix ix_list (pv 0) (pe_un un_neg pe_int) (fun _ _ => rfl)) (pa_cons (pe_ix ix_list (pv 0) (pe_un un_neg pe_int) (fun _ _ => rfl)) (pa_cons (pv 1) pa_nil))))))), ?_⟩
    refine ⟨_, rfl, p, _, rfl, .inl hp.seq, rfl, _, rfl, ?_⟩
    have hl : b.length ≠ 0 := fun z => hb (List.length_eq_zero_iff.mp z)
    unfold mayGo at k
    by_cases h1 : b.length = 1
    · have e1 : decide (V.int ((nv b).length : Nat) = V.int 1) = true := decide_eq_true (by rw [nv_len, h1]; rfl)
      rw [e1]
      rw [show (b.length == 1) = true by rw [h1]; rfl] at k
      exact iteT k
    · have e1 : decide (V.int ((nv b).length : Nat) = V.int 1) = false := decide_eq_false (by
        rw [nv_len]
        intro z
        injection z with z
        omega)
      rw [e1]
      rw [show (b.length == 1) = false by simpa using h1, Bool.false_or] at k
      exact iteF ⟨_, rfl, _, rfl, p, _, _, _, rfl, rfl, hp.seq, back2 (by omega), _, rfl, _, rfl, p, _, _, _, rfl, rfl, hp.seq, back1 (by omega), _, rfl, _, _, _, rfl, k⟩
end
end Lc

set_option Elab.async false
set_option linter.all false
set_option maxRecDepth 100000
set_option maxHeartbeats 4000000
namespace Lc
open PySem PySem.Spec PyProof.Rows L2
theorem line_le {n : Nat} (h : n ≤ 1000000) : n < sizeLine := by rw [sizeLine_eq]; omega
theorem inV_nv (e : Nat) (b : List Nat) : inV (V.int (e : Int)) (nv b) = b.contains e := by
  unfold inV nv
  induction b with
  | nil => rfl
  | cons x b ih =>
    rw [List.map_cons, List.any_cons, ih, List.contains_cons]
    congr 1
    show ((x : Int) == (e : Int)) = (e == x)
    rw [Bool.eq_iff_iff, beq_iff_eq, beq_iff_eq]
    omega
theorem LM.push {H H1 : Hp} {l p : Addr} {ls : List (List Nat)} {as : List Addr} {x : List Nat} (h1 : H l = some (.lst (as.map V.ref))) (h2 : Paired (NL H) as ls) (h3 : l ∉ as) (s : Same H H1) (hp : H1 p = none) :
    LM (upd (upd H1 p (.lst (nv x))) l (.lst (as.map V.ref ++ [V.ref p]))) l (ls ++ [x]) := by
  have hpl : p ≠ l := fun z => by rw [z, s _ _ h1] at hp; cases hp
  refine ⟨as ++ [p], ?_, paired_snoc ?_ (paired_imp h2 fun a b ha h => ?_), ?_⟩
  · rw [upd_same, List.map_append]
    rfl
  · show (upd _ l _) p = _
    rw [upd_ne hpl, upd_same]
  · show (upd _ l _) a = _
    have hal : a ≠ l := fun z => h3 (z ▸ ha)
    rw [upd_ne hal, upd_ne (ne_of_none (s _ _ h) hp)]
    exact s _ _ h
  · intro z
    rcases List.mem_append.mp z with z | z
    · exact h3 z
    · exact hpl (List.mem_singleton.mp z).symm
theorem len_longer1 (es b : List Nat) : (longer1 es b).length ≤ es.length := by
  unfold longer1
  rw [List.length_map]
  exact List.length_filter_le ..
theorem len_oneLonger : ∀ (bs : List (List Nat)) (es : List Nat), (oneLonger bs es).length ≤ bs.length * es.length
  | [], es => by simp [oneLonger]
  | b :: bs, es => by
    have ih := len_oneLonger bs es
    have h1 := len_longer1 es b
    show (longer1 es b ++ oneLonger bs es).length ≤ (bs.length + 1) * es.length
    rw [List.length_append, Nat.add_mul]
    omega
theorem take_snoc {α : Type} : ∀ {l : List α} {i : Nat} {x : α}, l[i]? = some x → l.take (i + 1) = l.take i ++ [x]
  | [], i, x, h => by simp at h
  | a :: l, 0, x, h => by
    have e : a = x := Option.some.inj h
    subst e
    rfl
  | a :: l, i + 1, x, h => by
    have ih := take_snoc (l := l) (i := i) (x := x) h
    show a :: l.take (i + 1) = a :: l.take i ++ [x]
    rw [ih]
    rfl
theorem longer1_yes {es b : List Nat} {j e : Nat} (h : es[j]? = some e) (h1 : b.contains e = false) (h2 : mayGo b e = true) : longer1 (es.take (j + 1)) b = longer1 (es.take j) b ++ [b ++ [e]] := by
  unfold longer1
  rw [take_snoc h, List.filter_append, List.map_append, List.filter_cons_of_pos (by rw [h1, h2]; rfl)]
  rfl
theorem longer1_no {es b : List Nat} {j e : Nat} (h : es[j]? = some e) (h1 : (!b.contains e && mayGo b e) = false) : longer1 (es.take (j + 1)) b = longer1 (es.take j) b := by
  unfold longer1
  rw [take_snoc h, List.filter_append, List.map_append, List.filter_cons_of_neg (by rw [h1]; simp)]
  simp
theorem oneLonger_snoc {bs : List (List Nat)} {es b : List Nat} {i : Nat} (h : bs[i]? = some b) : oneLonger (bs.take (i + 1)) es = oneLonger (bs.take i) es ++ longer1 es b := by
  unfold oneLonger
  rw [take_snoc h, List.flatMap_append]
  simp
section
variable {P : Program} {w : World} {K : PySem.W.Frag} {mg : Str → Option Value} {base : Heap}
/-! one_longer -/
def spLonger : Sp := fun vs H Q _ => ∃ (p q : Addr) (bs : List (List Nat)) (es : List Nat), vs = [V.ref p, V.ref q] ∧ LL H p bs ∧ NL H q es ∧ (∀ b ∈ bs, b ≠ [] ∧ b.length ≤ 100) ∧ bs.length * es.length ≤ 1000000 ∧
  ∀ (H' : Hp) (r : Addr), Same H H' → LL H' r (oneLonger bs es) → Q (.ref r) H'
theorem scLonger : FnScope ["begun_lacings", "eyelets", "longer", "begun", "eyelet"] ["begun_lacings", "eyelets"] (defScope sLonger) := ⟨rfl, rfl, rfl, by decide +kernel, rfl, by decide +kernel, by decide +kernel⟩
theorem ok_longer {f : Addr} {fd : FuncData} (F : Fun K "one_longer" "one_longer" sLonger f fd) (DG : Def P w K mg base "may_go_on" 3 ["begun", "eyelet"] spGo) : FnOk P w K mg base CX0 4 f fd ["begun_lacings", "eyelets"] spLonger := by
  refine F.ok scLonger (fun vs H Q E h => ?_) (fun cdv A outer s H vs Q E hr h => ?_)
  · obtain ⟨p, q, bs, es, rfl, _⟩ := h
    rfl
  · obtain ⟨p, q, bs, es, rfl, hp, hq, hb, hz, k⟩ := h
    refine ⟨_, pss_cons (ps_set (i := 2) scLonger.nd rfl (Or.inl rfl) (pe_lst pa_nil))
      (pss_cons (ps_for PassesOwn.never rfl (pi_list (pv 0)) (pg_name (i := 3) scLonger.nd rfl (Or.inl rfl))
        (pss_one (ps_for PassesOwn.never rfl (pi_list (pv 1)) (pg_name (i := 4) scLonger.nd rfl (Or.inl rfl))
          (pss_one (ps_if (PW.pt (pw_and (pt_cmpR op_notIn_seq (pv 4) (pv 3) (by with_unfolding_all rfl)) (pw_and1 (pt_val (pe_def DG hr rfl (pa_cons (pv 3) (pa_cons (pv 4) pa_nil)))))))
            (pss_one (ps_expr (pe_bm PySem.F.plainAttrs_list PySem.F.slot_list_append PySem.F.type_list_append mt_append (pv 2) (pa_cons (pe_op op_cat (pv 3) (pe_lst (pa_cons (pv 4) pa_nil))) pa_nil)))) pss_nil)))))
      (pss_one (ps_ret (pv 2)))), ?_⟩
    refine ⟨(by show 0 ≤ sizeLine; decide), fun l hl => ?_⟩
    obtain ⟨as, ha1, ha2⟩ := hp
    have s0 : Same H (upd H l (.lst [])) := same_new (Same.refl H) hl
    have hnlp : NL (upd H l (.lst [])) q es := hq.same s0
    have lenAs : as.length = bs.length := paired_len ha2
    refine ⟨_, rfl, p, rfl, ⟨_, SqL.of (s0 _ _ ha1)⟩, for_list (K := K) (a := p) (xs := as.map V.ref) (fun i σ H' => ∃ v3 v4 : Option V, σ = [some (.ref p), some (.ref q), some (.ref l), v3, v4] ∧ Same H H' ∧ LM H' l (oneLonger (bs.take i) es))
      ⟨none, none, rfl, s0, [], by rw [upd_same]; rfl, .nil, by simp⟩ (fun i σ H' _ ⟨_, _, _, s1, _⟩ => SqL.of (s1 _ _ ha1)) ?_ ?_⟩
    · rintro i y σ H1 hi ⟨v3, v4, rfl, s1, M1⟩
      obtain ⟨a, hai, rfl⟩ := ref_at hi
      obtain ⟨b, hbi, hab⟩ := paired_at ha2 hai
      obtain ⟨hb0, hb100⟩ := hb b (List.mem_of_getElem? hbi)
      have hil : i < bs.length := (List.getElem?_eq_some_iff.mp hbi).1
      refine ⟨_, rfl, q, rfl, ⟨_, SqL.of (s1 _ _ hq)⟩, for_list (K := K) (a := q) (xs := nv es) (fun j σ H' => ∃ v4 : Option V, σ = [some (.ref p), some (.ref q), some (.ref l), some (.ref a), v4] ∧ Same H H' ∧ LM H' l (oneLonger (bs.take i) es ++ longer1 (es.take j) b))
        ⟨v4, rfl, s1, by rw [show longer1 (es.take 0) b = [] from rfl, List.append_nil]; exact M1⟩ (fun j σ H' _ ⟨_, _, s2, _⟩ => SqL.of (s2 _ _ hq)) ?_ ?_⟩
      · rintro j y σ H2 hj ⟨v5, rfl, s2, M2⟩
        obtain ⟨e, hej, rfl⟩ := at_nv hj
        have hjl : j < es.length := (List.getElem?_eq_some_iff.mp hej).1
        refine ⟨_, rfl, _, rfl, a, _, rfl, .inl (SqL.of (s2 _ _ hab)), rfl, nv_flat b, _, rfl, ?_⟩
        have ein : (if true = true then !inV (V.int (e : Int)) (nv b) else inV (V.int (e : Int)) (nv b)) = !b.contains e := by rw [if_pos rfl, inV_nv]
        rw [ein]
        cases hc : b.contains e with
        | true =>
          refine iteF (iteF ?_)
          refine ⟨_, rfl, s2, ?_⟩
          rw [longer1_no hej (by rw [hc]; rfl)]
          exact M2
        | false =>
          refine iteT ?_
          refine ⟨_, rfl, _, rfl, a, b, e, rfl, s2 _ _ hab, hb0, _, rfl, ?_⟩
          cases hm : mayGo b e with
          | false =>
            refine iteF ?_
            refine ⟨_, rfl, s2, ?_⟩
            rw [longer1_no hej (by rw [hm, Bool.and_false])]
            exact M2
          | true =>
            refine iteT ?_
            obtain ⟨cs, hc1, hc2, hc3⟩ := M2
            have hlen : cs.length < sizeLine := by
              have e1 := paired_len hc2
              have e2 := len_oneLonger (bs.take i) es
              have e3 := len_longer1 (es.take j) b
              have e4 : (bs.take i).length = i := by rw [List.length_take]; omega
              have e5 : (es.take j).length = j := by rw [List.length_take]; omega
              have e6 : (i + 1) * es.length ≤ bs.length * es.length := Nat.mul_le_mul_right _ hil
              rw [List.length_append] at e1
              rw [e4] at e2
              rw [e5] at e3
              rw [Nat.add_mul] at e6
              exact line_le (by omega)
            refine ⟨_, rfl, .inl ⟨rfl, _, SqL.of hc1⟩, _, rfl, _, rfl, (by show 1 ≤ sizeLine; decide), fun r hr2 => ?_⟩
            have s3 : Same H2 (upd H2 r (.lst [V.int (e : Int)])) := same_new (Same.refl H2) hr2
            refine ⟨a, r, nv b, [V.int (e : Int)], rfl, rfl, s3 _ _ (s2 _ _ hab), upd_same, ?_, fun p2 hp2 => ?_⟩
            · rw [nv_len]
              exact Nat.le_of_lt (line_le (by show b.length + 1 ≤ _; omega))
            · have hlr : l ≠ p2 := fun z => by rw [← z, s3 _ _ hc1] at hp2; cases hp2
              refine ⟨l, cs.map V.ref, V.ref p2, rfl, rfl, ?_, by rw [List.length_map]; exact hlen, ?_⟩
              · rw [upd_ne hlr]
                exact s3 _ _ hc1
              · refine ⟨_, rfl, same_write (same_new (s2.trans s3) hp2) hl, ?_⟩
                rw [longer1_yes hej hc hm, ← List.append_assoc]
                have eb : nv b ++ [V.int (e : Int)] = nv (b ++ [e]) := by rw [nv_app]; rfl
                rw [eb]
                exact LM.push hc1 hc2 hc3 s3 hp2
      · rintro σ H2 ⟨v5, rfl, s2, M2⟩
        refine ⟨_, _, rfl, s2, ?_⟩
        rw [oneLonger_snoc hbi]
        rw [nv_len, List.take_length] at M2
        exact M2
    · rintro σ H1 ⟨v3, v4, rfl, s1, M1⟩
      refine ⟨_, rfl, ?_⟩
      rw [List.length_map, lenAs, List.take_length] at M1
      exact k H1 l s1 M1.ll
end
end Lc

set_option Elab.async false
set_option linter.all false
set_option maxRecDepth 100000
set_option maxHeartbeats 4000000
namespace Lc
open PySem PySem.Spec PyProof.Rows L2
theorem iter_succ (es : List Nat) : ∀ (n : Nat) (bs : List (List Nat)), iter es (n + 1) bs = oneLonger (iter es n bs) es
  | 0, _ => rfl
  | n + 1, bs => by
    show iter es (n + 1) (oneLonger bs es) = _
    rw [iter_succ es n]
    rfl
theorem iter_mem {es : List Nat} : ∀ (n : Nat) {b : List Nat}, b ∈ iter es n [[0]] → b.length = n + 1
  | 0, b, h => by
    have e : b = [0] := List.mem_singleton.mp h
    rw [e]
    rfl
  | n + 1, b, h => by
    rw [iter_succ] at h
    obtain ⟨c, hc, hb⟩ := List.mem_flatMap.mp h
    obtain ⟨e, _, rfl⟩ := List.mem_map.mp hb
    rw [List.length_append, iter_mem n hc]
    rfl
theorem iter_len {es : List Nat} (h : es.length ≤ 6) : ∀ n : Nat, (iter es n [[0]]).length ≤ 6 ^ n
  | 0 => Nat.le_refl _
  | n + 1 => by
    rw [iter_succ]
    have h1 := len_oneLonger (iter es n [[0]]) es
    have h2 := iter_len h n
    have h3 : (iter es n [[0]]).length * es.length ≤ 6 ^ n * 6 := Nat.mul_le_mul h2 h
    rw [Nat.pow_succ]
    omega
theorem filter_snoc_yes {w : List Nat} {i e : Nat} {p : Nat → Bool} (h : w[i]? = some e) (hp : p e = true) : (w.take (i + 1)).filter p = (w.take i).filter p ++ [e] := by
  rw [take_snoc h, List.filter_append, List.filter_cons_of_pos hp]
  rfl
theorem filter_snoc_no {w : List Nat} {i e : Nat} {p : Nat → Bool} (h : w[i]? = some e) (hp : p e = false) : (w.take (i + 1)).filter p = (w.take i).filter p := by
  rw [take_snoc h, List.filter_append, List.filter_cons_of_neg (by rw [hp]; simp)]
  simp
theorem finish_yes {bs : List (List Nat)} {i : Nat} {b : List Nat} (h : bs[i]? = some b) (hp : mayGo b 1 = true) : finish (bs.take (i + 1)) = finish (bs.take i) ++ [b ++ [1]] := by
  unfold finish
  rw [take_snoc h, List.filter_append, List.map_append, List.filter_cons_of_pos (p := fun b => mayGo b 1) (a := b) hp]
  rfl
theorem finish_no {bs : List (List Nat)} {i : Nat} {b : List Nat} (h : bs[i]? = some b) (hp : mayGo b 1 = false) : finish (bs.take (i + 1)) = finish (bs.take i) := by
  unfold finish
  rw [take_snoc h, List.filter_append, List.map_append, List.filter_cons_of_neg (by rw [hp]; simp)]
  simp
theorem len_finish (bs : List (List Nat)) : (finish bs).length ≤ bs.length := by
  unfold finish
  rw [List.length_map]
  exact List.length_filter_le ..
section
variable {P : Program} {w : World} {K : PySem.W.Frag} {mg : Str → Option Value} {base : Heap}
/-! all_lacings -/
def spAll : Sp := fun vs H Q _ => ∃ (p : Addr) (wh : List Nat), vs = [V.ref p] ∧ NL H p wh ∧ wh.length ≤ 8 ∧ (wh.filter fun e => decide (1 < e)).length ≤ 6 ∧ ∀ (H' : Hp) (r : Addr), Same H H' → LL H' r (lacings wh) → Q (.ref r) H'
theorem scAll : FnScope ["whole", "between", "begun_lacings", "place", "eyelet", "begun"] ["whole"] (defScope sAll) := ⟨rfl, rfl, rfl, by decide +kernel, rfl, by decide +kernel, by decide +kernel⟩
theorem ok_all {f : Addr} {fd : FuncData} (F : Fun K "all_lacings" "all_lacings" sAll f fd) (T : Glo mg) (DG : Def P w K mg base "may_go_on" 3 ["begun", "eyelet"] spGo) (DL : Def P w K mg base "one_longer" 4 ["begun_lacings", "eyelets"] spLonger) :
    FnOk P w K mg base CX0 5 f fd ["whole"] spAll := by
  refine F.ok scAll (fun vs H Q E h => ?_) (fun cdv A outer s H vs Q E hr h => ?_)
  · obtain ⟨p, wh, rfl, _⟩ := h
    rfl
  · obtain ⟨p, wh, rfl, hp, hw8, hw6, k⟩ := h
    obtain ⟨tE, hE⟩ := T.end_
    obtain ⟨tB, hB⟩ := T.beg
    have hr3 : Room 3 _ := hr.mono (by decide)
    refine ⟨_, pss_cons (ps_setLc (i := 1) (own := [("eyelet", 4)]) rfl scAll.nd rfl rfl (sw_true rfl rfl rfl rfl) (pi_list (pv 0)) (blkOk_by (by kernel_rfl)) (fun _ _ _ _ _ => pg_name (i := 4) scAll.nd rfl (Or.inl rfl))
        (fun _ _ _ _ _ => pts_one (pt_cmpR op_gt (pv 4) (pe_gi rfl hE) (nomark _))) (fun _ _ _ _ _ => pv 4))
      (pss_cons (ps_set (i := 2) scAll.nd rfl (Or.inl rfl) (pe_lst (pa_cons (pe_lst (pa_cons (pe_gi rfl hB) pa_nil)) pa_nil)))
      (pss_cons (ps_for PassesOwn.never rfl (pi_range1 rfl T.range (pa_cons (pe_callB call_len_seq (by rfl) T.len PySem.boot_len (pa_cons (pv 1) pa_nil)) pa_nil)) (pg_name (i := 3) scAll.nd rfl (Or.inl rfl))
        (pss_one (ps_set (i := 2) scAll.nd rfl (Or.inl rfl) (pe_def DL hr rfl (pa_cons (pv 2) (pa_cons (pv 1) pa_nil))))))
      (pss_one (ps_ret (pe_lc (own := [("begun", 5)]) rfl scAll.nd (pi_list (pv 2)) (blkOk_by (by kernel_rfl)) (fun _ _ _ _ _ => pg_name (i := 5) scAll.nd rfl (Or.inl rfl))
        (fun _ _ _ _ _ => pts_one (pt_val (pe_def DG hr3 rfl (pa_cons (pv 5) (pa_cons (pe_gi rfl hE) pa_nil)))))
        (fun _ _ _ _ _ => pe_op op_cat (pv 5) (pe_lst (pa_cons (pe_gi rfl hE) pa_nil)))))))), ?_⟩
    -- between
    refine ⟨_, rfl, p, rfl, ⟨_, hp.seq⟩, fun D hD => ?_⟩
    refine lc_list (K := K) (a := p) (xs := nv wh) (fun i H' => Same H H' ∧ NL H' D ((wh.take i).filter fun e => decide (1 < e))) ⟨same_new (Same.refl H) hD, upd_same⟩ (fun i H' _ h => (hp.same h.1).seq) ?_ ?_
    · rintro i x H1 hi ⟨s1, h1⟩
      obtain ⟨e, he, rfl⟩ := at_nv hi
      refine ⟨rfl, _, rfl, _, _, rfl, rfl, _, rfl, ?_⟩
      refine ite2 (fun c => ?_) (fun c => ?_)
      · have c' : 1 < e := by have := of_decide_eq_true c; omega
        refine ⟨_, rfl, _, h1, ?_, ?_⟩
        · rw [nv_len]
          have := List.length_filter_le (fun e => decide (1 < e)) (wh.take i)
          rw [List.length_take] at this
          exact line_le (by omega)
        · refine ⟨same_write s1 hD, ?_⟩
          rw [filter_snoc_yes he (decide_eq_true c')]
          show (upd _ D _) D = _
          rw [upd_same, nv_app]
          rfl
      · have c' : ¬ 1 < e := fun z => c (decide_eq_true (by omega))
        refine ⟨s1, ?_⟩
        rw [filter_snoc_no he (decide_eq_false c')]
        exact h1
    rintro H1 ⟨s1, h1⟩
    rw [nv_len, List.take_length] at h1
    generalize hbt : (wh.filter fun e => decide (1 < e)) = bt at h1 hw6
    -- begun_lacings = [[0]]
    refine ⟨(by show 1 ≤ sizeLine; decide), fun a ha => ⟨(by show 1 ≤ sizeLine; decide), fun b hb => ?_⟩⟩
    have s2 : Same H1 (upd H1 a (.lst [V.int 0])) := same_new (Same.refl H1) ha
    have s3 : Same H1 (upd (upd H1 a (.lst [V.int 0])) b (.lst [V.ref a])) := same_new s2 hb
    have hab : a ≠ b := fun z => by rw [← z, upd_same] at hb; cases hb
    have L0 : LL (upd (upd H1 a (.lst [V.int 0])) b (.lst [V.ref a])) b (iter bt 0 [[0]]) := ⟨[a], upd_same, .cons (by show (upd _ b _) a = _; rw [upd_ne hab, upd_same]; rfl) .nil⟩
    -- for
    refine ⟨_, rfl, D, _, rfl, .inl (h1.same s3).seq, (nv bt).length, rfl, by omega, by rw [nv_len]; omega, ?_⟩
    rw [Int.toNat_natCast, nv_len]
    refine for_range (n := bt.length) (fun i σ H' => ∃ (r : Addr) (v3 : Option V), σ = [some (.ref p), some (.ref D), some (.ref r), v3, none, none] ∧ Same H1 H' ∧ LL H' r (iter bt i [[0]])) ⟨b, none, rfl, s3, L0⟩ ?_ ?_
    · rintro i σ H2 hi ⟨r, v3, rfl, s4, L⟩
      refine ⟨_, rfl, _, rfl, r, D, _, bt, rfl, L, h1.same s4, fun c hc => ?_, ?_, fun H3 r3 s5 L3 => ?_⟩
      · have := iter_mem i hc
        refine ⟨fun z => ?_, by omega⟩
        rw [z] at this
        cases this
      · have e1 := iter_len hw6 i
        have e2 : 6 ^ i ≤ 6 ^ 6 := Nat.pow_le_pow_right (by decide) (by omega)
        have e3 : (iter bt i [[0]]).length * bt.length ≤ 6 ^ 6 * 6 := Nat.mul_le_mul (Nat.le_trans e1 e2) hw6
        exact Nat.le_trans e3 (by decide)
      · refine ⟨r3, _, rfl, s4.trans s5, ?_⟩
        rw [iter_succ]
        exact L3
    rintro σ H2 ⟨r, v3, rfl, s4, L⟩
    -- return
    obtain ⟨as, ha1, ha2⟩ := L
    have lenAs := paired_len ha2
    refine ⟨_, rfl, r, rfl, ⟨_, SqL.of ha1⟩, fun D2 hD2 => ?_⟩
    refine lc_list (K := K) (a := r) (xs := as.map V.ref) (fun i H' => Same H2 H' ∧ LM H' D2 (finish ((iter bt bt.length [[0]]).take i))) ⟨same_new (Same.refl H2) hD2, [], by rw [upd_same]; rfl, .nil, by simp⟩ (fun i H' _ h => SqL.of (h.1 _ _ ha1)) ?_ ?_
    · rintro i x H3 hi ⟨s5, M⟩
      obtain ⟨c, hci, rfl⟩ := ref_at hi
      obtain ⟨b1, hbi, hcb⟩ := paired_at ha2 hci
      have hbl := iter_mem bt.length (List.mem_of_getElem? hbi)
      refine ⟨rfl, _, rfl, c, b1, 1, rfl, s5 _ _ hcb, (fun z => (by rw [z] at hbl; cases hbl)), _, rfl, ?_⟩
      cases hm : mayGo b1 1 with
      | false =>
        refine iteF ⟨s5, ?_⟩
        rw [finish_no hbi hm]
        exact M
      | true =>
        refine iteT ?_
        obtain ⟨cs, hc1, hc2, hc3⟩ := M
        refine ⟨_, rfl, (by show 1 ≤ sizeLine; decide), fun r4 hr4 => ?_⟩
        have s6 : Same H3 (upd H3 r4 (.lst [V.int 1])) := same_new (Same.refl H3) hr4
        refine ⟨c, r4, nv b1, [V.int 1], rfl, rfl, s6 _ _ (s5 _ _ hcb), upd_same, ?_, fun p2 hp2 => ?_⟩
        · rw [nv_len]
          exact Nat.le_of_lt (line_le (by show b1.length + 1 ≤ _; omega))
        · have hlr : D2 ≠ p2 := fun z => by rw [← z, s6 _ _ hc1] at hp2; cases hp2
          refine ⟨cs.map V.ref, by rw [upd_ne hlr]; exact s6 _ _ hc1, ?_, ?_⟩
          · rw [List.length_map, paired_len hc2]
            have e1 := len_finish ((iter bt bt.length [[0]]).take i)
            have e2 := iter_len hw6 bt.length
            have e3 : 6 ^ bt.length ≤ 6 ^ 6 := Nat.pow_le_pow_right (by decide) hw6
            have e4 : (6 : Nat) ^ 6 ≤ 1000000 := by decide
            rw [List.length_take] at e1
            exact line_le (by omega)
          · refine ⟨same_write (same_new (s5.trans s6) hp2) hD2, ?_⟩
            rw [finish_yes hbi hm]
            have eb : nv b1 ++ [V.int 1] = nv (b1 ++ [1]) := by rw [nv_app]; rfl
            rw [eb]
            exact LM.push hc1 hc2 hc3 s6 hp2
    rintro H3 ⟨s5, M⟩
    rw [List.length_map, lenAs, List.take_length] at M
    refine k H3 D2 ((s1.trans s4).trans s5) ?_
    unfold lacings
    rw [hbt]
    exact M.ll
end
end Lc

set_option Elab.async false
set_option linter.all false
set_option maxRecDepth 100000
set_option maxHeartbeats 4000000
namespace Lc
open PySem PySem.Spec PyProof.Rows L2
/-! ### lists of naturals as data -/
def dn (l : List Nat) : PyData := .list (l.map fun (n : Nat) => PyData.int (n : Int))
theorem dp_all (K : PySem.W.Frag) (H : Hp) : ∀ l : List Nat, DpAll K H (nv l) (l.map fun (n : Nat) => PyData.int (n : Int))
  | [] => .nil
  | n :: l => .cons (.int n) (dp_all K H l)
theorem dp_nl {K : PySem.W.Frag} {H : Hp} {a : Addr} {l : List Nat} (h : NL H a l) : Dp K H (.ref a) (dn l) := .lst h.seq (dp_all K H l)
theorem lay_all : ∀ l : List Nat, PyData.canLayAll0 (l.map fun (n : Nat) => PyData.int (n : Int)) = true
  | [] => by simp [PyData.canLayAll0]
  | n :: l => by
    rw [List.map_cons]
    simp only [PyData.canLayAll0, PyData.canLay0, lay_all l]
    rfl
theorem depth_all : ∀ l : List Nat, PyData.depthAll (l.map fun (n : Nat) => PyData.int (n : Int)) = 0
  | [] => by simp [PyData.depthAll]
  | n :: l => by
    rw [List.map_cons]
    simp only [PyData.depthAll, PyData.depth, depth_all l]
    rfl
theorem shaped_dn (l : List Nat) : SeqAt.shaped (dn l) = true := by
  unfold SeqAt.shaped dn
  simp only [PyData.canLay0, PyData.depth, lay_all, depth_all]
  rfl
theorem eqv_all : ∀ l m : List Nat, PyData.eqvAll (l.map fun (n : Nat) => PyData.int (n : Int)) (m.map fun (n : Nat) => PyData.int (n : Int)) = decide (l = m)
  | [], [] => by simp [PyData.eqvAll]
  | [], _ :: _ => by simp [PyData.eqvAll]
  | _ :: _, [] => by simp [PyData.eqvAll]
  | a :: l, b :: m => by
    rw [List.map_cons, List.map_cons]
    simp only [PyData.eqvAll, PyData.eqv, eqv_all l m]
    rw [Bool.eq_iff_iff, Bool.and_eq_true, beq_iff_eq, decide_eq_true_iff, decide_eq_true_iff, List.cons.injEq]
    constructor
    · rintro ⟨h1, h2⟩
      exact ⟨by omega, h2⟩
    · rintro ⟨h1, h2⟩
      exact ⟨by omega, h2⟩
theorem eqv_dn (l m : List Nat) : PyData.eqv (dn l) (dn m) = decide (l = m) := by
  unfold dn
  simp only [PyData.eqv]
  exact eqv_all l m
theorem nvI (l : List Nat) : nv l = (l.map fun (n : Nat) => (n : Int)).map V.int := by
  unfold nv
  rw [List.map_map]
  rfl
/-- ints that are naturals -/
theorem ints_nat {ns : List Int} {l : List Nat} (h : ns.Perm (l.map fun (n : Nat) => (n : Int))) : ∃ m : List Nat, ns = m.map (fun (n : Nat) => (n : Int)) ∧ m.Perm l := by
  refine ⟨ns.map Int.toNat, ?_, ?_⟩
  · rw [List.map_map]
    conv => lhs; rw [← List.map_id ns]
    apply List.map_congr_left
    intro x hx
    obtain ⟨n, _, rfl⟩ := List.mem_map.mp (h.mem_iff.mp hx)
    simp
  · have := h.map Int.toNat
    rw [List.map_map] at this
    rw [show (Int.toNat ∘ fun n : Nat => (n : Int)) = id from funext fun n => by simp, List.map_id] at this
    exact this
theorem pair_nat {m : List Nat} (h : (m.map fun (n : Nat) => (n : Int)).Pairwise (· ≤ ·)) : m.Pairwise (· ≤ ·) := by
  rw [List.pairwise_map] at h
  exact h.imp fun {a b} x => by omega

/-! ### objects -/
/-- all but x is kept -/
def Keeps (H H' : Hp) (x : Addr) : Prop := ∀ b o, H b = some o → b ≠ x → H' b = some o
theorem Same.keeps {H H' : Hp} (s : Same H H') (x : Addr) : Keeps H H' x := fun b o h _ => s b o h
theorem Keeps.trans {H H1 H2 : Hp} {x : Addr} (a : Keeps H H1 x) (b : Keeps H1 H2 x) : Keeps H H2 x := fun c o h n => b c o (a c o h n) n
theorem keeps_upd {H : Hp} {x : Addr} {o : HO} : Keeps H (upd H x o) x := fun b u h n => by rw [upd_ne n]; exact h
theorem NL.keep {H H' : Hp} {x : Addr} (k : Keeps H H' x) {C dx : Addr} {fs : List (Str × V)} (hx : H x = some (.ins C dx fs)) {a : Addr} {l : List Nat} (h : NL H a l) : NL H' a l :=
  k _ _ h (ne_of h hx (by intro z; cases z))
theorem LL.keep {H H' : Hp} {x : Addr} (k : Keeps H H' x) {C dx : Addr} {fs : List (Str × V)} (hx : H x = some (.ins C dx fs)) {a : Addr} {ls : List (List Nat)} (h : LL H a ls) : LL H' a ls := by
  obtain ⟨as, h1, h2⟩ := h
  exact ⟨as, k _ _ h1 (ne_of h1 hx (by intro z; cases z)), paired_mono (fun _ _ y => y.keep k hx) h2⟩
def five : List Str := ["eyelet_count", "across", "along", "whole", "laced"]
/-- a shoe stands at a -/
structure ShoeR (C : Addr) (H : Hp) (a : Addr) (s : Uw74.Shoe) (dx : Addr) (fs : List (Str × V)) (ac al wh la : Addr) : Prop where
  at_ : H a = some (.ins C dx fs)
  keys : fs.map (·.1) = five
  cnt : fs.lookup ("eyelet_count" : Str) = some (.int ((2 * s.rows : Nat) : Int))
  across : fs.lookup ("across" : Str) = some (.ref ac)
  along : fs.lookup ("along" : Str) = some (.ref al)
  whole : fs.lookup ("whole" : Str) = some (.ref wh)
  laced : fs.lookup ("laced" : Str) = some (.ref la)
  acL : NL H ac s.across
  alL : NL H al (0 :: s.along)
  whL : NL H wh (Lc.whole s)
  laL : LL H la (Uw74.all s)
def ShoeAt (C : Addr) (H : Hp) (a : Addr) (s : Uw74.Shoe) : Prop := ∃ dx fs ac al wh la, ShoeR C H a s dx fs ac al wh la
theorem ShoeAt.same {C : Addr} {H H' : Hp} {a : Addr} {s : Uw74.Shoe} (e : Same H H') (h : ShoeAt C H a s) : ShoeAt C H' a s := by
  obtain ⟨dx, fs, ac, al, wh, la, h⟩ := h
  exact ⟨dx, fs, ac, al, wh, la, e _ _ h.at_, h.keys, h.cnt, h.across, h.along, h.whole, h.laced, h.acL.same e, h.alL.same e, h.whL.same e, h.laL.same e⟩
/-- another object is written -/
theorem ShoeAt.keep {C : Addr} {H H' : Hp} {a x : Addr} {s : Uw74.Shoe} (k : Keeps H H' x) {C' dx' : Addr} {fs' : List (Str × V)} (hx : H x = some (.ins C' dx' fs')) (hk : fs'.map (·.1) ≠ five) (h : ShoeAt C H a s) : ShoeAt C H' a s := by
  obtain ⟨dx, fs, ac, al, wh, la, h⟩ := h
  refine ⟨dx, fs, ac, al, wh, la, k _ _ h.at_ (ne_of h.at_ hx fun z => ?_), h.keys, h.cnt, h.across, h.along, h.whole, h.laced, h.acL.keep k hx, h.alL.keep k hx, h.whL.keep k hx, h.laL.keep k hx⟩
  cases z
  exact hk h.keys
/-- no attribute but the keys -/
theorem lookup_no {fs : List (Str × V)} {m : Str} : (h : m ∉ fs.map (·.1)) → fs.lookup m = none := by
  induction fs with
  | nil => intro _; rfl
  | cons p r ih =>
    intro h
    obtain ⟨g, v⟩ := p
    have h1 : ¬ m = g := fun z => h (by rw [z]; exact List.mem_cons_self ..)
    have hb : (m == g) = false := beq_eq_false_iff_ne.mpr h1
    simp only [List.lookup, hb]
    exact ih fun z => h (List.mem_cons_of_mem _ z)
theorem lookup_has {fs : List (Str × V)} {m : Str} : (h : m ∈ fs.map (·.1)) → (fs.lookup m).isSome = true := by
  induction fs with
  | nil => intro h; cases h
  | cons p r ih =>
    intro h
    obtain ⟨g, v⟩ := p
    by_cases h1 : m = g
    · have hb : (m == g) = true := beq_iff_eq.mpr h1
      simp only [List.lookup, hb]
      rfl
    · have hb : (m == g) = false := beq_eq_false_iff_ne.mpr h1
      simp only [List.lookup, hb]
      refine ih ?_
      rcases List.mem_cons.mp h with z | z
      · exact absurd z h1
      · exact z
theorem keys_old {f : Str} {v : V} : ∀ {fs : List (Str × V)}, f ∈ fs.map (·.1) → (putF f v fs).map (·.1) = fs.map (·.1)
  | [], h => by cases h
  | (g, x) :: r, h => by
    show ((if g = f then (g, v) :: r else (g, x) :: putF f v r).map (·.1)) = _
    by_cases e : g = f
    · rw [if_pos e]; rfl
    · rw [if_neg e, List.map_cons, List.map_cons]
      rcases List.mem_cons.mp h with z | z
      · exact absurd z.symm e
      · rw [keys_old z]
theorem keys_new {f : Str} {v : V} : ∀ {fs : List (Str × V)}, f ∉ fs.map (·.1) → (putF f v fs).map (·.1) = fs.map (·.1) ++ [f]
  | [], _ => rfl
  | (g, x) :: r, h => by
    show ((if g = f then (g, v) :: r else (g, x) :: putF f v r).map (·.1)) = _
    have e : ¬ g = f := fun z => h (by rw [← z]; exact List.mem_cons_self ..)
    rw [if_neg e, List.map_cons, List.map_cons, keys_new fun z => h (List.mem_cons_of_mem _ z)]
    rfl
/-- the first i of the five are there, or all are -/
def Keyed (fs : List (Str × V)) (i : Nat) : Prop := fs.map (·.1) = five.take i ∨ fs.map (·.1) = five
theorem Keyed.len {fs : List (Str × V)} {i : Nat} (h : Keyed fs i) : fs.length < 1000 := by
  have e : fs.length = (fs.map (·.1)).length := (List.length_map ..).symm
  rw [e]
  rcases h with h | h
  · rw [h, List.length_take]
    exact Nat.lt_of_le_of_lt (Nat.min_le_right _ _) (by decide)
  · rw [h]
    decide
theorem Keyed.put {fs : List (Str × V)} {i : Nat} {f : Str} (h : Keyed fs i) (hf : five[i]? = some f) (v : V) : Keyed (putF f v fs) (i + 1) := by
  have hm : f ∈ five := List.mem_of_getElem? hf
  rcases h with h | h
  · refine .inl ?_
    rw [keys_new, h, take_snoc hf]
    rw [h]
    intro z
    obtain ⟨j, hj⟩ := List.mem_iff_getElem?.mp z
    have hji : j < i := by
      have := (List.getElem?_eq_some_iff.mp hj).1
      rw [List.length_take] at this
      omega
    rw [List.getElem?_take_of_lt hji] at hj
    have := nd_ix (show five.Nodup by decide +kernel) hj hf
    omega
  · refine .inr ?_
    rw [keys_old (by rw [h]; exact hm), h]
theorem Keyed.no {fs : List (Str × V)} {i : Nat} (h : Keyed fs i) {m : Str} (hm : m ∉ five) : fs.lookup m = none := by
  refine lookup_no fun z => hm ?_
  rcases h with h | h
  · rw [h] at z
    exact List.mem_of_mem_take z
  · rw [h] at z
    exact z
theorem Keyed.all {fs : List (Str × V)} (h : Keyed fs 5) : fs.map (·.1) = five := by
  rcases h with h | h
  · exact h
  · exact h
end Lc

set_option Elab.async false
set_option linter.all false
set_option maxRecDepth 100000
set_option maxHeartbeats 4000000
namespace Lc
open PySem PySem.Spec PyProof.Rows L2
theorem paired_of {α β : Type} {F : α → β → Prop} : ∀ {l : List α} {m : List β}, l.length = m.length → (∀ (i : Nat) (a : α) (b : β), l[i]? = some a → m[i]? = some b → F a b) → Paired F l m
  | [], [], _, _ => .nil
  | [], _ :: _, h, _ => by simp at h
  | _ :: _, [], h, _ => by simp at h
  | a :: l, b :: m, h, f => .cons (f 0 a b rfl rfl) (paired_of (by simpa using h) fun i x y hx hy => f (i + 1) x y hx hy)
theorem zip_lookup {β : Type} : ∀ {l : List Addr} {m : List β} {j : Nat} {a : Addr} {b : β}, l.Nodup → l[j]? = some a → m[j]? = some b → (l.zip m).lookup a = some b
  | [], _, _, _, _, _, h, _ => by simp at h
  | _ :: _, [], _, _, _, _, _, h => by simp at h
  | x :: l, y :: m, 0, a, b, _, h1, h2 => by
    have e1 : x = a := Option.some.inj h1
    have e2 : y = b := Option.some.inj h2
    subst e1 e2
    show List.lookup x ((x, y) :: l.zip m) = some y
    simp [List.lookup]
  | x :: l, y :: m, j + 1, a, b, nd, h1, h2 => by
    have h1' : l[j]? = some a := h1
    have h2' : m[j]? = some b := h2
    obtain ⟨n1, n2⟩ := List.nodup_cons.mp nd
    have hne : (a == x) = false := beq_eq_false_iff_ne.mpr fun z => n1 (z ▸ List.mem_of_getElem? h1')
    show List.lookup a ((x, y) :: l.zip m) = some b
    simp only [List.lookup, hne]
    exact zip_lookup n2 h1' h2'
theorem lookup_zip {β : Type} : ∀ {l : List Addr} {m : List β} {a : Addr} {b : β}, (l.zip m).lookup a = some b → ∃ j : Nat, l[j]? = some a ∧ m[j]? = some b
  | [], _, _, _, h => by simp at h
  | _ :: _, [], _, _, h => by simp at h
  | x :: l, y :: m, a, b, h => by
    by_cases e : a = x
    · subst e
      have h' : List.lookup a ((a, y) :: l.zip m) = some b := h
      simp [List.lookup] at h'
      exact ⟨0, rfl, by rw [h']; rfl⟩
    · have hne : (a == x) = false := beq_eq_false_iff_ne.mpr e
      have h' : List.lookup a ((x, y) :: l.zip m) = some b := h
      simp only [List.lookup, hne] at h'
      obtain ⟨j, h1, h2⟩ := lookup_zip h'
      exact ⟨j + 1, h1, h2⟩
theorem vals_refs : ∀ as : List Addr, Vals (as.map V.ref) (as.map Value.ref)
  | [] => .nil
  | _ :: as => .cons rfl (vals_refs as)
theorem ne_add {b n : Nat} (k : Nat) (h : b < n) : b ≠ n + k := by omega
/-- several new objects are laid at once -/
theorem Inv.many {X : Cx} {pins : List (Addr × Obj)} {σ : L2.St} {H H' : Hp} {s : Shared} {h' : Heap} {t' : Nat} (I : Inv X pins σ H s) (k : ∀ b u, s.heap.get? b = some u → h'.get? b = some u) (S : Same H H')
    (hn : ∀ b o, H b = none → H' b = some o → s.heap.objs.size ≤ b ∧ ObjOk X.prog X.w H' h' b o) : Inv X pins σ H' { s with heap := h', toks := t' } := by
  refine I.un (t' := t') ⟨fun b ob q _ _ _ => k b ob q, fun b ob q _ _ _ => ⟨ob.slots, k b ob q⟩, fun b ob q n _ => ?_, fun b ob q _ => ⟨ob, k b ob q⟩, fun b xs q => S _ _ q, fun b o u q => S _ _ q, fun b ps q => ⟨#[], by rw [S _ _ q]; simp⟩⟩ fun b o e => ?_
  · cases e : H' b with
    | none => rfl
    | some o => exact absurd (Heap.lt_size q) (Nat.not_lt.mpr (hn b o n e).1)
  · cases e1 : H b with
    | none => exact (hn b o e1 e).2
    | some u =>
      have e2 := S _ _ e1
      rw [e] at e2
      have e3 : o = u := Option.some.inj e2
      subst e3
      exact (I.hok b o e1).stay (fun c v _ q => k c v q) (fun c q => S _ _ q) fun c xs q => S _ _ q
section
variable {X : Cx} {pos p : Pos} {a e : Expr} {ta : TA}
/-- range(e) as a value -/
def tRange (ta : TA) : TE := fun σ H Q => ta σ H fun vs H1 => ∃ j : Int, vs = [.int j] ∧ ∀ r, H1 r = none → Q (.ref r) (upd H1 r (.rng 0 j))
theorem pe_range (hg : Gl X "range") (hm : X.mg "range" = none) (ha : PA X [a] ta) (hs : starEach [a] X.env = [(false, eval a X.env)] := by rfl) : PE X (.Call (.Name "range" p) [a] [] pos) (tRange ta) := by
  intro pins s σ H Q I h
  refine wpAny_Call_Name_kw (ld_blt I hg hm boot_range (PyProof.Rows.callWith_type1 (thn (ha pos pins s σ H _ I h) fun us s1 ⟨vs, H1, I1, r1, q1⟩ => ?_) hs rfl))
  obtain ⟨j, e, q⟩ := q1
  subst e
  cases r1 with
  | cons r rr =>
    cases rr
    obtain ⟨t, rfl⟩ := r
    refine call_range_1 ⟨.ref s1.heap.objs.size, _, I1.laid (o := .rng 0 j) (fun b ob q => Heap.get?_push_of_some _ q) (Nat.le_refl _) ?_, rfl, q _ (I1.hok.fresh (Nat.le_refl _))⟩
    exact ⟨_, _, _, Heap.get?_push_size _ rfl⟩
theorem items_range {n : Nat} {acc : Array Value} (h : ItemsOf (fun i v => ∃ t, v = Value.int (0 + i * 1) t) acc n) : Vals (nv (List.range n)) acc.toList := by
  obtain ⟨h1, h2⟩ := h
  refine paired_of (by rw [nv_len, List.length_range, Array.length_toList, h1]) fun i a b ha hb => ?_
  obtain ⟨m, hm, rfl⟩ := at_nv ha
  obtain ⟨t, e⟩ := h2 i b (by rw [← Array.getElem?_toList]; exact hb)
  have hi : i < n := by
    have := (List.getElem?_eq_some_iff.mp hm).1
    rwa [List.length_range] at this
  rw [List.getElem?_range hi] at hm
  have em : i = m := Option.some.inj hm
  subst em
  exact ⟨t, by rw [e]; congr 1; omega⟩
/-- list(range(n)) -/
theorem cr_listRng (hc : X.calm = true) : CallR X (.type "list") (fun xs H Q => ∃ (r : Addr) (n : Nat), xs = [.ref r] ∧ H r = some (.rng 0 (n : Int)) ∧ n ≤ 1000000 ∧ ∀ l, H l = none → Q (.ref l) (upd H l (.lst (nv (List.range n))))) := by
  intro pins s σ H xs us Q I rs h
  obtain ⟨r, n, rfl, hr, hn, q⟩ := h
  rw [Vals.ref1 rs]
  obtain ⟨t, u, v, ho⟩ := (show ObjOk X.prog X.w H s.heap r (.rng 0 (n : Int)) from I.hok r _ hr)
  refine call_list_range (n := n) (I.ok.hd hc) (show IsRange s.heap r 0 (n : Int) 1 t u v from ho) (small_one (by decide) (by decide) (by omega) (by omega)) (by rw [rangeSize_one]; split <;> omega) (by omega) fun h' tk acc c hk hS hacc => ?_
  refine ⟨.ref s.heap.objs.size, _, I.laid (t' := tk) (o := .lst (nv (List.range n))) hk (Nat.le_refl _) ?_, rfl, q _ (I.hok.fresh (Nat.le_refl _))⟩
  refine ⟨?_, acc.toList, c, items_range hacc, ?_⟩
  · rw [nv_len, List.length_range]
    exact Nat.le_of_lt (line_le hn)
  · rw [hS]
/-- xs.count(v), ints -/
def rLCount (K : PySem.W.Frag) : V → List V → Hp → VK → Prop := fun x xs H Q => ∃ (a : Addr) (ns : List Int) (k : Int), x = V.ref a ∧ xs = [V.int k] ∧ SqL K H a (ns.map V.int) ∧ Q (.int (ns.count k : Nat)) H
theorem mt_lcount : MtR X "list.count" (rLCount X.K) := by
  intro pins s σ H x xs v us Q I rx rxs h
  obtain ⟨a, ns, k, rfl, rfl, hs, q⟩ := h
  cases rx
  cases rxs with
  | cons ry rt =>
    cases rt
    obtain ⟨t, rfl⟩ := ry
    obtain ⟨its, rv, hl, _⟩ := I.list hs
    exact count_list_ints hl.isList rv.ints ⟨.int (ns.count k : Nat), H, I.tok _, ⟨_, rfl⟩, q⟩
/-- list(zip(xs, ys)): new pairs, ys no longer than xs -/
def tLZ (K : PySem.W.Frag) (ta : TA) : TE := fun σ H Q => ta σ H fun vs H1 => ∃ (a b : Addr) (xs ys : List V), vs = [.ref a, .ref b] ∧ SqL K H1 a xs ∧ SqL K H1 b ys ∧ ys.length ≤ xs.length ∧
  ∀ (H' : Hp) (r : Addr) (as : List Addr), Same H1 H' → H' r = some (.lst (as.map V.ref)) → as.length = ys.length → (∀ (j : Nat) (q : Addr), as[j]? = some q → ∃ x y, xs[j]? = some x ∧ ys[j]? = some y ∧ H' q = some (.tup [x, y])) → Q (.ref r) H'
theorem pe_lz {e2 : Expr} {p2 pos2 : Pos} (hc : X.calm = true) (hg : Gl X "list") (hm : X.mg "list" = none) (hg2 : Gl X "zip") (hm2 : X.mg "zip" = none) (ha : PA X [e, e2] ta)
    (hs0 : starEach [Expr.Call (.Name "zip" p2) [e, e2] [] pos2] X.env = [(false, eval (Expr.Call (.Name "zip" p2) [e, e2] [] pos2) X.env)] := by rfl)
    (hs : starEach [e, e2] X.env = (false, eval e X.env) :: starEach [e2] X.env := by rfl) (hpl : (backTo pos2 (starEach [e2] X.env)).any (·.1) = false := by rfl) :
    PE X (.Call (.Name "list" p) [.Call (.Name "zip" p2) [e, e2] [] pos2] [] pos) (tLZ X.K ta) := by
  intro pins s σ H Q I h
  refine wpAny_Call_Name_kw (ld_blt I hg hm boot_list (PyProof.Rows.callWith_type1 ?_ hs0 rfl))
  rw [hs0]
  show wpAny _ _ (spliced ((false, eval (Expr.Call (.Name "zip" p2) [e, e2] [] pos2) X.env) :: backTo pos [])) _ _ s
  refine Calls.spliced_cons ?_
  refine wpAny_Call_Name_kw (ld_blt I hg2 hm2 boot_zip5 (PyProof.Rows.callWith_type1 (thn (ha pos2 pins s σ H _ I h) fun us s1 ⟨vs, H1, I1, r1, q1⟩ => ?_) hs hpl))
  obtain ⟨a, b, xs, ys, ex, hqx, hqy, hlen, q⟩ := q1
  subst ex
  cases r1 with
  | cons r rr =>
    cases rr with
    | cons r' rr =>
      cases rr
      cases r
      cases r'
      obtain ⟨its, rv, p1, _⟩ := I1.list hqx
      obtain ⟨its2, rv2, p2, hz2⟩ := I1.list hqy
      have la : a < s1.heap.objs.size := p1.lt
      have lb : b < s1.heap.objs.size := p2.lt
      have l1 := rv.length
      have l2 := rv2.length
      refine call_zip_2 p1.isList p2.isList fun h' hz hTI hTO h1 h2 hsz hk => ?_
      refine Calls.spliced_nil ?_
      refine Lz.zl_call (s := { s1 with heap := h' }) (xs := its) (ys := its2) (I1.ok.hd hc) (PySem.W.ktu_apart s1.heap.objs.size a b la lb) hz hTI ⟨_, _, hTO⟩ h1 h2 (p1.isList.at fun o e => hk _ o e) (p2.isList.at fun o e => hk _ o e) (by omega) (by omega) fun h'' tk acc c as hk2 hS hal hG hacc => ?_
      have hS' : h''.get? h'.objs.size = some { cls := .type "list", dict := none, data := .seq acc c, slots := #[] } := hS
      have hG' : Lz.ZG its its2 h'.objs.size h'' as := hG
      have kk : ∀ b u, s1.heap.get? b = some u → h''.get? b = some u := fun b u e => by
        have hb := Heap.lt_size e
        exact hk2 b u (ne_add 4 hb) (ne_add 3 hb) (Nat.ne_of_lt hb) (ne_add 1 hb) (hk b u e)
      have big : s1.heap.objs.size ≤ h'.objs.size := by rw [hsz]; omega
      have alx : as.length ≤ (xs.zip ys).length := by rw [List.length_zip]; omega
      have nd : as.Nodup := hG'.rise.imp fun {u v} hlt => Nat.ne_of_lt hlt
      have pairAt : ∀ (j : Nat) (q : Addr), as[j]? = some q → ∃ x y u v, xs[j]? = some x ∧ ys[j]? = some y ∧ RelV x u ∧ RelV y v ∧ IsPair h'' q u v := fun j q hj => by
        obtain ⟨u, v, e1, e2, e3⟩ := hG'.pairs j q hj
        have hjl : j < as.length := (List.getElem?_eq_some_iff.mp hj).1
        have hjx : xs[j]? = some xs[j] := List.getElem?_eq_getElem (by omega)
        have hjy : ys[j]? = some ys[j] := List.getElem?_eq_getElem (by omega)
        obtain ⟨u', eu, ru⟩ := rv.get hjx
        obtain ⟨v', ev, rv'⟩ := rv2.get hjy
        rw [e1] at eu
        rw [e2] at ev
        cases eu
        cases ev
        exact ⟨_, _, u, v, hjx, hjy, ru, rv', e3⟩
      let H' : Hp := fun c => if c = h'.objs.size then some (.lst (as.map V.ref)) else match (as.zip (xs.zip ys)).lookup c with
        | some z => some (.tup [z.1, z.2])
        | none => H1 c
      have HS : H' h'.objs.size = some (.lst (as.map V.ref)) := if_pos rfl
      have HT : ∀ (j : Nat) (q : Addr) (x y : V), as[j]? = some q → xs[j]? = some x → ys[j]? = some y → H' q = some (.tup [x, y]) := fun j q x y hj hx hy => by
        have hqS : q ≠ h'.objs.size := Nat.ne_of_gt (hG'.above q (List.mem_of_getElem? hj))
        have hl : (as.zip (xs.zip ys)).lookup q = some (x, y) := zip_lookup nd hj (by rw [List.getElem?_zip_eq_some]; exact ⟨hx, hy⟩)
        show (if q = h'.objs.size then _ else _) = _
        rw [if_neg hqS, hl]
      have HO1 : ∀ c, c < h'.objs.size → H' c = H1 c := fun c hc => by
        show (if c = h'.objs.size then _ else _) = _
        rw [if_neg (Nat.ne_of_lt hc)]
        cases e : (as.zip (xs.zip ys)).lookup c with
        | none => rfl
        | some z =>
          obtain ⟨j, hj, _⟩ := lookup_zip e
          exact absurd hc (Nat.lt_asymm (hG'.above c (List.mem_of_getElem? hj)))
      have S' : Same H1 H' := fun c o e => by
        have hc := I1.hok.lt e
        rw [HO1 c (Nat.lt_of_lt_of_le hc big)]
        exact e
      have I2 : Inv X pins σ H' { s1 with heap := h'', toks := tk } := Inv.many I1 kk S' fun c o n e => by
        by_cases hcS : c = h'.objs.size
        · subst hcS
          rw [HS] at e
          cases e
          refine ⟨big, ?_⟩
          refine ⟨by rw [List.length_map]; omega, acc.toList, c, ?_, hS'⟩
          rw [hacc]
          exact vals_refs as
        · have e' : (match (as.zip (xs.zip ys)).lookup c with | some z => some (HO.tup [z.1, z.2]) | none => H1 c) = some o := by
            have e0 : (if c = h'.objs.size then some (HO.lst (as.map V.ref)) else (match (as.zip (xs.zip ys)).lookup c with | some z => some (HO.tup [z.1, z.2]) | none => H1 c)) = some o := e
            rw [if_neg hcS] at e0
            exact e0
          cases el : (as.zip (xs.zip ys)).lookup c with
          | none =>
            rw [el] at e'
            simp only at e'
            rw [n] at e'
            cases e'
          | some z =>
            rw [el] at e'
            simp only at e'
            cases e'
            obtain ⟨j, hj, hz⟩ := lookup_zip el
            rw [List.getElem?_zip_eq_some] at hz
            obtain ⟨x, y, u, v, hx, hy, ru, rv', e3⟩ := pairAt j c hj
            rw [hz.1] at hx
            rw [hz.2] at hy
            cases hx
            cases hy
            refine ⟨Nat.le_trans big (Nat.le_of_lt (hG'.above c (List.mem_of_getElem? hj))), ?_⟩
            exact ⟨by show 2 ≤ sizeLine; decide, [u, v], .cons ru (.cons rv' .nil), ⟨_, e3, rfl, _, rfl⟩⟩
      refine ⟨.ref h'.objs.size, H', I2, rfl, q H' h'.objs.size as S' HS (by omega) fun j r hj => ?_⟩
      obtain ⟨x, y, u, v, hx, hy, _⟩ := pairAt j r hj
      exact ⟨x, y, hx, hy, HT j r x y hj hx hy⟩
end
end Lc

set_option Elab.async false
set_option linter.all false
set_option maxRecDepth 100000
set_option maxHeartbeats 4000000
namespace Lc
open PySem PySem.Spec PyProof.Rows L2
abbrev sShoeInit : Stmt := inClass (top 24) 0
abbrev sBecome : Stmt := inClass (top 24) 1
abbrev sSetWhole : Stmt := inClass (top 24) 2
abbrev sTearable : Stmt := inClass (top 24) 3
/-- the class Shoe -/
structure SCls (K : PySem.W.Frag) (C : Addr) : Prop where
  cl : Cls K C
  n : ∀ f, f ∈ five → NoAttr K C f
theorem whole_len {s : Uw74.Shoe} (F : Fit s) : (whole s).length ≤ 8 ∧ ((whole s).filter fun e => decide (1 < e)).length ≤ 6 := by
  have h1 : (whole s).length ≤ 2 * s.rows := by
    have := List.length_filter_le (fun e => !s.torn.contains e) (List.range (2 * s.rows))
    rw [List.length_range] at this
    exact this
  have h4 := F.four
  refine ⟨by omega, ?_⟩
  rw [whole_between]
  have h2 : (whole s).length = (Uw74.inner s).length + 2 := by rw [whole_eq F]; rfl
  omega
section
variable {P : Program} {w : World} {K : PySem.W.Frag} {mg : Str → Option Value} {base : Heap} {C : Addr}
/-! set_whole -/
def spSet (C : Addr) : Sp := fun vs H Q _ => ∃ (a e dx : Addr) (fs : List (Str × V)) (ac al : Addr) (s : Uw74.Shoe), vs = [V.ref a, V.ref e] ∧ H a = some (.ins C dx fs) ∧ Keyed fs 3 ∧
  fs.lookup ("eyelet_count" : Str) = some (.int ((2 * s.rows : Nat) : Int)) ∧ fs.lookup ("across" : Str) = some (.ref ac) ∧ fs.lookup ("along" : Str) = some (.ref al) ∧ NL H ac s.across ∧ NL H al (0 :: s.along) ∧ NL H e (whole s) ∧ Fit s ∧
  ∀ H' : Hp, Keeps H H' a → ShoeAt C H' a s → Q .non H'
theorem scSet : FnScope ["self", "eyelets"] ["self", "eyelets"] (defScope sSetWhole) := ⟨rfl, rfl, rfl, by decide +kernel, rfl, by decide +kernel, by decide +kernel⟩
theorem ok_set {f : Addr} {fd : FuncData} (F : Fun K "set_whole" "Shoe.set_whole" sSetWhole f fd) (S : SCls K C) (DA : Def P w K mg base "all_lacings" 5 ["whole"] spAll) : FnOk P w K mg base CX0 6 f fd ["self", "eyelets"] (spSet C) := by
  refine F.ok scSet (fun vs H Q E h => ?_) (fun cdv A outer s H vs Q E hr h => ?_)
  · obtain ⟨a, e, dx, fs, ac, al, s, rfl, _⟩ := h
    rfl
  · obtain ⟨a, e, dx, fs, ac, al, sh, rfl, ha, hk, l1, l2, l3, hac, hal, he, hF, k⟩ := h
    refine ⟨_, pss_cons (ps_fld (pv 0) (pv 1) rfl) (pss_one (ps_fld (pv 0) (pe_def DA hr rfl (pa_cons (pv 1) pa_nil)) rfl)), ?_⟩
    refine ⟨_, rfl, _, rfl, a, C, dx, fs, rfl, ha, S.cl, S.n _ (by decide +kernel), hk.len, ?_⟩
    have hk1 := hk.put (f := "whole") rfl (V.ref e)
    have k1 : Keeps H (upd H a (.ins C dx (putF "whole" (V.ref e) fs))) a := keeps_upd
    have hw := whole_len hF
    refine ⟨_, rfl, e, whole sh, rfl, he.keep k1 ha, hw.1, hw.2, fun H2 r s2 L => ?_⟩
    have ha2 : H2 a = some (.ins C dx (putF "whole" (V.ref e) fs)) := s2 _ _ upd_same
    refine ⟨_, rfl, a, C, dx, _, rfl, ha2, S.cl, S.n _ (by decide +kernel), hk1.len, ?_⟩
    have hk2 := hk1.put (f := "laced") rfl (V.ref r)
    have k2 : Keeps H2 (upd H2 a (.ins C dx (putF "laced" (V.ref r) (putF "whole" (V.ref e) fs)))) a := keeps_upd
    have k3 : Keeps H (upd H2 a (.ins C dx (putF "laced" (V.ref r) (putF "whole" (V.ref e) fs)))) a := (k1.trans (Same.keeps s2 a)).trans k2
    refine k _ k3 ⟨dx, _, ac, al, e, r, upd_same, hk2.all, ?_, ?_, ?_, ?_, ?_, hac.keep k3 ha, hal.keep k3 ha, he.keep k3 ha, ?_⟩
    · rw [lookup_putF, if_neg (by decide), lookup_putF, if_neg (by decide)]
      exact l1
    · rw [lookup_putF, if_neg (by decide), lookup_putF, if_neg (by decide)]
      exact l2
    · rw [lookup_putF, if_neg (by decide), lookup_putF, if_neg (by decide)]
      exact l3
    · rw [lookup_putF, if_neg (by decide), lookup_putF, if_pos rfl]
    · rw [lookup_putF, if_pos rfl]
    · rw [← lacings_all]
      exact L.keep k2 ha2
/-! become -/
def spBecome (C : Addr) : Sp := fun vs H Q _ => ∃ (a l dx : Addr) (fs : List (Str × V)) (n : Nat) (ls : List Nat), vs = [V.ref a, V.int (n : Int), V.ref l] ∧ H a = some (.ins C dx fs) ∧ Keyed fs 0 ∧ 2 ≤ n ∧ n ≤ 4 ∧ NL H l ls ∧ ls.length = 2 * n - 1 ∧
  ∀ H' : Hp, Keeps H H' a → ShoeAt C H' a ⟨n, ls.take n, ls.drop n, []⟩ → Q .non H'
theorem scBecome : FnScope ["self", "n", "lengths"] ["self", "n", "lengths"] (defScope sBecome) := ⟨rfl, rfl, rfl, by decide +kernel, rfl, by decide +kernel, by decide +kernel⟩
theorem cut_take {l : List Nat} {n : Nat} (h : n ≤ l.length) : cutV (nv l) none (some (n : Int)) = nv (l.take n) := by
  unfold cutV
  rw [nv_len, HT.sIx_none, HT.sIx_nat, Nat.sub_zero, List.drop_zero, Nat.min_eq_left h]
  exact List.map_take.symm
theorem cut_drop {l : List Nat} {n : Nat} (h : n ≤ l.length) : cutV (nv l) (some (n : Int)) none = nv (l.drop n) := by
  unfold cutV
  rw [nv_len, HT.sIx_none, HT.sIx_nat, Nat.min_eq_left h, List.take_of_length_le (by rw [List.length_drop, nv_len]; omega)]
  exact List.map_drop.symm
theorem whole_new (n : Nat) (a b : List Nat) : whole ⟨n, a, b, []⟩ = List.range (2 * n) := by
  unfold whole
  exact List.filter_eq_self.mpr fun x _ => by simp
theorem ok_become {f : Addr} {fd : FuncData} (F : Fun K "become" "Shoe.become" sBecome f fd) (T : Glo mg) (S : SCls K C) (DS : MDef P w K mg base C "set_whole" 6 ["self", "eyelets"] (spSet C)) : FnOk P w K mg base CX0 7 f fd ["self", "n", "lengths"] (spBecome C) := by
  refine F.ok scBecome (fun vs H Q E h => ?_) (fun cdv A outer s H vs Q E hr h => ?_)
  · obtain ⟨a, l, dx, fs, n, ls, rfl, _⟩ := h
    rfl
  · obtain ⟨a, l, dx, fs, n, ls, rfl, ha, hk, hn2, hn4, hl, hls, k⟩ := h
    refine ⟨_, pss_cons (ps_fld (pv 0) (pe_op op_mul pe_int (pv 1)) rfl)
      (pss_cons (ps_fld (pv 0) (pe_slice sl_list (pv 2) po_none (po_some (pv 1))) rfl)
      (pss_cons (ps_fld (pv 0) (pe_op op_cat (pe_lst (pa_cons pe_int pa_nil)) (pe_slice sl_list (pv 2) (po_some (pv 1)) po_none)) rfl)
      (pss_one (ps_expr (pe_mdef S.cl DS hr (pv 0) (pa_cons (pe_callTy (cr_listRng rfl) rfl T.list PyProof.Rows.boot_list (pa_cons (pe_range rfl T.range (pa_cons (pe_op op_mul pe_int (pv 1)) pa_nil)) pa_nil)) pa_nil)))))), ?_⟩
    -- eyelet_count
    refine ⟨_, rfl, _, _, rfl, rfl, .inl ⟨by decide, by decide⟩, _, rfl, a, C, dx, fs, rfl, ha, S.cl, S.n _ (by decide +kernel), hk.len, ?_⟩
    have hk1 := hk.put (f := "eyelet_count") rfl (V.int (2 * (n : Int)))
    generalize hf1 : putF "eyelet_count" (V.int (2 * (n : Int))) fs = fs1 at hk1
    have k1 : Keeps H (upd H a (.ins C dx fs1)) a := keeps_upd
    -- across
    refine ⟨_, rfl, _, rfl, _, rfl, l, _, rfl, (hl.keep k1 ha).seq, fun ac hac => ?_⟩
    have s1 : Same (upd H a (.ins C dx fs1)) (upd (upd H a (.ins C dx fs1)) ac (.lst (cutV (nv ls) none (some (n : Int))))) := same_new (Same.refl _) hac
    generalize hH1 : upd (upd H a (.ins C dx fs1)) ac (.lst (cutV (nv ls) none (some (n : Int)))) = H1 at s1
    have ha1 : H1 a = some (.ins C dx fs1) := s1 _ _ upd_same
    have hac1 : NL H1 ac (ls.take n) := by
      show H1 ac = _
      rw [← hH1, upd_same, cut_take (by omega)]
    have k2 : Keeps H H1 a := k1.trans (Same.keeps s1 a)
    refine ⟨_, rfl, a, C, dx, _, rfl, ha1, S.cl, S.n _ (by decide +kernel), hk1.len, ?_⟩
    have hk2 := hk1.put (f := "across") rfl (V.ref ac)
    generalize hf2 : putF "across" (V.ref ac) fs1 = fs2 at hk2
    have k3 : Keeps H1 (upd H1 a (.ins C dx fs2)) a := keeps_upd
    have k4 : Keeps H (upd H1 a (.ins C dx fs2)) a := k2.trans k3
    generalize hH2 : upd H1 a (.ins C dx fs2) = H2 at k3 k4
    have ha2 : H2 a = some (.ins C dx fs2) := by rw [← hH2, upd_same]
    have hac2 : NL H2 ac (ls.take n) := hac1.keep k3 ha1
    -- along
    refine ⟨(by show 1 ≤ sizeLine; decide), fun z hz => ?_⟩
    have s2 : Same H2 (upd H2 z (.lst [V.int 0])) := same_new (Same.refl _) hz
    refine ⟨_, rfl, _, rfl, _, rfl, l, _, rfl, ((hl.keep k4 ha).same s2).seq, fun y hy => ?_⟩
    have s3 : Same H2 (upd (upd H2 z (.lst [V.int 0])) y (.lst (cutV (nv ls) (some (n : Int)) none))) := same_new s2 hy
    have hzy : z ≠ y := fun q => by rw [← q, upd_same] at hy; cases hy
    refine ⟨z, y, _, _, rfl, rfl, by rw [upd_ne hzy, upd_same], upd_same, ?_, fun al hal => ?_⟩
    · rw [cut_drop (by omega), nv_len, List.length_drop]
      exact Nat.le_of_lt (line_le (by show 1 + (ls.length - n) ≤ _; omega))
    have s4 : Same H2 (upd (upd (upd H2 z (.lst [V.int 0])) y (.lst (cutV (nv ls) (some (n : Int)) none))) al (.lst ([V.int 0] ++ cutV (nv ls) (some (n : Int)) none))) := same_new s3 hal
    generalize hH3 : upd (upd (upd H2 z (.lst [V.int 0])) y (.lst (cutV (nv ls) (some (n : Int)) none))) al (.lst ([V.int 0] ++ cutV (nv ls) (some (n : Int)) none)) = H3 at s4
    have hal3 : NL H3 al (0 :: ls.drop n) := by
      show H3 al = _
      rw [← hH3, upd_same, cut_drop (by omega)]
      rfl
    have ha3 : H3 a = some (.ins C dx fs2) := s4 _ _ ha2
    refine ⟨_, rfl, a, C, dx, _, rfl, ha3, S.cl, S.n _ (by decide +kernel), hk2.len, ?_⟩
    have hk3 := hk2.put (f := "along") rfl (V.ref al)
    generalize hf3 : putF "along" (V.ref al) fs2 = fs3 at hk3
    have k5 : Keeps H3 (upd H3 a (.ins C dx fs3)) a := keeps_upd
    have k6 : Keeps H (upd H3 a (.ins C dx fs3)) a := (k4.trans (Same.keeps s4 a)).trans k5
    generalize hH4 : upd H3 a (.ins C dx fs3) = H4 at k5 k6
    have ha4 : H4 a = some (.ins C dx fs3) := by rw [← hH4, upd_same]
    -- set_whole
    refine ⟨_, rfl, a, dx, fs3, rfl, ha4, hk3.no (by decide +kernel), _, rfl, _, _, rfl, rfl, .inl ⟨by decide, by decide⟩, _, rfl, fun r hr1 => ?_⟩
    have s5 : Same H4 (upd H4 r (.rng 0 (2 * (n : Int)))) := same_new (Same.refl _) hr1
    refine ⟨r, 2 * n, rfl, upd_same, by omega, fun wl hwl => ?_⟩
    have s6 : Same H4 (upd (upd H4 r (.rng 0 (2 * (n : Int)))) wl (.lst (nv (List.range (2 * n))))) := same_new s5 hwl
    generalize hH5 : upd (upd H4 r (.rng 0 (2 * (n : Int)))) wl (.lst (nv (List.range (2 * n)))) = H5 at s6
    have hF : Fit ⟨n, ls.take n, ls.drop n, []⟩ := fit_shoe hn2 hn4 hls
    refine ⟨a, wl, dx, fs3, ac, al, ⟨n, ls.take n, ls.drop n, []⟩, rfl, s6 _ _ ha4, hk3, ?_, ?_, ?_, (((hac2.same s4).keep k5 ha3).same s6), ((hal3.keep k5 ha3).same s6), ?_, hF, fun H' k7 R => ?_⟩
    · rw [← hf3, lookup_putF, if_neg (by decide), ← hf2, lookup_putF, if_neg (by decide), ← hf1, lookup_putF, if_pos rfl]
      congr 2
    · rw [← hf3, lookup_putF, if_neg (by decide), ← hf2, lookup_putF, if_pos rfl]
    · rw [← hf3, lookup_putF, if_pos rfl]
    · show H5 wl = _
      rw [← hH5, upd_same, whole_new]
    · exact k H' ((k6.trans (Same.keeps s6 a)).trans k7) R
/-! __init__ -/
def spShoeInit (C : Addr) : Sp := fun vs H Q _ => ∃ (a l dx : Addr) (n : Nat) (ls : List Nat), vs = [V.ref a, V.int (n : Int), V.ref l] ∧ H a = some (.ins C dx []) ∧ 2 ≤ n ∧ n ≤ 4 ∧ NL H l ls ∧ ls.length = 2 * n - 1 ∧
  ∀ H' : Hp, Keeps H H' a → ShoeAt C H' a ⟨n, ls.take n, ls.drop n, []⟩ → Q .non H'
theorem scShoeInit : FnScope ["self", "n", "lengths"] ["self", "n", "lengths"] (defScope sShoeInit) := ⟨rfl, rfl, rfl, by decide +kernel, rfl, by decide +kernel, by decide +kernel⟩
theorem ok_shoeInit {f : Addr} {fd : FuncData} (F : Fun K "__init__" "Shoe.__init__" sShoeInit f fd) (S : SCls K C) (DB : MDef P w K mg base C "become" 7 ["self", "n", "lengths"] (spBecome C)) : FnOk P w K mg base CX0 8 f fd ["self", "n", "lengths"] (spShoeInit C) := by
  refine F.ok scShoeInit (fun vs H Q E h => ?_) (fun cdv A outer s H vs Q E hr h => ?_)
  · obtain ⟨a, l, dx, n, ls, rfl, _⟩ := h
    rfl
  · obtain ⟨a, l, dx, n, ls, rfl, ha, hn2, hn4, hl, hls, k⟩ := h
    refine ⟨_, pss_one (ps_expr (pe_mdef S.cl DB hr (pv 0) (pa_cons (pv 1) (pa_cons (pv 2) pa_nil)))), ?_⟩
    exact ⟨_, rfl, a, dx, [], rfl, ha, rfl, _, rfl, _, rfl, a, l, dx, [], n, ls, rfl, ha, .inl rfl, hn2, hn4, hl, hls, fun H' k1 R => k H' k1 R⟩
/-! has_tearable -/
def spTearable (C : Addr) : Sp := fun vs H Q _ => ∃ (a : Addr) (s : Uw74.Shoe) (e : Nat), vs = [V.ref a, V.int (e : Int)] ∧ ShoeAt C H a s ∧ Q (.bl (decide (1 < e) && decide (e < 2 * s.rows))) H
theorem scTearable : FnScope ["self", "eyelet"] ["self", "eyelet"] (defScope sTearable) := ⟨rfl, rfl, rfl, by decide +kernel, rfl, by decide +kernel, by decide +kernel⟩
theorem ok_tearable {f : Addr} {fd : FuncData} (F : Fun K "has_tearable" "Shoe.has_tearable" sTearable f fd) (T : Glo mg) (S : SCls K C) : FnOk P w K mg base CX0 1 f fd ["self", "eyelet"] (spTearable C) := by
  refine F.ok scTearable (fun vs H Q E h => ?_) (fun cdv A outer s H vs Q E hr h => ?_)
  · obtain ⟨a, sh, e, rfl, _⟩ := h
    rfl
  · obtain ⟨a, sh, e, rfl, ⟨dx, fs, ac, al, wh, la, R⟩, k⟩ := h
    obtain ⟨tE, hE⟩ := T.end_
    refine ⟨_, pss_one (ps_ret (pe_chain op_lt op_lt (pe_gi rfl hE) (pv 1) (pe_fld (pv 0) rfl))), ?_⟩
    refine ⟨_, rfl, _, _, rfl, rfl, _, rfl, ?_⟩
    refine ite2 (fun c => ?_) (fun c => ?_)
    · have c' : 1 < e := by have := of_decide_eq_true c; omega
      refine ⟨_, rfl, a, C, dx, fs, _, rfl, R.at_, S.cl, S.n _ (by decide +kernel), R.cnt, _, _, rfl, rfl, ?_⟩
      rw [decide_eq_true c', Bool.true_and] at k
      refine qb ?_ k
      rw [Bool.eq_iff_iff, decide_eq_true_iff, decide_eq_true_iff]
      omega
    · have c' : ¬ 1 < e := fun z => c (decide_eq_true (by omega))
      rw [decide_eq_false c', Bool.false_and] at k
      exact k
end
end Lc

set_option Elab.async false
set_option linter.all false
set_option maxRecDepth 100000
set_option maxHeartbeats 4000000
namespace Lc
open PySem PySem.Spec PyProof.Rows L2
abbrev sIsLacing : Stmt := top 30
abbrev sPieces : Stmt := top 31
abbrev sPieceLen : Stmt := top 32
abbrev sLength : Stmt := top 33
theorem nat_at {l : List Nat} {i : Nat} (h : i < l.length) : (nv l)[i]? = some (V.int ((l.getD i 0 : Nat) : Int)) := nv_at (by
  rw [List.getD_eq_getElem?_getD, List.getElem?_eq_getElem h]
  rfl)
theorem ne_dec (a b : Nat) : (!decide (V.int (a : Int) = V.int (b : Int))) = !(a == b) := by
  congr 1
  rw [Bool.eq_iff_iff, decide_eq_true_iff, beq_iff_eq]
  constructor
  · intro h
    injection h with h
    omega
  · intro h
    rw [h]
section
variable {P : Program} {w : World} {K : PySem.W.Frag} {mg : Str → Option Value} {base : Heap} {C : Addr}
/-! is_lacing -/
def spIsLacing (C : Addr) : Sp := fun vs H Q _ => ∃ (a r : Addr) (s : Uw74.Shoe) (row : List Nat), vs = [V.ref a, V.ref r] ∧ ShoeAt C H a s ∧ Fit s ∧ NL H r row ∧ row.length ≤ 12 ∧
  ∀ H' : Hp, Same H H' → Q (.bl (Uw74.isLacing s row)) H'
theorem scIsLacing : FnScope ["shoe", "row", "k"] ["shoe", "row"] (defScope sIsLacing) := ⟨rfl, rfl, rfl, by decide +kernel, rfl, by decide +kernel, by decide +kernel⟩
theorem ok_isLacing {f : Addr} {fd : FuncData} (F : Fun K "is_lacing" "is_lacing" sIsLacing f fd) (T : Glo mg) (S : SCls K C) (DH : Def P w K mg base "is_held" 2 ["ahead", "eyelet", "behind"] spHeld) : FnOk P w K mg base CX0 3 f fd ["shoe", "row"] (spIsLacing C) := by
  refine F.ok scIsLacing (fun vs H Q E h => ?_) (fun cdv A outer s H vs Q E hr h => ?_)
  · obtain ⟨a, r, sh, row, rfl, _⟩ := h
    rfl
  · obtain ⟨a, r, sh, row, rfl, hsh, hF, hr0, h12, k⟩ := h
    obtain ⟨dx, fs, ac, al, wh, la, R⟩ := hsh
    obtain ⟨tE, hE⟩ := T.end_
    obtain ⟨tB, hB⟩ := T.beg
    refine ⟨_, pss_cons (ps_if (pt_cmpR (op_neD hr.units) (pe_callB cr_sorted rfl T.sorted PyProof.Rows.boot_sorted (pa_cons (pv 1) pa_nil)) (pe_fld (pv 0) rfl) (nomark _)) (pss_one (ps_ret pe_bl)) pss_nil)
      (pss_cons (ps_if (PW.pt (pw_or (pt_cmpR op_ne (pe_ix ix_list (pv 1) pe_int (fun _ _ => rfl)) (pe_gi rfl hB) (nomark _))
          (pw_or1 (pt_cmpR op_ne (pe_ix ix_list (pv 1) (pe_un un_neg pe_int) (fun _ _ => rfl)) (pe_gi rfl hE) (nomark _))))) (pss_one (ps_ret pe_bl)) pss_nil)
      (pss_one (ps_ret (pe_callB (cr_all rfl) rfl T.all PyProof.Rows.boot_all (pa_cons
        (pe_lc (own := [("k", 2)]) rfl scIsLacing.nd (pi_range2 rfl T.range (pa_cons pe_int (pa_cons (pe_op op_sub (pe_callB call_len_seq rfl T.len PySem.boot_len (pa_cons (pv 1) pa_nil)) pe_int) pa_nil)))
          (blkOk_by (by kernel_rfl)) (fun _ _ _ _ _ => pg_name (i := 2) scIsLacing.nd rfl (Or.inl rfl)) (fun _ _ _ _ _ => pts_nil)
          (fun _ _ _ _ _ => pe_def DH hr rfl (pa_cons (pe_ix (ix_lk K) (pv 1) (pe_op op_sub (pv 2) pe_int) (fun _ _ => rfl)) (pa_cons (pe_ix (ix_lk K) (pv 1) (pv 2) (fun _ _ => rfl)) (pa_cons (pe_ix (ix_lk K) (pv 1) (pe_op op_add (pv 2) pe_int) (fun _ _ => rfl)) pa_nil))))) pa_nil))))), ?_⟩
    -- sorted(row) != shoe.whole
    refine ⟨_, rfl, r, row.map (fun (n : Nat) => (n : Int)), rfl, by rw [← nvI]; exact hr0.seq, by rw [List.length_map]; omega, fun ns p hp hs hpn => ?_⟩
    obtain ⟨m, rfl, hm⟩ := ints_nat hp
    have hs' := pair_nat hs
    rw [← nvI]
    have s1 : Same H (upd H p (.lst (nv m))) := same_new (Same.refl H) hpn
    have hp1 : NL (upd H p (.lst (nv m))) p m := upd_same
    generalize upd H p (.lst (nv m)) = H1 at s1 hp1
    refine ⟨_, rfl, a, C, dx, fs, _, rfl, s1 _ _ R.at_, S.cl, S.n _ (by decide +kernel), R.whole, dn m, dn (whole sh), dp_nl hp1, dp_nl (R.whL.same s1), shaped_dn _, shaped_dn _, _, rfl, ?_⟩
    rw [eqv_dn]
    have hiff := sorted_is (s := sh) hm hs'
    by_cases hw : m = whole sh
    · rw [decide_eq_true hw]
      refine iteF ?_
      have hperm := hiff.mp hw
      have e0 := isLacing_perm hF hperm
      have hlen : 2 ≤ row.length := by rw [hperm.length_eq, whole_eq hF]; exact Nat.le_add_left _ _
      have hr1 : NL H1 r row := hr0.same s1
      -- row[0]
      refine ⟨_, rfl, r, _, _, _, rfl, rfl, hr1.seq, at_of (j := 0) rfl (nat_at (by omega)), rfl, _, rfl, ?_⟩
      have d0 := ne_dec (row.getD 0 0) 0
      have d1 := ne_dec (last1 row) 1
      have d0' : (!decide (V.int ((row.getD 0 0 : Nat) : Int) = V.int 0)) = !(row.getD 0 0 == 0) := d0
      have d1' : (!decide (V.int ((last1 row : Nat) : Int) = V.int 1)) = !(last1 row == 1) := d1
      rw [d0']
      cases c0 : (row.getD 0 0 == 0) with
      | false =>
        refine iteT (iteT ?_)
        rw [c0, Bool.false_and, Bool.false_and] at e0
        rw [e0] at k
        exact k H1 s1
      | true =>
        refine iteF ?_
        refine ⟨_, rfl, _, rfl, r, _, _, _, rfl, rfl, hr1.seq, back1 (by omega), rfl, _, rfl, ?_⟩
        rw [d1']
        cases c1 : (last1 row == 1) with
        | false =>
          refine iteT ?_
          rw [c0, c1, Bool.and_false, Bool.false_and] at e0
          rw [e0] at k
          exact k H1 s1
        | true =>
          refine iteF ?_
          rw [c0, c1, Bool.true_and, Bool.true_and, ← heldList_all] at e0
          rw [e0] at k
          -- all
          refine ⟨_, rfl, r, _, rfl, .inl hr1.seq, _, _, rfl, rfl, 1, _, rfl, ⟨by decide, by decide, by rw [nv_len]; omega, by rw [nv_len]; omega⟩, fun D hD => ?_⟩
          have hn : (((nv row).length : Nat) : Int) - 1 - 1 = ((row.length - 2 : Nat) : Int) := by rw [nv_len]; omega
          rw [hn, Int.toNat_natCast]
          have hl : (heldList row).length = row.length - 2 := by unfold heldList; rw [List.length_map, List.length_range]
          refine lc_range (lo := 1) (n := row.length - 2) (fun i H' => Same H1 H' ∧ H' D = some (.lst (((heldList row).take i).map V.bl))) ⟨same_new (Same.refl H1) hD, upd_same⟩ ?_ ?_
          · rintro i H2 hi ⟨s2, h2⟩
            have hr2 : NL H2 r row := hr1.same s2
            refine ⟨rfl, ?_⟩
            refine yesT ?_
            refine ⟨_, rfl, _, rfl, _, _, rfl, rfl, r, _, _, _, rfl, rfl, hr2.seq, at_of (j := i) (by omega) (nat_at (by omega)), _, rfl, _, rfl, r, _, _, _, rfl, rfl, hr2.seq, at_of (j := i + 1) (by omega) (nat_at (by omega)),
              _, rfl, _, rfl, _, _, rfl, rfl, r, _, _, _, rfl, rfl, hr2.seq, at_of (j := i + 2) (by omega) (nat_at (by omega)), _, _, _, rfl, _, h2, ?_, ?_⟩
            · rw [List.length_map, List.length_take]
              exact line_le (by omega)
            · refine ⟨same_write s2 hD, ?_⟩
              rw [upd_same]
              have hg : (heldList row)[i]? = some (isHeld3 (row.getD i 0) (row.getD (i + 1) 0) (row.getD (i + 2) 0)) := by
                unfold heldList
                rw [List.getElem?_map, List.getElem?_range hi]
                rfl
              rw [take_snoc hg, List.map_append]
              rfl
          rintro H2 ⟨s2, h2⟩
          rw [← hl, List.take_length] at h2
          exact ⟨D, heldList row, rfl, SqL.of h2, k H2 (s1.trans s2)⟩
    · rw [decide_eq_false hw]
      refine iteT ?_
      rw [isLacing_not hF fun z => hw (hiff.mpr z)] at k
      exact k H1 s1
end
end Lc

set_option Elab.async false
set_option linter.all false
set_option maxRecDepth 100000
set_option maxHeartbeats 4000000
namespace Lc
open PySem PySem.Spec PyProof.Rows L2
abbrev sLeftRight : Stmt := top 34
abbrev sAcrossP : Stmt := top 35
abbrev sCrossing : Stmt := top 37
/-- a tuple of two naturals -/
def TP2 (H : Hp) (a : Addr) (x : Nat × Nat) : Prop := H a = some (.tup [V.int (x.1 : Int), V.int (x.2 : Int)])
/-- a list of such -/
def LT (H : Hp) (a : Addr) (ps : List (Nat × Nat)) : Prop := ∃ as : List Addr, H a = some (.lst (as.map V.ref)) ∧ Paired (TP2 H) as ps
theorem LT.same {H H' : Hp} (e : Same H H') {a : Addr} {ps : List (Nat × Nat)} (h : LT H a ps) : LT H' a ps := by
  obtain ⟨as, h1, h2⟩ := h
  exact ⟨as, e _ _ h1, paired_mono (fun _ _ x => e _ _ x) h2⟩
def LTM (H : Hp) (a : Addr) (ps : List (Nat × Nat)) : Prop := ∃ as : List Addr, H a = some (.lst (as.map V.ref)) ∧ Paired (TP2 H) as ps
theorem cut_drop1 (l : List Nat) (n : Nat) : cutV (nv l) (some (n : Int)) none = nv (l.drop n) := by
  unfold cutV
  rw [nv_len, HT.sIx_none, HT.sIx_nat, List.take_of_length_le (by rw [List.length_drop, nv_len]; omega)]
  unfold nv
  rw [List.map_drop]
  rcases Nat.le_total n l.length with h | h
  · rw [Nat.min_eq_left h]
  · rw [Nat.min_eq_right h, List.drop_of_length_le (by rw [List.length_map]; exact Nat.le_refl _), List.drop_of_length_le (by rw [List.length_map]; exact h)]
theorem sum_cast : ∀ l : List Nat, (l.map fun (n : Nat) => (n : Int)).sum = ((l.sum : Nat) : Int)
  | [] => rfl
  | a :: l => by
    rw [List.map_cons, List.sum_cons, List.sum_cons, sum_cast l]
    omega
section
variable {P : Program} {w : World} {K : PySem.W.Frag} {mg : Str → Option Value} {base : Heap} {C : Addr}
/-! pieces -/
def spPieces : Sp := fun vs H Q _ => ∃ (p : Addr) (l : List Nat), vs = [V.ref p] ∧ NL H p l ∧ l.length ≤ 100 ∧ ∀ (H' : Hp) (r : Addr), Same H H' → LT H' r (Uw74.pieces l) → Q (.ref r) H'
theorem scPieces : FnScope ["lacing"] ["lacing"] (defScope sPieces) := ⟨rfl, rfl, rfl, by decide +kernel, rfl, by decide +kernel, by decide +kernel⟩
theorem ok_pieces {f : Addr} {fd : FuncData} (F : Fun K "pieces" "pieces" sPieces f fd) (T : Glo mg) : FnOk P w K mg base CX0 1 f fd ["lacing"] spPieces := by
  refine F.ok scPieces (fun vs H Q E h => ?_) (fun cdv A outer s H vs Q E hr h => ?_)
  · obtain ⟨p, l, rfl, _⟩ := h
    rfl
  · obtain ⟨p, l, rfl, hp, h100, k⟩ := h
    refine ⟨_, pss_one (ps_ret (pe_lz rfl rfl T.list rfl T.zip (pa_cons (pv 0) (pa_cons (pe_slice sl_list (pv 0) (po_some pe_int) po_none) pa_nil)))), ?_⟩
    refine ⟨_, rfl, _, rfl, _, rfl, p, _, rfl, hp.seq, fun q hq => ?_⟩
    have s1 : Same H (upd H q (.lst (cutV (nv l) (some 1) none))) := same_new (Same.refl H) hq
    have ec : cutV (nv l) (some 1) none = nv (l.drop 1) := cut_drop1 l 1
    rw [ec] at s1 ⊢
    refine ⟨p, q, nv l, nv (l.drop 1), rfl, (hp.same s1).seq, SqL.of upd_same, by rw [nv_len, nv_len, List.length_drop]; omega, fun H' r as s2 h1 hl hpr => ?_⟩
    refine k H' r (s1.trans s2) ⟨as, h1, ?_⟩
    rw [nv_len, List.length_drop] at hl
    refine paired_of (by unfold Uw74.pieces; rw [List.length_zip, List.length_drop]; omega) fun i a b ha hb => ?_
    obtain ⟨x, y, hx, hy, ht⟩ := hpr i a ha
    obtain ⟨n, hn, rfl⟩ := at_nv hx
    obtain ⟨m, hm, rfl⟩ := at_nv hy
    unfold Uw74.pieces at hb
    rw [List.getElem?_zip_eq_some] at hb
    rw [hn, hm] at hb
    obtain ⟨e1, e2⟩ := hb
    show H' a = _
    rw [ht, Option.some.inj e1, Option.some.inj e2]
/-! piece_length -/
def spPieceLen (C : Addr) : Sp := fun vs H Q _ => ∃ (a q : Addr) (s : Uw74.Shoe) (x : Nat × Nat), vs = [V.ref a, V.ref q] ∧ ShoeAt C H a s ∧ Fit s ∧ TP2 H q x ∧ x.1 < 2 * s.rows ∧ x.2 < 2 * s.rows ∧ Q (.int ((pieceLen s.across s.along x.1 x.2 : Nat) : Int)) H
theorem scPieceLen : FnScope ["shoe", "piece", "rows_apart"] ["shoe", "piece"] (defScope sPieceLen) := ⟨rfl, rfl, rfl, by decide +kernel, rfl, by decide +kernel, by decide +kernel⟩
theorem abs_apart (x y : Nat) : (if (x : Int) / 2 - (y : Int) / 2 < 0 then -((x : Int) / 2 - (y : Int) / 2) else (x : Int) / 2 - (y : Int) / 2) = ((apartI x y : Nat) : Int) := by
  unfold apartI Uw74.apart
  split <;> omega
theorem ok_pieceLen {f : Addr} {fd : FuncData} (F : Fun K "piece_length" "piece_length" sPieceLen f fd) (T : Glo mg) (S : SCls K C) (DA : Def P w K mg base "is_across" 1 ["eyelet", "other"] spAcross) : FnOk P w K mg base CX0 2 f fd ["shoe", "piece"] (spPieceLen C) := by
  refine F.ok scPieceLen (fun vs H Q E h => ?_) (fun cdv A outer s H vs Q E hr h => ?_)
  · obtain ⟨a, q, sh, x, rfl, _⟩ := h
    rfl
  · obtain ⟨a, q, sh, ⟨x, y⟩, rfl, ⟨dx, fs, ac, al, wh, la, R⟩, hF, hq, hx, hy, k⟩ := h
    refine ⟨_, pss_cons (ps_set (i := 2) scPieceLen.nd rfl (Or.inl rfl) (pe_callB call_abs rfl T.abs PyProof.Rows.boot_abs (pa_cons (pe_op op_sub (pe_op op_fdiv (pe_ix ix_tup (pv 1) pe_int (fun _ _ => rfl)) pe_int) (pe_op op_fdiv (pe_ix ix_tup (pv 1) pe_int (fun _ _ => rfl)) pe_int)) pa_nil)))
      (pss_cons (ps_if (pt_val (pe_def DA hr rfl (pa_cons (pe_ix ix_tup (pv 1) pe_int (fun _ _ => rfl)) (pa_cons (pe_ix ix_tup (pv 1) pe_int (fun _ _ => rfl)) pa_nil)))) (pss_one (ps_ret (pe_ix ix_list (pe_fld (pv 0) rfl) (pv 2) (fun _ _ => rfl)))) pss_nil)
      (pss_one (ps_ret (pe_ix ix_list (pe_fld (pv 0) rfl) (pv 2) (fun _ _ => rfl))))), ?_⟩
    have q0 : ∀ {K : PySem.W.Frag}, SqT K H q [V.int (x : Int), V.int (y : Int)] := SqT.of hq
    refine ⟨_, rfl, q, _, _, _, rfl, rfl, q0, at_of (j := 0) rfl rfl, _, _, rfl, rfl, ⟨by decide, by decide⟩, _, rfl, q, _, _, _, rfl, rfl, q0, at_of (j := 1) rfl rfl, _, _, rfl, rfl, ⟨by decide, by decide⟩, _, _, rfl, rfl, _, rfl, ?_⟩
    rw [abs_apart]
    have hk : apartI x y < sh.rows := by unfold apartI Uw74.apart; omega
    refine ⟨_, rfl, q, _, _, _, rfl, rfl, q0, at_of (j := 0) rfl rfl, _, rfl, q, _, _, _, rfl, rfl, q0, at_of (j := 1) rfl rfl, x, y, rfl, _, rfl, ?_⟩
    have k' : Q (.int ((pieceLen sh.across sh.along x y : Nat) : Int)) H := k
    unfold pieceLen at k'
    cases hc : isAcross x y with
    | true =>
      rw [hc, if_pos rfl] at k'
      exact iteT ⟨_, rfl, a, C, dx, fs, _, rfl, R.at_, S.cl, S.n _ (by decide +kernel), R.across, _, rfl, ac, _, _, _, rfl, rfl, R.acL.seq, at_of (j := apartI x y) rfl (nat_at (by rw [hF.across]; exact hk)), k'⟩
    | false =>
      rw [hc, if_neg (by decide)] at k'
      exact iteF ⟨_, rfl, a, C, dx, fs, _, rfl, R.at_, S.cl, S.n _ (by decide +kernel), R.along, _, rfl, al, _, _, _, rfl, rfl, R.alL.seq, at_of (j := apartI x y) rfl (nat_at (by rw [List.length_cons, hF.along]; omega)), k'⟩
/-! lacing_length -/
def spLength (C : Addr) : Sp := fun vs H Q _ => ∃ (a p : Addr) (s : Uw74.Shoe) (l : List Nat), vs = [V.ref a, V.ref p] ∧ ShoeAt C H a s ∧ Fit s ∧ NL H p l ∧ l.length ≤ 100 ∧ (∀ x ∈ l, x < 2 * s.rows) ∧ ∀ H' : Hp, Same H H' → Q (.int (((longM s.across s.along l).sum : Nat) : Int)) H'
theorem scLength : FnScope ["shoe", "lacing", "piece"] ["shoe", "lacing"] (defScope sLength) := ⟨rfl, rfl, rfl, by decide +kernel, rfl, by decide +kernel, by decide +kernel⟩
theorem ok_length {f : Addr} {fd : FuncData} (F : Fun K "lacing_length" "lacing_length" sLength f fd) (T : Glo mg) (DP : Def P w K mg base "pieces" 1 ["lacing"] spPieces) (DL : Def P w K mg base "piece_length" 2 ["shoe", "piece"] (spPieceLen C)) : FnOk P w K mg base CX0 3 f fd ["shoe", "lacing"] (spLength C) := by
  refine F.ok scLength (fun vs H Q E h => ?_) (fun cdv A outer s H vs Q E hr h => ?_)
  · obtain ⟨a, p, sh, l, rfl, _⟩ := h
    rfl
  · obtain ⟨a, p, sh, l, rfl, hsh, hF, hp, h100, hlt, k⟩ := h
    refine ⟨_, pss_one (ps_ret (pe_callB (cr_sum rfl) rfl T.sum PyProof.Rows.boot_sum (pa_cons
      (pe_lc (own := [("piece", 2)]) rfl scLength.nd (pi_list (pe_def DP (hr.mono (by decide)) rfl (pa_cons (pv 1) pa_nil))) (blkOk_by (by kernel_rfl)) (fun _ _ _ _ _ => pg_name (i := 2) scLength.nd rfl (Or.inl rfl)) (fun _ _ _ _ _ => pts_nil)
        (fun _ _ _ _ _ => pe_def DL hr rfl (pa_cons (pv 0) (pa_cons (pv 2) pa_nil)))) pa_nil))), ?_⟩
    refine ⟨_, rfl, p, l, rfl, hp, h100, fun H1 r s1 L => ⟨r, rfl, ?_⟩⟩
    obtain ⟨as, ha1, ha2⟩ := L
    have lenAs := paired_len ha2
    refine ⟨⟨_, SqL.of ha1⟩, fun D hD => ?_⟩
    refine lc_list (K := K) (a := r) (xs := as.map V.ref) (fun i H' => Same H1 H' ∧ NL H' D ((longM sh.across sh.along l).take i)) ⟨same_new (Same.refl H1) hD, upd_same⟩ (fun i H' _ h => SqL.of (h.1 _ _ ha1)) ?_ ?_
    · rintro i x H2 hi ⟨s2, h2⟩
      obtain ⟨c, hci, rfl⟩ := ref_at hi
      obtain ⟨pr, hpi, hcp⟩ := paired_at ha2 hci
      have hmem := List.mem_of_getElem? hpi
      have hm2 : pr.1 ∈ l ∧ pr.2 ∈ l := by
        unfold Uw74.pieces at hmem
        have := List.of_mem_zip (show (pr.1, pr.2) ∈ _ from hmem)
        exact ⟨this.1, List.mem_of_mem_drop this.2⟩
      refine ⟨rfl, yesT ⟨_, rfl, _, rfl, a, c, sh, pr, rfl, (hsh.same s1).same s2, hF, s2 _ _ hcp, hlt _ hm2.1, hlt _ hm2.2, _, h2, ?_, same_write s2 hD, ?_⟩⟩
      · rw [nv_len, List.length_take]
        have : (longM sh.across sh.along l).length ≤ 100 := by
          unfold longM Uw74.pieces
          rw [List.length_map, List.length_zip]
          omega
        exact line_le (by omega)
      · show (upd _ D _) D = _
        have hg : (longM sh.across sh.along l)[i]? = some (pieceLen sh.across sh.along pr.1 pr.2) := by
          unfold longM
          rw [List.getElem?_map, hpi]
          rfl
        rw [upd_same, take_snoc hg, nv_app]
        rfl
    rintro H2 ⟨s2, h2⟩
    have hl : (longM sh.across sh.along l).length = (as.map V.ref).length := by
      unfold longM
      rw [List.length_map, List.length_map, lenAs]
    rw [← hl, List.take_length] at h2
    refine ⟨D, (longM sh.across sh.along l).map (fun (n : Nat) => (n : Int)), rfl, by rw [← nvI]; exact SqL.of h2, ?_⟩
    rw [sum_cast]
    exact k H2 (s1.trans s2)
end
end Lc

set_option Elab.async false
set_option linter.all false
set_option maxRecDepth 100000
set_option maxHeartbeats 4000000
namespace Lc
open PySem PySem.Spec PyProof.Rows L2
abbrev sBeside : Stmt := top 38
abbrev sMirror : Stmt := top 39
abbrev sIsShoe : Stmt := top 41
theorem LT.push {H H1 : Hp} {l p : Addr} {ps : List (Nat × Nat)} {as : List Addr} {x : Nat × Nat} (h1 : H l = some (.lst (as.map V.ref))) (h2 : Paired (TP2 H) as ps) (s : Same H H1) (hp : H1 p = none) :
    LT (upd (upd H1 p (.tup [V.int (x.1 : Int), V.int (x.2 : Int)])) l (.lst (as.map V.ref ++ [V.ref p]))) l (ps ++ [x]) := by
  have hpl : p ≠ l := fun z => by rw [z, s _ _ h1] at hp; cases hp
  refine ⟨as ++ [p], ?_, paired_snoc ?_ (paired_imp h2 fun a b ha h => ?_)⟩
  · rw [upd_same, List.map_append]
    rfl
  · show (upd _ l _) p = _
    rw [upd_ne hpl, upd_same]
  · show (upd _ l _) a = _
    have hal : a ≠ l := ne_of (show H a = some _ from h) h1 (by intro z; cases z)
    rw [upd_ne hal, upd_ne (ne_of_none (s _ _ h) hp)]
    exact s _ _ h
section
variable {P : Program} {w : World} {K : PySem.W.Frag} {mg : Str → Option Value} {base : Heap} {C : Addr}
/-! left_and_right_row -/
def spLeftRight : Sp := fun vs H Q _ => ∃ (q : Addr) (x : Nat × Nat), vs = [V.ref q] ∧ TP2 H q x ∧ ∀ t, H t = none → Q (.ref t) (upd H t (.tup [V.int ((Uw74.ends x).1 : Int), V.int ((Uw74.ends x).2 : Int)]))
theorem scLeftRight : FnScope ["piece"] ["piece"] (defScope sLeftRight) := ⟨rfl, rfl, rfl, by decide +kernel, rfl, by decide +kernel, by decide +kernel⟩
theorem ok_leftRight {f : Addr} {fd : FuncData} (F : Fun K "left_and_right_row" "left_and_right_row" sLeftRight f fd) : FnOk P w K mg base CX0 1 f fd ["piece"] spLeftRight := by
  refine F.ok scLeftRight (fun vs H Q E h => ?_) (fun cdv A outer s H vs Q E hr h => ?_)
  · obtain ⟨q, x, rfl, _⟩ := h
    rfl
  · obtain ⟨q, ⟨x, y⟩, rfl, hq, k⟩ := h
    have q0 : ∀ {K : PySem.W.Frag}, SqT K H q [V.int (x : Int), V.int (y : Int)] := SqT.of hq
    refine ⟨_, pss_cons (ps_if (pt_cmpR op_eq (pe_op op_mod (pe_ix ix_tup (pv 0) pe_int (fun _ _ => rfl)) pe_int) pe_int (nomark _))
        (pss_one (ps_ret (pe_tup (pa_cons (pe_op op_fdiv (pe_ix ix_tup (pv 0) pe_int (fun _ _ => rfl)) pe_int) (pa_cons (pe_op op_fdiv (pe_ix ix_tup (pv 0) pe_int (fun _ _ => rfl)) pe_int) pa_nil))))) pss_nil)
      (pss_one (ps_ret (pe_tup (pa_cons (pe_op op_fdiv (pe_ix ix_tup (pv 0) pe_int (fun _ _ => rfl)) pe_int) (pa_cons (pe_op op_fdiv (pe_ix ix_tup (pv 0) pe_int (fun _ _ => rfl)) pe_int) pa_nil))))), ?_⟩
    refine ⟨_, rfl, q, _, _, _, rfl, rfl, q0, at_of (j := 0) rfl rfl, _, _, rfl, rfl, (by show (0 : Int) < 2; decide), rfl, _, rfl, ?_⟩
    have e1 : ((x / 2 : Nat) : Int) = (x : Int) / 2 := by omega
    have e2 : ((y / 2 : Nat) : Int) = (y : Int) / 2 := by omega
    refine ite2 (fun c => ?_) (fun c => ?_)
    · have c' : x % 2 = 0 := by
        have := of_decide_eq_true c
        injection this with this
        omega
      have ee : Uw74.ends (x, y) = (x / 2, y / 2) := by
        unfold Uw74.ends Uw74.side Uw74.rowOf
        rw [if_pos c']
      rw [ee] at k
      refine ⟨_, rfl, q, _, _, _, rfl, rfl, q0, at_of (j := 0) rfl rfl, _, _, rfl, rfl, ⟨by decide, by decide⟩, _, rfl, q, _, _, _, rfl, rfl, q0, at_of (j := 1) rfl rfl, _, _, rfl, rfl, ⟨by decide, by decide⟩, (by show 2 ≤ sizeLine; decide), fun t ht => ?_⟩
      show Q (.ref t) (upd H t (.tup [V.int ((x : Int) / 2), V.int ((y : Int) / 2)]))
      rw [← e1, ← e2]
      exact k t ht
    · have c' : ¬ x % 2 = 0 := fun z => c (decide_eq_true (by show V.int ((x : Int) % 2) = V.int 0; congr 1; omega))
      have ee : Uw74.ends (x, y) = (y / 2, x / 2) := by
        unfold Uw74.ends Uw74.side Uw74.rowOf
        rw [if_neg c']
      rw [ee] at k
      refine ⟨_, rfl, q, _, _, _, rfl, rfl, q0, at_of (j := 1) rfl rfl, _, _, rfl, rfl, ⟨by decide, by decide⟩, _, rfl, q, _, _, _, rfl, rfl, q0, at_of (j := 0) rfl rfl, _, _, rfl, rfl, ⟨by decide, by decide⟩, (by show 2 ≤ sizeLine; decide), fun t ht => ?_⟩
      show Q (.ref t) (upd H t (.tup [V.int ((y : Int) / 2), V.int ((x : Int) / 2)]))
      rw [← e1, ← e2]
      exact k t ht
/-! pieces_across -/
def spAcrossP : Sp := fun vs H Q _ => ∃ (p : Addr) (l : List Nat), vs = [V.ref p] ∧ NL H p l ∧ l.length ≤ 100 ∧ ∀ (H' : Hp) (r : Addr), Same H H' → LT H' r (joined l) → Q (.ref r) H'
theorem scAcrossP : FnScope ["lacing", "piece"] ["lacing"] (defScope sAcrossP) := ⟨rfl, rfl, rfl, by decide +kernel, rfl, by decide +kernel, by decide +kernel⟩
theorem joined_take {ps : List (Nat × Nat)} {i : Nat} {x : Nat × Nat} (h : ps[i]? = some x) : ((ps.take (i + 1)).filter Uw74.crossing).map Uw74.ends = ((ps.take i).filter Uw74.crossing).map Uw74.ends ++ (if isAcross x.1 x.2 = true then [Uw74.ends x] else []) := by
  rw [take_snoc h, List.filter_append, List.map_append, List.filter_cons]
  congr 1
  show List.map Uw74.ends (if isAcross x.1 x.2 = true then _ else _) = _
  split <;> rfl
theorem ok_acrossP {f : Addr} {fd : FuncData} (F : Fun K "pieces_across" "pieces_across" sAcrossP f fd) (DP : Def P w K mg base "pieces" 1 ["lacing"] spPieces) (DA : Def P w K mg base "is_across" 1 ["eyelet", "other"] spAcross)
    (DL : Def P w K mg base "left_and_right_row" 1 ["piece"] spLeftRight) : FnOk P w K mg base CX0 2 f fd ["lacing"] spAcrossP := by
  refine F.ok scAcrossP (fun vs H Q E h => ?_) (fun cdv A outer s H vs Q E hr h => ?_)
  · obtain ⟨p, l, rfl, _⟩ := h
    rfl
  · obtain ⟨p, l, rfl, hp, h100, k⟩ := h
    refine ⟨_, pss_one (ps_ret (pe_lc (own := [("piece", 1)]) rfl scAcrossP.nd (pi_list (pe_def DP hr rfl (pa_cons (pv 0) pa_nil))) (blkOk_by (by kernel_rfl)) (fun _ _ _ _ _ => pg_name (i := 1) scAcrossP.nd rfl (Or.inl rfl))
      (fun _ _ _ _ _ => pts_one (pt_val (pe_def DA hr rfl (pa_cons (pe_ix (ix_tk K) (pv 1) pe_int (fun _ _ => rfl)) (pa_cons (pe_ix (ix_tk K) (pv 1) pe_int (fun _ _ => rfl)) pa_nil)))))
      (fun _ _ _ _ _ => pe_def DL hr rfl (pa_cons (pv 1) pa_nil)))), ?_⟩
    refine ⟨_, rfl, p, l, rfl, hp, h100, fun H1 r s1 L => ⟨r, rfl, ?_⟩⟩
    obtain ⟨as, ha1, ha2⟩ := L
    have lenAs := paired_len ha2
    refine ⟨⟨_, SqL.of ha1⟩, fun D hD => ?_⟩
    refine lc_list (K := K) (a := r) (xs := as.map V.ref) (fun i H' => Same H1 H' ∧ LT H' D ((((Uw74.pieces l).take i).filter Uw74.crossing).map Uw74.ends)) ⟨same_new (Same.refl H1) hD, [], by rw [upd_same]; rfl, .nil⟩ (fun i H' _ h => SqL.of (h.1 _ _ ha1)) ?_ ?_
    · rintro i x H2 hi ⟨s2, M⟩
      obtain ⟨c, hci, rfl⟩ := ref_at hi
      obtain ⟨⟨u, v⟩, hpi, hcp⟩ := paired_at ha2 hci
      have q0 : ∀ {K : PySem.W.Frag}, SqT K H2 c [V.int (u : Int), V.int (v : Int)] := SqT.of (s2 _ _ hcp)
      refine ⟨rfl, _, rfl, c, _, _, _, rfl, rfl, q0, at_of (j := 0) rfl rfl, _, rfl, c, _, _, _, rfl, rfl, q0, at_of (j := 1) rfl rfl, u, v, rfl, _, rfl, ?_⟩
      have jt := joined_take hpi
      cases hc : isAcross u v with
      | false =>
        refine iteF ⟨s2, ?_⟩
        rw [jt, if_neg (by show ¬ isAcross u v = true; rw [hc]; decide), List.append_nil]
        exact M
      | true =>
        obtain ⟨cs, hc1, hc2⟩ := M
        refine iteT ⟨_, rfl, c, (u, v), rfl, s2 _ _ hcp, fun t ht => ?_⟩
        have hDt : D ≠ t := ne_of_none hc1 ht
        refine ⟨cs.map V.ref, by rw [upd_ne hDt]; exact hc1, ?_, same_write (same_new s2 ht) hD, ?_⟩
        · rw [List.length_map, paired_len hc2]
          have e1 := List.length_filter_le Uw74.crossing ((Uw74.pieces l).take i)
          have e2 : (Uw74.pieces l).length ≤ l.length := by unfold Uw74.pieces; rw [List.length_zip]; omega
          rw [List.length_take] at e1
          rw [List.length_map]
          exact line_le (by omega)
        · rw [jt, if_pos (show isAcross u v = true from hc)]
          exact LT.push hc1 hc2 (Same.refl H2) ht
    rintro H2 ⟨s2, M⟩
    rw [List.length_map, lenAs, List.take_length] at M
    exact k H2 D (s1.trans s2) M
/-! crossing_count -/
def spCrossing : Sp := fun vs H Q _ => ∃ (p : Addr) (l : List Nat), vs = [V.ref p] ∧ NL H p l ∧ l.length ≤ 100 ∧ ∀ H' : Hp, Same H H' → Q (.int ((Uw74.crossings l : Nat) : Int)) H'
theorem scCrossing : FnScope ["lacing", "joined", "crossings", "one", "other"] ["lacing"] (defScope sCrossing) := ⟨rfl, rfl, rfl, by decide +kernel, rfl, by decide +kernel, by decide +kernel⟩
theorem cnt_take {ps : List (Nat × Nat)} {j : Nat} {q : Nat × Nat} (p : Nat × Nat) (h : ps[j]? = some q) : cnt p (ps.take (j + 1)) = cnt p (ps.take j) + (if ltP p q = true then 1 else 0) := by
  unfold cnt
  rw [take_snoc h, List.filter_append, List.length_append, List.filter_cons]
  congr 1
  split <;> rfl
theorem sum_take_n {l : List Nat} {i x : Nat} (h : l[i]? = some x) : (l.take (i + 1)).sum = (l.take i).sum + x := by
  rw [take_snoc h, List.sum_append]
  simp
theorem ok_crossing {f : Addr} {fd : FuncData} (F : Fun K "crossing_count" "crossing_count" sCrossing f fd) (DP : Def P w K mg base "pieces_across" 2 ["lacing"] spAcrossP) : FnOk P w K mg base CX0 3 f fd ["lacing"] spCrossing := by
  refine F.ok scCrossing (fun vs H Q E h => ?_) (fun cdv A outer s H vs Q E hr h => ?_)
  · obtain ⟨p, l, rfl, _⟩ := h
    rfl
  · obtain ⟨p, l, rfl, hp, h100, k⟩ := h
    refine ⟨_, pss_cons (ps_set (i := 1) scCrossing.nd rfl (Or.inl rfl) (pe_def DP hr rfl (pa_cons (pv 0) pa_nil)))
      (pss_cons (ps_set (i := 2) scCrossing.nd rfl (Or.inl rfl) pe_int)
      (pss_cons (ps_for PassesOwn.never rfl (pi_list (pv 1)) (pg_name (i := 3) scCrossing.nd rfl (Or.inl rfl))
        (pss_one (ps_for PassesOwn.never rfl (pi_list (pv 1)) (pg_name (i := 4) scCrossing.nd rfl (Or.inl rfl))
          (pss_one (ps_if (PW.pt (pw_and (pt_cmpR op_lt (pe_ix ix_tup (pv 3) pe_int (fun _ _ => rfl)) (pe_ix ix_tup (pv 4) pe_int (fun _ _ => rfl)) (nomark _))
              (pw_and1 (pt_cmpR op_gt (pe_ix ix_tup (pv 3) pe_int (fun _ _ => rfl)) (pe_ix ix_tup (pv 4) pe_int (fun _ _ => rfl)) (nomark _)))))
            (pss_one (ps_set (i := 2) scCrossing.nd rfl (Or.inl rfl) (pe_op op_add (pv 2) pe_int))) pss_nil)))))
      (pss_one (ps_ret (pv 2))))), ?_⟩
    refine ⟨_, rfl, p, l, rfl, hp, h100, fun H1 r s1 L => ?_⟩
    rw [crossings_is] at k
    unfold cc at k
    generalize joined l = J at L k
    obtain ⟨as, ha1, ha2⟩ := L
    have lenAs := paired_len ha2
    refine ⟨_, rfl, r, rfl, ⟨_, SqL.of ha1⟩, for_list (K := K) (a := r) (xs := as.map V.ref) (fun i σ H' => H' = H1 ∧ ∃ v3 v4 : Option V, σ = [some (.ref p), some (.ref r), some (.int ((((J.map fun q => cnt q J).take i).sum : Nat) : Int)), v3, v4])
      ⟨rfl, none, none, rfl⟩ (fun i σ H' _ h => by rw [h.1]; exact SqL.of ha1) ?_ ?_⟩
    · rintro i y σ H2 hi ⟨rfl, v3, v4, rfl⟩
      obtain ⟨c, hci, rfl⟩ := ref_at hi
      obtain ⟨⟨u, v⟩, hpi, hcp⟩ := paired_at ha2 hci
      have q0 : ∀ {K : PySem.W.Frag}, SqT K H2 c [V.int (u : Int), V.int (v : Int)] := SqT.of hcp
      have hgi : (J.map fun q => cnt q J)[i]? = some (cnt (u, v) J) := by rw [List.getElem?_map, hpi]; rfl
      refine ⟨_, rfl, r, rfl, ⟨_, SqL.of ha1⟩, for_list (K := K) (a := r) (xs := as.map V.ref) (fun j σ H' => H' = H2 ∧ ∃ v4 : Option V, σ = [some (.ref p), some (.ref r), some (.int ((((J.map fun q => cnt q J).take i).sum + cnt (u, v) (J.take j) : Nat) : Int)), some (.ref c), v4])
        ⟨rfl, v4, rfl⟩ (fun i σ H' _ h => by rw [h.1]; exact SqL.of ha1) ?_ ?_⟩
      · rintro j y σ H3 hj ⟨rfl, v5, rfl⟩
        obtain ⟨d, hdj, rfl⟩ := ref_at hj
        obtain ⟨⟨u2, v2⟩, hpj, hdp⟩ := paired_at ha2 hdj
        have q1 : ∀ {K : PySem.W.Frag}, SqT K H3 d [V.int (u2 : Int), V.int (v2 : Int)] := SqT.of hdp
        have ct := cnt_take (u, v) hpj
        unfold ltP at ct
        refine ⟨_, rfl, c, _, _, _, rfl, rfl, q0, at_of (j := 0) rfl rfl, _, rfl, d, _, _, _, rfl, rfl, q1, at_of (j := 0) rfl rfl, _, _, rfl, rfl, _, rfl, ?_⟩
        refine ite2 (fun c1 => ?_) (fun c1 => ?_)
        · have c1' : u < u2 := by have := of_decide_eq_true c1; omega
          refine ⟨_, rfl, c, _, _, _, rfl, rfl, q0, at_of (j := 1) rfl rfl, _, rfl, d, _, _, _, rfl, rfl, q1, at_of (j := 1) rfl rfl, _, _, rfl, rfl, _, rfl, ?_⟩
          refine ite2 (fun c2 => ?_) (fun c2 => ?_)
          · have c2' : v2 < v := by have := of_decide_eq_true c2; omega
            refine ⟨_, rfl, _, _, rfl, rfl, rfl, some (.ref d), ?_⟩
            rw [if_pos (by show (decide (u < u2) && decide (v2 < v)) = true; rw [decide_eq_true c1', decide_eq_true c2']; rfl)] at ct
            rw [ct]
            congr 3
          · have c2' : ¬ v2 < v := fun z => c2 (decide_eq_true (by omega))
            refine ⟨rfl, some (.ref d), ?_⟩
            rw [if_neg (by show ¬ (decide (u < u2) && decide (v2 < v)) = true; rw [decide_eq_false c2', Bool.and_false]; decide)] at ct
            rw [ct]
            rfl
        · have c1' : ¬ u < u2 := fun z => c1 (decide_eq_true (by omega))
          refine iteF ⟨rfl, some (.ref d), ?_⟩
          rw [if_neg (by show ¬ (decide (u < u2) && decide (v2 < v)) = true; rw [decide_eq_false c1', Bool.false_and]; decide)] at ct
          rw [ct]
          rfl
      · rintro σ H3 ⟨rfl, v5, rfl⟩
        refine ⟨rfl, some (.ref c), v5, ?_⟩
        rw [sum_take_n hgi, List.length_map, lenAs, List.take_length]
    · rintro σ H2 ⟨rfl, v3, v4, rfl⟩
      refine ⟨_, rfl, ?_⟩
      have hl : (J.map fun q => cnt q J).length = (as.map V.ref).length := by rw [List.length_map, List.length_map, lenAs]
      rw [← hl, List.take_length]
      exact k H2 s1
/-! eyelet_beside -/
def spBeside : Sp := fun vs H Q _ => ∃ e : Nat, vs = [V.int (e : Int)] ∧ Q (.int ((Uw74.beside e : Nat) : Int)) H
theorem scBeside : FnScope ["eyelet"] ["eyelet"] (defScope sBeside) := ⟨rfl, rfl, rfl, by decide +kernel, rfl, by decide +kernel, by decide +kernel⟩
theorem ok_beside {f : Addr} {fd : FuncData} (F : Fun K "eyelet_beside" "eyelet_beside" sBeside f fd) : FnOk P w K mg base CX0 1 f fd ["eyelet"] spBeside := by
  refine F.ok scBeside (fun vs H Q E h => ?_) (fun cdv A outer s H vs Q E hr h => ?_)
  · obtain ⟨e, rfl, _⟩ := h
    rfl
  · obtain ⟨e, rfl, k⟩ := h
    refine ⟨_, pss_one (ps_ret (pe_op op_xor (pv 0) pe_int)), ?_⟩
    refine ⟨_, rfl, _, _, rfl, rfl, qi ?_ k⟩
    rw [bitXor_and, bitAnd_m1]
    unfold Uw74.beside
    split <;> omega
/-! in_mirror -/
def spMirror : Sp := fun vs H Q _ => ∃ (p : Addr) (l : List Nat), vs = [V.ref p] ∧ NL H p l ∧ l.length ≤ 100 ∧ ∀ (H' : Hp) (r : Addr), Same H H' → NL H' r (Uw74.mirror l) → Q (.ref r) H'
theorem scMirror : FnScope ["lacing", "eyelet"] ["lacing"] (defScope sMirror) := ⟨rfl, rfl, rfl, by decide +kernel, rfl, by decide +kernel, by decide +kernel⟩
theorem lc_rev {K : PySem.W.Frag} {a : Addr} {xs : List V} {g : TG} {tt : TT} {te : TE} {vs : List Nat} {σ : L2.St} {H1 : Hp} {D : Addr} {Qd : Hp → Prop} (Pv : Nat → Hp → Prop) (h0 : Pv 0 (upd H1 D (.lst []))) (hl : ∀ i H, i ≤ xs.length → Pv i H → SqL K H a xs)
    (hs : ∀ i x H, xs.reverse[i]? = some x → Pv i H → g x (wipe σ vs) H fun σ2 H2 => wipe σ2 vs = wipe σ vs ∧ tt σ2 H2 fun b H3 =>
      if b = true then te σ2 H3 fun y H4 => ∃ acc, H4 D = some (.lst acc) ∧ acc.length < sizeLine ∧ Pv (i + 1) (upd H4 D (.lst (acc ++ [y]))) else Pv (i + 1) H3) (hd : ∀ H, Pv xs.length H → Qd H) :
    ∃ W : Nat → Nat → Hp → Prop, (∃ m, W 0 m (upd H1 D (.lst []))) ∧ ∀ i m H, W i m H →
      ((Itv K a xs.length).stop i H ∧ Qd H) ∨ ((Itv K a xs.length).go i H ∧ ∃ Nx : Hp → Prop, (∀ H', Nx H' → ∃ m', m' < m ∧ W (i + 1) m' H') ∧ ∀ x H', (Itv K a xs.length).yld i H x H' → g x (wipe σ vs) H' fun σ2 H2 => wipe σ2 vs = wipe σ vs ∧ tt σ2 H2 fun b H3 =>
        if b = true then te σ2 H3 fun y H4 => ∃ acc, H4 D = some (.lst acc) ∧ acc.length < sizeLine ∧ Nx (upd H4 D (.lst (acc ++ [y]))) else Nx H3) := by
  refine ⟨fun i m H => m = xs.length - i ∧ i ≤ xs.length ∧ Pv i H, ⟨xs.length, by simp, Nat.zero_le _, h0⟩, ?_⟩
  rintro i m H ⟨rfl, hi, p⟩
  have q := hl i H hi p
  by_cases hlt : i < xs.length
  · refine .inr ⟨⟨hlt, xs, xs[xs.length - 1 - i]'(by omega), q, List.getElem?_eq_getElem (by omega)⟩, Pv (i + 1), fun H' p' => ⟨xs.length - (i + 1), by omega, rfl, hlt, p'⟩, fun x H' y => ?_⟩
    obtain ⟨e, y⟩ := y
    subst e
    refine hs i x _ ?_ p
    rw [List.getElem?_reverse hlt]
    exact y xs q
  · have e : i = xs.length := by omega
    subst e
    exact .inl ⟨Nat.le_refl _, hd H p⟩
theorem ok_mirror {f : Addr} {fd : FuncData} (F : Fun K "in_mirror" "in_mirror" sMirror f fd) (T : Glo mg) (DB : Def P w K mg base "eyelet_beside" 1 ["eyelet"] spBeside) : FnOk P w K mg base CX0 2 f fd ["lacing"] spMirror := by
  refine F.ok scMirror (fun vs H Q E h => ?_) (fun cdv A outer s H vs Q E hr h => ?_)
  · obtain ⟨p, l, rfl, _⟩ := h
    rfl
  · obtain ⟨p, l, rfl, hp, h100, k⟩ := h
    refine ⟨_, pss_one (ps_ret (pe_lc (own := [("eyelet", 1)]) rfl scMirror.nd (pi_reversed rfl T.reversed (pa_cons (pv 0) pa_nil)) (blkOk_by (by kernel_rfl)) (fun _ _ _ _ _ => pg_name (i := 1) scMirror.nd rfl (Or.inl rfl)) (fun _ _ _ _ _ => pts_nil)
      (fun _ _ _ _ _ => pe_def DB hr rfl (pa_cons (pv 1) pa_nil)))), ?_⟩
    refine ⟨_, rfl, p, nv l, rfl, hp.seq, fun D hD => ?_⟩
    have er : (nv l).reverse = nv l.reverse := by unfold nv; rw [List.map_reverse]
    refine lc_rev (K := K) (a := p) (xs := nv l) (fun i H' => Same H H' ∧ NL H' D ((Uw74.mirror l).take i)) ⟨same_new (Same.refl H) hD, upd_same⟩ (fun i H' _ h => (hp.same h.1).seq) ?_ ?_
    · rintro i x H1 hi ⟨s1, h1⟩
      rw [er] at hi
      obtain ⟨e, he, rfl⟩ := at_nv hi
      have hg : (Uw74.mirror l)[i]? = some (Uw74.beside e) := by
        unfold Uw74.mirror
        rw [List.getElem?_map, he]
        rfl
      refine ⟨rfl, yesT ⟨_, rfl, e, rfl, _, h1, ?_, same_write s1 hD, ?_⟩⟩
      · rw [nv_len, List.length_take]
        unfold Uw74.mirror
        rw [List.length_map, List.length_reverse]
        exact line_le (by omega)
      · show (upd _ D _) D = _
        rw [upd_same, take_snoc hg, nv_app]
        rfl
    rintro H1 ⟨s1, h1⟩
    have hl : (Uw74.mirror l).length = (nv l).length := by unfold Uw74.mirror; rw [List.length_map, List.length_reverse, nv_len]
    rw [← hl, List.take_length] at h1
    exact k H1 D s1 h1
/-! is_shoe -/
def okShoe (n : Nat) (l : List Nat) : Bool := !(decide (n < 2) || decide (4 < n) || !(l.length == 2 * n - 1)) && l.all fun x => decide (1 ≤ x) && decide (x ≤ 1000)
def spIsShoe : Sp := fun vs H Q _ => ∃ (p : Addr) (n : Nat) (l : List Nat), vs = [V.int (n : Int), V.ref p] ∧ NL H p l ∧ l.length ≤ 100 ∧ ∀ H' : Hp, Same H H' → Q (.bl (okShoe n l)) H'
theorem scIsShoe : FnScope ["n", "lengths", "length"] ["n", "lengths"] (defScope sIsShoe) := ⟨rfl, rfl, rfl, by decide +kernel, rfl, by decide +kernel, by decide +kernel⟩
theorem ok_isShoe {f : Addr} {fd : FuncData} (F : Fun K "is_shoe" "is_shoe" sIsShoe f fd) (T : Glo mg) : FnOk P w K mg base CX0 1 f fd ["n", "lengths"] spIsShoe := by
  refine F.ok scIsShoe (fun vs H Q E h => ?_) (fun cdv A outer s H vs Q E hr h => ?_)
  · obtain ⟨p, n, l, rfl, _⟩ := h
    rfl
  · obtain ⟨p, n, l, rfl, hp, h100, k⟩ := h
    refine ⟨_, pss_cons (ps_if (PW.pt (pw_or (pt_cmpR op_lt (pv 0) pe_int (nomark _)) (pw_or (pt_cmpR op_gt (pv 0) pe_int (nomark _))
        (pw_or1 (pt_cmpR op_ne (pe_callB call_len_seq rfl T.len PySem.boot_len (pa_cons (pv 1) pa_nil)) (pe_op op_sub (pe_op op_mul pe_int (pv 0)) pe_int) (nomark _)))))) (pss_one (ps_ret pe_bl)) pss_nil)
      (pss_one (ps_ret (pe_callB (cr_all rfl) rfl T.all PyProof.Rows.boot_all (pa_cons (pe_lc (own := [("length", 2)]) rfl scIsShoe.nd (pi_list (pv 1)) (blkOk_by (by kernel_rfl)) (fun _ _ _ _ _ => pg_name (i := 2) scIsShoe.nd rfl (Or.inl rfl)) (fun _ _ _ _ _ => pts_nil)
        (fun _ _ _ _ _ => pe_chain op_le op_le pe_int (pv 2) pe_int)) pa_nil)))), ?_⟩
    refine ⟨_, rfl, _, _, rfl, rfl, _, rfl, ?_⟩
    refine ite2 (fun c1 => ?_) (fun c1 => ?_)
    · have c1' : n < 2 := by have := of_decide_eq_true c1; omega
      refine iteT ?_
      have e : okShoe n l = false := by unfold okShoe; rw [decide_eq_true c1']; rfl
      rw [e] at k
      exact k H (Same.refl H)
    · have c1' : ¬ n < 2 := fun z => c1 (decide_eq_true (by omega))
      refine ⟨_, rfl, _, _, rfl, rfl, _, rfl, ?_⟩
      refine ite2 (fun c2 => ?_) (fun c2 => ?_)
      · have c2' : 4 < n := by have := of_decide_eq_true c2; omega
        refine iteT ?_
        have e : okShoe n l = false := by unfold okShoe; rw [decide_eq_true c2', Bool.or_true]; rfl
        rw [e] at k
        exact k H (Same.refl H)
      · have c2' : ¬ 4 < n := fun z => c2 (decide_eq_true (by omega))
        refine ⟨_, rfl, p, _, rfl, .inl hp.seq, _, rfl, _, _, rfl, rfl, .inl ⟨by decide, by decide⟩, _, _, rfl, rfl, rfl, _, rfl, ?_⟩
        have ed : (!decide (V.int ((nv l).length : Nat) = V.int (2 * (n : Int) - 1))) = !(l.length == 2 * n - 1) := by
          congr 1
          rw [Bool.eq_iff_iff, decide_eq_true_iff, beq_iff_eq, nv_len]
          constructor
          · intro h
            injection h with h
            omega
          · intro h
            congr 1
            omega
        rw [ed]
        cases c3 : (l.length == 2 * n - 1) with
        | false =>
          refine iteT ?_
          have e : okShoe n l = false := by unfold okShoe; rw [c3, decide_eq_false c1', decide_eq_false c2']; rfl
          rw [e] at k
          exact k H (Same.refl H)
        | true =>
          refine iteF ?_
          have e : okShoe n l = (l.map fun x => decide (1 ≤ x) && decide (x ≤ 1000)).all id := by
            unfold okShoe
            rw [c3, decide_eq_false c1', decide_eq_false c2', List.all_map]
            rfl
          rw [e] at k
          generalize hB : (l.map fun x => decide (1 ≤ x) && decide (x ≤ 1000)) = B at k
          refine ⟨_, rfl, p, rfl, ⟨_, hp.seq⟩, fun D hD => ?_⟩
          refine lc_list (K := K) (a := p) (xs := nv l) (fun i H' => Same H H' ∧ H' D = some (.lst ((B.take i).map V.bl))) ⟨same_new (Same.refl H) hD, upd_same⟩ (fun i H' _ h => (hp.same h.1).seq) ?_ ?_
          · rintro i x H1 hi ⟨s1, h1⟩
            obtain ⟨e, he, rfl⟩ := at_nv hi
            have hg : B[i]? = some (decide (1 ≤ e) && decide (e ≤ 1000)) := by rw [← hB, List.getElem?_map, he]; rfl
            have hBl : B.length = l.length := by rw [← hB, List.length_map]
            have fin : ∀ c : Bool, c = (decide (1 ≤ e) && decide (e ≤ 1000)) → ∃ acc, H1 D = some (.lst acc) ∧ acc.length < sizeLine ∧ (Same H (upd H1 D (.lst (acc ++ [V.bl c]))) ∧ (upd H1 D (.lst (acc ++ [V.bl c]))) D = some (.lst ((B.take (i + 1)).map V.bl))) := fun c hc => by
              refine ⟨_, h1, ?_, same_write s1 hD, ?_⟩
              · rw [List.length_map, List.length_take]
                exact line_le (by omega)
              · rw [upd_same, take_snoc hg, List.map_append, hc]
                rfl
            refine ⟨rfl, yesT ?_⟩
            refine ⟨_, rfl, _, _, rfl, rfl, _, rfl, ?_⟩
            refine ite2 (fun c4 => ?_) (fun c4 => ?_)
            · have c4' : 1 ≤ e := by have := of_decide_eq_true c4; omega
              refine ⟨_, _, rfl, rfl, fin _ ?_⟩
              rw [decide_eq_true c4', Bool.true_and, Bool.eq_iff_iff, decide_eq_true_iff, decide_eq_true_iff]
              omega
            · have c4' : ¬ 1 ≤ e := fun z => c4 (decide_eq_true (by omega))
              exact fin false (by rw [decide_eq_false c4', Bool.false_and])
          rintro H1 ⟨s1, h1⟩
          have hBl : B.length = (nv l).length := by rw [← hB, List.length_map, nv_len]
          rw [← hBl, List.take_length] at h1
          exact ⟨D, B, rfl, SqL.of h1, k H1 s1⟩
end
end Lc

set_option Elab.async false
set_option linter.all false
set_option maxRecDepth 100000
set_option maxHeartbeats 4000000
namespace Lc
open PySem PySem.Spec PyProof.Rows L2
abbrev sRdInit : Stmt := inClass (top 23) 0
abbrev sHasMore : Stmt := inClass (top 23) 1
abbrev sTakeNumber : Stmt := inClass (top 23) 2
abbrev sTakeRow : Stmt := inClass (top 23) 3
def two : List Str := ["numbers", "place"]
structure RCls (K : PySem.W.Frag) (C : Addr) : Prop where
  cl : Cls K C
  n : ∀ f, f ∈ two → NoAttr K C f
theorem sq_keep {K : PySem.W.Frag} {H H' : Hp} {x : Addr} (k : Keeps H H' x) {C dx : Addr} {fs : List (Str × V)} (hx : H x = some (.ins C dx fs)) {a : Addr} {xs : List V} (h : SqL K H a xs) : SqL K H' a xs := by
  rcases h with (h | ⟨o, h⟩) | h
  · exact .inl (.inl (k _ _ h (ne_of h hx (by intro z; cases z))))
  · exact .inl (.inr ⟨o, k _ _ h (ne_of h hx (by intro z; cases z))⟩)
  · exact .inr h
/-- a reader stands at a: the numbers ns, the place i -/
structure RdR (K : PySem.W.Frag) (C : Addr) (H : Hp) (a : Addr) (ns : List Int) (i : Nat) (dx : Addr) (fs : List (Str × V)) (pa : Addr) : Prop where
  at_ : H a = some (.ins C dx fs)
  keys : fs.map (·.1) = two
  num : fs.lookup ("numbers" : Str) = some (.ref pa)
  place : fs.lookup ("place" : Str) = some (.int (i : Int))
  seq : SqL K H pa (ns.map V.int)
def RdAt (K : PySem.W.Frag) (C : Addr) (H : Hp) (a pa : Addr) (ns : List Int) (i : Nat) : Prop := ∃ dx fs, RdR K C H a ns i dx fs pa
theorem RdAt.same {K : PySem.W.Frag} {C : Addr} {H H' : Hp} {a pa : Addr} {ns : List Int} {i : Nat} (e : Same H H') (h : RdAt K C H a pa ns i) : RdAt K C H' a pa ns i := by
  obtain ⟨dx, fs, h⟩ := h
  exact ⟨dx, fs, e _ _ h.at_, h.keys, h.num, h.place, e.seq h.seq⟩
theorem RdAt.keep {K : PySem.W.Frag} {C : Addr} {H H' : Hp} {a pa x : Addr} {ns : List Int} {i : Nat} (k : Keeps H H' x) {C' dx' : Addr} {fs' : List (Str × V)} (hx : H x = some (.ins C' dx' fs')) (hk : fs'.map (·.1) ≠ two) (h : RdAt K C H a pa ns i) : RdAt K C H' a pa ns i := by
  obtain ⟨dx, fs, h⟩ := h
  refine ⟨dx, fs, k _ _ h.at_ (ne_of h.at_ hx fun z => ?_), h.keys, h.num, h.place, sq_keep k hx h.seq⟩
  cases z
  exact hk h.keys
theorem two_len {fs : List (Str × V)} (h : fs.map (·.1) = two) : fs.length < 1000 := by
  have e : fs.length = (fs.map (·.1)).length := (List.length_map ..).symm
  rw [e, h]
  decide
theorem two_no {fs : List (Str × V)} (h : fs.map (·.1) = two) {m : Str} (hm : m ∉ two) : fs.lookup m = none := lookup_no (by rw [h]; exact hm)
section
variable {P : Program} {w : World} {K : PySem.W.Frag} {mg : Str → Option Value} {base : Heap} {C : Addr}
/-! Reader.__init__ -/
def spRdInit (K : PySem.W.Frag) (C : Addr) : Sp := fun vs H Q _ => ∃ (a pa dx : Addr) (ns : List Int), vs = [V.ref a, V.ref pa] ∧ H a = some (.ins C dx []) ∧ SqL K H pa (ns.map V.int) ∧ ∀ H' : Hp, Keeps H H' a → RdAt K C H' a pa ns 0 → Q .non H'
theorem scRdInit : FnScope ["self", "numbers"] ["self", "numbers"] (defScope sRdInit) := ⟨rfl, rfl, rfl, by decide +kernel, rfl, by decide +kernel, by decide +kernel⟩
theorem ok_rdInit {f : Addr} {fd : FuncData} (F : Fun K "__init__" "Reader.__init__" sRdInit f fd) (S : RCls K C) : FnOk P w K mg base CX0 1 f fd ["self", "numbers"] (spRdInit K C) := by
  refine F.ok scRdInit (fun vs H Q E h => ?_) (fun cdv A outer s H vs Q E hr h => ?_)
  · obtain ⟨a, pa, dx, ns, rfl, _⟩ := h
    rfl
  · obtain ⟨a, pa, dx, ns, rfl, ha, hs, k⟩ := h
    refine ⟨_, pss_cons (ps_fld (pv 0) (pv 1) rfl) (pss_one (ps_fld (pv 0) pe_int rfl)), ?_⟩
    refine ⟨_, rfl, _, rfl, a, C, dx, [], rfl, ha, S.cl, S.n _ (by decide +kernel), (by decide), ?_⟩
    refine ⟨_, rfl, a, C, dx, _, rfl, upd_same, S.cl, S.n _ (by decide +kernel), (by show 1 < 1000; decide), ?_⟩
    have k1 : Keeps H (upd (upd H a (.ins C dx (putF "numbers" (V.ref pa) []))) a (.ins C dx (putF "place" (V.int 0) (putF "numbers" (V.ref pa) [])))) a := keeps_upd.trans keeps_upd
    refine k _ k1 ⟨dx, _, upd_same, ?_, ?_, ?_, sq_keep k1 ha hs⟩
    · have e1 : (putF ("numbers" : Str) (V.ref pa) []).map (·.1) = [("numbers" : Str)] := rfl
      rw [keys_new (by rw [e1]; decide +kernel), e1]
      rfl
    · rw [lookup_putF, if_neg (by decide), lookup_putF, if_pos rfl]
    · rw [lookup_putF, if_pos rfl]
      rfl
/-! has_more -/
def spHasMore (K : PySem.W.Frag) (C : Addr) : Sp := fun vs H Q _ => ∃ (a pa : Addr) (ns : List Int) (i : Nat), vs = [V.ref a] ∧ RdAt K C H a pa ns i ∧ Q (.bl (decide (i < ns.length))) H
theorem scHasMore : FnScope ["self"] ["self"] (defScope sHasMore) := ⟨rfl, rfl, rfl, by decide +kernel, rfl, by decide +kernel, by decide +kernel⟩
theorem ok_hasMore {f : Addr} {fd : FuncData} (F : Fun K "has_more" "Reader.has_more" sHasMore f fd) (T : Glo mg) (S : RCls K C) : FnOk P w K mg base CX0 1 f fd ["self"] (spHasMore K C) := by
  refine F.ok scHasMore (fun vs H Q E h => ?_) (fun cdv A outer s H vs Q E hr h => ?_)
  · obtain ⟨a, pa, ns, i, rfl, _⟩ := h
    rfl
  · obtain ⟨a, pa, ns, i, rfl, ⟨dx, fs, R⟩, k⟩ := h
    refine ⟨_, pss_one (ps_ret (pe_cmpR op_lt (pe_fld (pv 0) rfl) (pe_callB call_len_seq rfl T.len PySem.boot_len (pa_cons (pe_fld (pv 0) rfl) pa_nil)) (nomark _))), ?_⟩
    refine ⟨_, rfl, a, C, dx, fs, _, rfl, R.at_, S.cl, S.n _ (by decide +kernel), R.place, _, rfl, a, C, dx, fs, _, rfl, R.at_, S.cl, S.n _ (by decide +kernel), R.num, pa, _, rfl, .inl R.seq, _, _, rfl, rfl, qb ?_ k⟩
    rw [Bool.eq_iff_iff, decide_eq_true_iff, decide_eq_true_iff, List.length_map]
    omega
/-! take_number -/
def spTake (K : PySem.W.Frag) (C : Addr) : Sp := fun vs H Q _ => ∃ (a pa : Addr) (ns : List Int) (i : Nat) (z : Int), vs = [V.ref a] ∧ RdAt K C H a pa ns i ∧ ns[i]? = some z ∧ ∀ H' : Hp, Keeps H H' a → RdAt K C H' a pa ns (i + 1) → Q (.int z) H'
theorem scTake : FnScope ["self", "number"] ["self"] (defScope sTakeNumber) := ⟨rfl, rfl, rfl, by decide +kernel, rfl, by decide +kernel, by decide +kernel⟩
theorem rd_moved {H : Hp} {a : Addr} {ns : List Int} {i j : Nat} {dx : Addr} {fs : List (Str × V)} {pa : Addr} {z : Int} (R : RdR K C H a ns i dx fs pa) (e : z = (j : Int)) : RdAt K C (upd H a (.ins C dx (putF "place" (V.int z) fs))) a pa ns j := by
  refine ⟨dx, _, upd_same, ?_, ?_, ?_, sq_keep keeps_upd R.at_ R.seq⟩
  · rw [keys_old (by rw [R.keys]; decide +kernel), R.keys]
  · rw [lookup_putF, if_neg (by decide)]
    exact R.num
  · rw [lookup_putF, if_pos rfl, e]
theorem ok_take {f : Addr} {fd : FuncData} (F : Fun K "take_number" "Reader.take_number" sTakeNumber f fd) (S : RCls K C) : FnOk P w K mg base CX0 1 f fd ["self"] (spTake K C) := by
  refine F.ok scTake (fun vs H Q E h => ?_) (fun cdv A outer s H vs Q E hr h => ?_)
  · obtain ⟨a, pa, ns, i, z, rfl, _⟩ := h
    rfl
  · obtain ⟨a, pa, ns, i, z, rfl, ⟨dx, fs, R⟩, hz, k⟩ := h
    refine ⟨_, pss_cons (ps_set (i := 1) scTake.nd rfl (Or.inl rfl) (pe_ix ix_list (pe_fld (pv 0) rfl) (pe_fld (pv 0) rfl) (fun _ _ => rfl)))
      (pss_cons (ps_fld (pv 0) (pe_op op_add (pe_fld (pv 0) rfl) pe_int) rfl) (pss_one (ps_ret (pv 1)))), ?_⟩
    refine ⟨_, rfl, a, C, dx, fs, _, rfl, R.at_, S.cl, S.n _ (by decide +kernel), R.num, _, rfl, a, C, dx, fs, _, rfl, R.at_, S.cl, S.n _ (by decide +kernel), R.place, pa, _, _, _, rfl, rfl, R.seq, at_of (j := i) rfl (show (ns.map V.int)[i]? = some (V.int z) by rw [List.getElem?_map, hz]; rfl), ?_⟩
    refine ⟨_, rfl, a, C, dx, fs, _, rfl, R.at_, S.cl, S.n _ (by decide +kernel), R.place, _, _, rfl, rfl, _, rfl, a, C, dx, fs, rfl, R.at_, S.cl, S.n _ (by decide +kernel), two_len R.keys, ?_⟩
    refine ⟨_, rfl, k _ keeps_upd (rd_moved R (by omega))⟩
/-! take_row -/
def spRow (K : PySem.W.Frag) (C : Addr) : Sp := fun vs H Q _ => ∃ (a pa : Addr) (ns : List Int) (i m : Nat), vs = [V.ref a] ∧ RdAt K C H a pa ns i ∧ ns[i]? = some (m : Int) ∧ i + 1 + m ≤ ns.length ∧
  ∀ (H' : Hp) (r : Addr), Keeps H H' a → RdAt K C H' a pa ns (i + 1 + m) → H' r = some (.lst (((ns.drop (i + 1)).take m).map V.int)) → Q (.ref r) H'
theorem scRow : FnScope ["self", "size", "row"] ["self"] (defScope sTakeRow) := ⟨rfl, rfl, rfl, by decide +kernel, rfl, by decide +kernel, by decide +kernel⟩
theorem cut_mid {xs : List V} {i j : Nat} (h1 : i ≤ j) (h2 : j ≤ xs.length) : cutV xs (some (i : Int)) (some (j : Int)) = (xs.drop i).take (j - i) := by
  unfold cutV
  rw [HT.sIx_nat, HT.sIx_nat, Nat.min_eq_left h2, Nat.min_eq_left (show i ≤ xs.length by omega)]
theorem ok_row {f : Addr} {fd : FuncData} (F : Fun K "take_row" "Reader.take_row" sTakeRow f fd) (S : RCls K C) (DT : MDef P w K mg base C "take_number" 1 ["self"] (spTake K C)) : FnOk P w K mg base CX0 2 f fd ["self"] (spRow K C) := by
  refine F.ok scRow (fun vs H Q E h => ?_) (fun cdv A outer s H vs Q E hr h => ?_)
  · obtain ⟨a, pa, ns, i, m, rfl, _⟩ := h
    rfl
  · obtain ⟨a, pa, ns, i, m, rfl, hR, hm, hlen, k⟩ := h
    refine ⟨_, pss_cons (ps_set (i := 1) scRow.nd rfl (Or.inl rfl) (pe_mdef0 S.cl DT hr (pv 0)))
      (pss_cons (ps_set (i := 2) scRow.nd rfl (Or.inl rfl) (pe_slice sl_list (pe_fld (pv 0) rfl) (po_some (pe_fld (pv 0) rfl)) (po_some (pe_op op_add (pe_fld (pv 0) rfl) (pv 1)))))
      (pss_cons (ps_fld (pv 0) (pe_op op_add (pe_fld (pv 0) rfl) (pv 1)) rfl) (pss_one (ps_ret (pv 2))))), ?_⟩
    obtain ⟨dx0, fs0, R0⟩ := id hR
    refine ⟨_, rfl, a, dx0, fs0, rfl, R0.at_, two_no R0.keys (by decide +kernel), a, pa, ns, i, (m : Int), rfl, hR, hm, fun H1 k1 hR1 => ?_⟩
    obtain ⟨dx, fs, R⟩ := hR1
    refine ⟨_, rfl, a, C, dx, fs, _, rfl, R.at_, S.cl, S.n _ (by decide +kernel), R.num, _, rfl, a, C, dx, fs, _, rfl, R.at_, S.cl, S.n _ (by decide +kernel), R.place, _, rfl, _, rfl, a, C, dx, fs, _, rfl, R.at_, S.cl, S.n _ (by decide +kernel), R.place, _, rfl, _, _, rfl, rfl, _, rfl, pa, _, rfl, R.seq, fun r hr2 => ?_⟩
    have ej : ((i + 1 : Nat) : Int) + (m : Int) = ((i + 1 + m : Nat) : Int) := by omega
    rw [ej, cut_mid (by omega) (by rw [List.length_map]; exact hlen), show i + 1 + m - (i + 1) = m by omega, ← List.map_drop, ← List.map_take]
    have s2 : Same H1 (upd H1 r (.lst (((ns.drop (i + 1)).take m).map V.int))) := same_new (Same.refl H1) hr2
    generalize hH2 : upd H1 r (.lst (((ns.drop (i + 1)).take m).map V.int)) = H2 at s2
    have hr3 : H2 r = some (.lst (((ns.drop (i + 1)).take m).map V.int)) := by rw [← hH2, upd_same]
    have R2 : RdR K C H2 a ns (i + 1) dx fs pa := ⟨s2 _ _ R.at_, R.keys, R.num, R.place, s2.seq R.seq⟩
    refine ⟨_, rfl, a, C, dx, fs, _, rfl, R2.at_, S.cl, S.n _ (by decide +kernel), R.place, _, rfl, _, _, rfl, rfl, _, rfl, a, C, dx, fs, rfl, R2.at_, S.cl, S.n _ (by decide +kernel), two_len R.keys, ?_⟩
    refine ⟨_, rfl, k _ r ((k1.trans (Same.keeps s2 a)).trans keeps_upd) (rd_moved R2 (by omega)) ?_⟩
    rw [upd_ne (ne_of hr3 R2.at_ (by intro z; cases z))]
    exact hr3
end
end Lc

set_option Elab.async false
set_option linter.all false
set_option maxRecDepth 100000
set_option maxHeartbeats 4000000
namespace Lc
open PySem PySem.Spec PyProof.Rows L2
abbrev sAnsShoe : Stmt := top 42
abbrev sAnsTear : Stmt := top 43
abbrev sAnsMend : Stmt := top 44
abbrev sAnsIs : Stmt := top 45
abbrev sAnsLook : Stmt := top 46
/-- a list of whole numbers -/
def IL (H : Hp) (a : Addr) (zs : List Int) : Prop := H a = some (.lst (zs.map V.int))
structure Refuse (mg : Str → Option Value) : Prop where
  shoe : ∃ t, mg "NOT_A_SHOE" = some (.int (-1) t)
  lacing : ∃ t, mg "NOT_A_LACING" = some (.int (-1) t)
  such : ∃ t, mg "NO_SUCH_EYELET" = some (.int (-2) t)
  place : ∃ t, mg "NO_SUCH_PLACE" = some (.int (-3) t)
  torn : ∃ t, mg "TORN_ALREADY" = some (.int (-4) t)
  none_ : ∃ t, mg "NO_LACING" = some (.int (-6) t)
  whole : ∃ t, mg "NOT_TORN" = some (.int (-9) t)
/-- what is wanted behind the answer to a call -/
def Ans (C : Addr) (H : Hp) (a : Addr) (s : Uw74.Shoe) (x : Uw74.Call) (Q : VK) : Prop :=
  ∀ (H' : Hp) (r : Addr), Keeps H H' a → ShoeAt C H' a (Uw74.step s x).1 → IL H' r (Uw74.step s x).2 → Q (.ref r) H'
theorem Ans.same {C : Addr} {H H1 : Hp} {a : Addr} {s : Uw74.Shoe} {x : Uw74.Call} {Q : VK} (h : Ans C H a s x Q) (e : Same H H1) : Ans C H1 a s x Q := fun H' r k => h H' r ((Same.keeps e a).trans k)
theorem Keyed.of_all {fs : List (Str × V)} (h : fs.map (·.1) = five) (i : Nat) : Keyed fs i := .inr h
theorem okShoe_iff (n : Nat) (l : List Nat) : okShoe n l = false ↔ (n < 2 ∨ 4 < n ∨ l.length ≠ 2 * n - 1 ∨ l.any (fun x => decide (x < 1) || decide (1000 < x)) = true) := by
  unfold okShoe
  have e : l.any (fun x => decide (x < 1) || decide (1000 < x)) = !(l.all fun x => decide (1 ≤ x) && decide (x ≤ 1000)) := by
    rw [List.not_all_eq_any_not]
    congr 1
    funext x
    rw [Bool.not_and]
    congr 1
    · rw [Bool.eq_iff_iff]; simp <;> omega
    · rw [Bool.eq_iff_iff]; simp
  rw [e]
  cases h4 : (l.all fun x => decide (1 ≤ x) && decide (x ≤ 1000)) <;> by_cases h1 : n < 2 <;> by_cases h2 : 4 < n <;> by_cases h3 : l.length = 2 * n - 1 <;> simp [h1, h2, h3]
section
variable {P : Program} {w : World} {K : PySem.W.Frag} {mg : Str → Option Value} {base : Heap} {C : Addr}
/-! answer_shoe -/
def spAnsShoe (C : Addr) : Sp := fun vs H Q _ => ∃ (a l : Addr) (s : Uw74.Shoe) (n : Nat) (ls : List Nat), vs = [V.ref a, V.int (n : Int), V.ref l] ∧ ShoeAt C H a s ∧ NL H l ls ∧ ls.length ≤ 12 ∧ Ans C H a s (.shoe n ls) Q
theorem scAnsShoe : FnScope ["shoe", "n", "lengths"] ["shoe", "n", "lengths"] (defScope sAnsShoe) := ⟨rfl, rfl, rfl, by decide +kernel, rfl, by decide +kernel, by decide +kernel⟩
theorem ok_ansShoe {f : Addr} {fd : FuncData} (F : Fun K "answer_shoe" "answer_shoe" sAnsShoe f fd) (T : Glo mg) (U : Refuse mg) (S : SCls K C) (DI : Def P w K mg base "is_shoe" 1 ["n", "lengths"] spIsShoe)
    (DB : MDef P w K mg base C "become" 7 ["self", "n", "lengths"] (spBecome C)) : FnOk P w K mg base CX0 8 f fd ["shoe", "n", "lengths"] (spAnsShoe C) := by
  refine F.ok scAnsShoe (fun vs H Q E h => ?_) (fun cdv A outer s H vs Q E hr h => ?_)
  · obtain ⟨a, l, sh, n, ls, rfl, _⟩ := h
    rfl
  · obtain ⟨a, l, sh, n, ls, rfl, hsh, hl, h12, k⟩ := h
    obtain ⟨t1, hU⟩ := U.shoe
    refine ⟨_, pss_cons (ps_if (pt_not (pt_val (pe_def DI (hr.mono (by decide)) rfl (pa_cons (pv 1) (pa_cons (pv 2) pa_nil))))) (pss_one (ps_ret (pe_lst (pa_cons (pe_gi rfl hU) pa_nil)))) pss_nil)
      (pss_cons (ps_expr (pe_mdef S.cl DB hr (pv 0) (pa_cons (pv 1) (pa_cons (pv 2) pa_nil))))
      (pss_one (ps_ret (pe_lst (pa_cons (pe_callB call_len_seq rfl T.len PySem.boot_len (pa_cons (pe_fld (pv 0) rfl) pa_nil)) pa_nil))))), ?_⟩
    refine ⟨_, rfl, _, rfl, l, n, ls, rfl, hl, by omega, fun H1 s1 => ⟨_, rfl, ?_⟩⟩
    have k := k.same s1
    have hsh1 := hsh.same s1
    unfold Ans at k
    rw [step_shoe] at k
    cases hok : okShoe n ls with
    | false =>
      rw [if_pos ((okShoe_iff n ls).mp hok)] at k
      refine iteT ⟨(by show 1 ≤ sizeLine; decide), fun r hr1 => ?_⟩
      exact k _ r (Same.keeps (same_new (Same.refl H1) hr1) a) (hsh1.same (same_new (Same.refl H1) hr1)) upd_same
    | true =>
      have hno : ¬ (n < 2 ∨ 4 < n ∨ ls.length ≠ 2 * n - 1 ∨ ls.any (fun x => decide (x < 1) || decide (1000 < x)) = true) := fun z => by
        rw [(okShoe_iff n ls).mpr z] at hok
        cases hok
      rw [if_neg hno] at k
      have hn2 : 2 ≤ n := Nat.le_of_not_lt fun z => hno (.inl z)
      have hn4 : n ≤ 4 := Nat.le_of_not_lt fun z => hno (.inr (.inl z))
      have hll : ls.length = 2 * n - 1 := Decidable.byContradiction fun z => hno (.inr (.inr (.inl z)))
      refine iteF ?_
      obtain ⟨dx, fs, ac, al, wh, la, R⟩ := hsh1
      refine ⟨_, rfl, a, dx, fs, rfl, R.at_, (Keyed.of_all R.keys 0).no (by decide +kernel), _, rfl, _, rfl, a, l, dx, fs, n, ls, rfl, R.at_, .inr R.keys, hn2, hn4, hl.same s1, hll, fun H2 k2 hsh2 => ?_⟩
      obtain ⟨dx2, fs2, ac2, al2, wh2, la2, R2⟩ := id hsh2
      obtain ⟨as, ha1, ha2⟩ := R2.laL
      refine ⟨_, rfl, a, C, dx2, fs2, _, rfl, R2.at_, S.cl, S.n _ (by decide +kernel), R2.laced, la2, _, rfl, .inl (SqL.of ha1), (by show 1 ≤ sizeLine; decide), fun r hr1 => ?_⟩
      refine k _ r (k2.trans (Same.keeps (same_new (Same.refl H2) hr1) a)) (hsh2.same (same_new (Same.refl H2) hr1)) ?_
      show (upd _ r _) r = _
      rw [upd_same, List.length_map, paired_len ha2]
      rfl
/-! answer_tear -/
def spAnsTear (C : Addr) : Sp := fun vs H Q _ => ∃ (a : Addr) (s : Uw74.Shoe) (e : Nat), vs = [V.ref a, V.int (e : Int)] ∧ ShoeAt C H a s ∧ Fit s ∧ Ans C H a s (.tear e) Q
theorem scAnsTear : FnScope ["shoe", "eyelet", "other"] ["shoe", "eyelet"] (defScope sAnsTear) := ⟨rfl, rfl, rfl, by decide +kernel, rfl, by decide +kernel, by decide +kernel⟩
theorem torn_whole {s : Uw74.Shoe} {e : Nat} (h : e < 2 * s.rows) : (whole s).contains e = !s.torn.contains e := by
  rw [Bool.eq_iff_iff, List.contains_iff_mem, mem_whole]
  simp [h]
theorem ok_ansTear {f : Addr} {fd : FuncData} (F : Fun K "answer_tear" "answer_tear" sAnsTear f fd) (T : Glo mg) (U : Refuse mg) (S : SCls K C) (DT : MDef P w K mg base C "has_tearable" 1 ["self", "eyelet"] (spTearable C))
    (DS : MDef P w K mg base C "set_whole" 6 ["self", "eyelets"] (spSet C)) : FnOk P w K mg base CX0 7 f fd ["shoe", "eyelet"] (spAnsTear C) := by
  refine F.ok scAnsTear (fun vs H Q E h => ?_) (fun cdv A outer s H vs Q E hr h => ?_)
  · obtain ⟨a, sh, e, rfl, _⟩ := h
    rfl
  · obtain ⟨a, sh, e, rfl, hsh, hF, k⟩ := h
    obtain ⟨t1, hU1⟩ := U.such
    obtain ⟨t2, hU2⟩ := U.torn
    refine ⟨_, pss_cons (ps_if (pt_not (pt_val (pe_mdef S.cl DT (hr.mono (by decide)) (pv 0) (pa_cons (pv 1) pa_nil)))) (pss_one (ps_ret (pe_lst (pa_cons (pe_gi rfl hU1) pa_nil)))) pss_nil)
      (pss_cons (ps_if (pt_cmpR op_notIn_seq (pv 1) (pe_fld (pv 0) rfl) (by with_unfolding_all rfl)) (pss_one (ps_ret (pe_lst (pa_cons (pe_gi rfl hU2) pa_nil)))) pss_nil)
      (pss_cons (ps_expr (pe_mdef S.cl DS hr (pv 0) (pa_cons (pe_lc (own := [("other", 2)]) rfl scAnsTear.nd (pi_list (pe_fld (pv 0) rfl)) (blkOk_by (by kernel_rfl)) (fun _ _ _ _ _ => pg_name (i := 2) scAnsTear.nd rfl (Or.inl rfl))
        (fun _ _ _ _ _ => pts_one (pt_cmpR op_ne (pv 2) (pv 1) (nomark _))) (fun _ _ _ _ _ => pv 2)) pa_nil)))
      (pss_one (ps_ret (pe_lst (pa_cons (pe_callB call_len_seq rfl T.len PySem.boot_len (pa_cons (pe_fld (pv 0) rfl) pa_nil)) pa_nil)))))), ?_⟩
    unfold Ans at k
    rw [step_tear] at k
    obtain ⟨dx, fs, ac, al, wh, la, R⟩ := id hsh
    refine ⟨_, rfl, a, dx, fs, rfl, R.at_, (Keyed.of_all R.keys 0).no (by decide +kernel), _, rfl, a, sh, e, rfl, hsh, _, rfl, ?_⟩
    by_cases h1 : 2 * sh.rows ≤ e ∨ e < 2
    · rw [if_pos h1] at k
      have eb : (decide (1 < e) && decide (e < 2 * sh.rows)) = false := by
        rw [Bool.and_eq_false_iff]
        rcases h1 with z | z
        · exact .inr (decide_eq_false (by omega))
        · exact .inl (decide_eq_false (by omega))
      rw [eb]
      refine iteT ⟨(by show 1 ≤ sizeLine; decide), fun r hr1 => ?_⟩
      exact k _ r (Same.keeps (same_new (Same.refl H) hr1) a) (hsh.same (same_new (Same.refl H) hr1)) upd_same
    · rw [if_neg h1] at k
      have he2 : 2 ≤ e := Nat.le_of_not_lt fun z => h1 (.inr z)
      have heR : e < 2 * sh.rows := Nat.lt_of_not_le fun z => h1 (.inl z)
      have eb : (decide (1 < e) && decide (e < 2 * sh.rows)) = true := by rw [decide_eq_true (show 1 < e by omega), decide_eq_true heR]; rfl
      rw [eb]
      refine iteF ?_
      refine ⟨_, rfl, _, rfl, a, C, dx, fs, _, rfl, R.at_, S.cl, S.n _ (by decide +kernel), R.whole, wh, _, rfl, .inl R.whL.seq, rfl, nv_flat _, _, rfl, ?_⟩
      rw [if_pos rfl, inV_nv, torn_whole heR, Bool.not_not]
      cases ht : sh.torn.contains e with
      | true =>
        rw [if_pos ht] at k
        refine iteT ⟨(by show 1 ≤ sizeLine; decide), fun r hr1 => ?_⟩
        exact k _ r (Same.keeps (same_new (Same.refl H) hr1) a) (hsh.same (same_new (Same.refl H) hr1)) upd_same
      | false =>
        rw [if_neg (by rw [ht]; decide)] at k
        refine iteF ?_
        refine ⟨_, rfl, a, dx, fs, rfl, R.at_, (Keyed.of_all R.keys 0).no (by decide +kernel), _, rfl, a, C, dx, fs, _, rfl, R.at_, S.cl, S.n _ (by decide +kernel), R.whole, wh, rfl, ⟨_, R.whL.seq⟩, fun D hD => ?_⟩
        refine lc_list (K := K) (a := wh) (xs := nv (whole sh)) (fun i H' => Same H H' ∧ NL H' D (((whole sh).take i).filter fun x => x != e)) ⟨same_new (Same.refl H) hD, upd_same⟩ (fun i H' _ h => (R.whL.same h.1).seq) ?_ ?_
        · rintro i x H1 hi ⟨s1, h1⟩
          obtain ⟨y, hy, rfl⟩ := at_nv hi
          refine ⟨rfl, _, rfl, _, rfl, rfl, _, rfl, ?_⟩
          rw [ne_dec]
          cases hc : (y == e) with
          | true =>
            refine iteF ⟨s1, ?_⟩
            rw [filter_snoc_no hy (by show (!(y == e)) = false; rw [hc]; rfl)]
            exact h1
          | false =>
            refine iteT ⟨_, rfl, _, h1, ?_, same_write s1 hD, ?_⟩
            · rw [nv_len]
              have e1 := List.length_filter_le (fun x => x != e) ((whole sh).take i)
              have e2 := (whole_len hF).1
              rw [List.length_take] at e1
              exact line_le (by omega)
            · rw [filter_snoc_yes hy (by show (!(y == e)) = true; rw [hc]; rfl)]
              show (upd _ D _) D = _
              rw [upd_same, nv_app]
              rfl
        rintro H1 ⟨s1, h1⟩
        rw [nv_len, List.take_length, ← whole_tear] at h1
        have hF' := fit_tear hF he2
        refine ⟨a, D, dx, fs, ac, al, { sh with torn := sh.torn ++ [e] }, rfl, s1 _ _ R.at_, .inr R.keys, R.cnt, R.across, R.along, R.acL.same s1, R.alL.same s1, h1, hF', fun H2 k2 hsh2 => ?_⟩
        obtain ⟨dx2, fs2, ac2, al2, wh2, la2, R2⟩ := id hsh2
        obtain ⟨as, ha1, ha2⟩ := R2.laL
        refine ⟨_, rfl, a, C, dx2, fs2, _, rfl, R2.at_, S.cl, S.n _ (by decide +kernel), R2.laced, la2, _, rfl, .inl (SqL.of ha1), (by show 1 ≤ sizeLine; decide), fun r hr1 => ?_⟩
        refine k _ r (((Same.keeps s1 a).trans k2).trans (Same.keeps (same_new (Same.refl H2) hr1) a)) (hsh2.same (same_new (Same.refl H2) hr1)) ?_
        show (upd _ r _) r = _
        rw [upd_same, List.length_map, paired_len ha2]
        rfl
/-! answer_mend -/
def spAnsMend (C : Addr) : Sp := fun vs H Q _ => ∃ (a : Addr) (s : Uw74.Shoe) (e : Nat), vs = [V.ref a, V.int (e : Int)] ∧ ShoeAt C H a s ∧ Fit s ∧ Ans C H a s (.mend e) Q
theorem scAnsMend : FnScope ["shoe", "eyelet"] ["shoe", "eyelet"] (defScope sAnsMend) := ⟨rfl, rfl, rfl, by decide +kernel, rfl, by decide +kernel, by decide +kernel⟩
theorem ok_ansMend {f : Addr} {fd : FuncData} (F : Fun K "answer_mend" "answer_mend" sAnsMend f fd) (T : Glo mg) (U : Refuse mg) (S : SCls K C) (DT : MDef P w K mg base C "has_tearable" 1 ["self", "eyelet"] (spTearable C))
    (DS : MDef P w K mg base C "set_whole" 6 ["self", "eyelets"] (spSet C)) : FnOk P w K mg base CX0 7 f fd ["shoe", "eyelet"] (spAnsMend C) := by
  refine F.ok scAnsMend (fun vs H Q E h => ?_) (fun cdv A outer s H vs Q E hr h => ?_)
  · obtain ⟨a, sh, e, rfl, _⟩ := h
    rfl
  · obtain ⟨a, sh, e, rfl, hsh, hF, k⟩ := h
    obtain ⟨t1, hU1⟩ := U.such
    obtain ⟨t2, hU2⟩ := U.whole
    refine ⟨_, pss_cons (ps_if (pt_not (pt_val (pe_mdef S.cl DT (hr.mono (by decide)) (pv 0) (pa_cons (pv 1) pa_nil)))) (pss_one (ps_ret (pe_lst (pa_cons (pe_gi rfl hU1) pa_nil)))) pss_nil)
      (pss_cons (ps_if (pt_cmpR op_in_seq (pv 1) (pe_fld (pv 0) rfl) (by with_unfolding_all rfl)) (pss_one (ps_ret (pe_lst (pa_cons (pe_gi rfl hU2) pa_nil)))) pss_nil)
      (pss_cons (ps_expr (pe_mdef S.cl DS hr (pv 0) (pa_cons (pe_callB cr_sorted rfl T.sorted PyProof.Rows.boot_sorted (pa_cons (pe_op op_cat (pe_fld (pv 0) rfl) (pe_lst (pa_cons (pv 1) pa_nil))) pa_nil)) pa_nil)))
      (pss_one (ps_ret (pe_lst (pa_cons (pe_callB call_len_seq rfl T.len PySem.boot_len (pa_cons (pe_fld (pv 0) rfl) pa_nil)) pa_nil)))))), ?_⟩
    unfold Ans at k
    rw [step_mend] at k
    obtain ⟨dx, fs, ac, al, wh, la, R⟩ := id hsh
    refine ⟨_, rfl, a, dx, fs, rfl, R.at_, (Keyed.of_all R.keys 0).no (by decide +kernel), _, rfl, a, sh, e, rfl, hsh, _, rfl, ?_⟩
    by_cases h1 : 2 * sh.rows ≤ e ∨ e < 2
    · rw [if_pos h1] at k
      have eb : (decide (1 < e) && decide (e < 2 * sh.rows)) = false := by
        rw [Bool.and_eq_false_iff]
        rcases h1 with z | z
        · exact .inr (decide_eq_false (by omega))
        · exact .inl (decide_eq_false (by omega))
      rw [eb]
      refine iteT ⟨(by show 1 ≤ sizeLine; decide), fun r hr1 => ?_⟩
      exact k _ r (Same.keeps (same_new (Same.refl H) hr1) a) (hsh.same (same_new (Same.refl H) hr1)) upd_same
    · rw [if_neg h1] at k
      have he2 : 2 ≤ e := Nat.le_of_not_lt fun z => h1 (.inr z)
      have heR : e < 2 * sh.rows := Nat.lt_of_not_le fun z => h1 (.inl z)
      have eb : (decide (1 < e) && decide (e < 2 * sh.rows)) = true := by rw [decide_eq_true (show 1 < e by omega), decide_eq_true heR]; rfl
      rw [eb]
      refine iteF ?_
      refine ⟨_, rfl, _, rfl, a, C, dx, fs, _, rfl, R.at_, S.cl, S.n _ (by decide +kernel), R.whole, wh, _, rfl, .inl R.whL.seq, rfl, nv_flat _, _, rfl, ?_⟩
      rw [if_neg (by decide), inV_nv, torn_whole heR]
      cases ht : sh.torn.contains e with
      | false =>
        rw [if_pos ht] at k
        refine iteT ⟨(by show 1 ≤ sizeLine; decide), fun r hr1 => ?_⟩
        exact k _ r (Same.keeps (same_new (Same.refl H) hr1) a) (hsh.same (same_new (Same.refl H) hr1)) upd_same
      | true =>
        rw [if_neg (by rw [ht]; decide)] at k
        have htm : e ∈ sh.torn := List.contains_iff_mem.mp ht
        refine iteF ?_
        refine ⟨_, rfl, a, dx, fs, rfl, R.at_, (Keyed.of_all R.keys 0).no (by decide +kernel), _, rfl, a, C, dx, fs, _, rfl, R.at_, S.cl, S.n _ (by decide +kernel), R.whole, _, rfl, (by show 1 ≤ sizeLine; decide), fun q hq => ?_⟩
        have s1 : Same H (upd H q (.lst [V.int (e : Int)])) := same_new (Same.refl H) hq
        have hwl := (whole_len hF).1
        refine ⟨wh, q, nv (whole sh), [V.int (e : Int)], rfl, rfl, s1 _ _ R.whL, upd_same, ?_, fun q2 hq2 => ?_⟩
        · rw [nv_len]
          exact Nat.le_of_lt (line_le (by show (whole sh).length + 1 ≤ _; omega))
        have eb2 : nv (whole sh) ++ [V.int (e : Int)] = nv (whole sh ++ [e]) := by rw [nv_app]; rfl
        rw [eb2]
        have s2 : Same H (upd (upd H q (.lst [V.int (e : Int)])) q2 (.lst (nv (whole sh ++ [e])))) := same_new s1 hq2
        have hq3 : NL (upd (upd H q (.lst [V.int (e : Int)])) q2 (.lst (nv (whole sh ++ [e])))) q2 (whole sh ++ [e]) := upd_same
        generalize upd (upd H q (.lst [V.int (e : Int)])) q2 (.lst (nv (whole sh ++ [e]))) = H2 at s2 hq3
        refine ⟨q2, (whole sh ++ [e]).map (fun (n : Nat) => (n : Int)), rfl, by rw [← nvI]; exact hq3.seq, by rw [List.length_map, List.length_append]; show (whole sh).length + 1 < 64; omega, fun ns p hp hs hpn => ?_⟩
        obtain ⟨m, rfl, hm⟩ := ints_nat hp
        have hs' := pair_nat hs
        rw [← nvI]
        have hF' := fit_mend hF e
        have em : m = whole { sh with torn := sh.torn.filter fun x => x != e } := (sorted_is hm hs').mpr (mend_perm heR htm)
        have s3 : Same H2 (upd H2 p (.lst (nv m))) := same_new (Same.refl H2) hpn
        have hp3 : NL (upd H2 p (.lst (nv m))) p (whole { sh with torn := sh.torn.filter fun x => x != e }) := by
          show (upd _ p _) p = _
          rw [upd_same, em]
        generalize upd H2 p (.lst (nv m)) = H3 at s3 hp3
        have s4 : Same H H3 := s2.trans s3
        refine ⟨a, p, dx, fs, ac, al, { sh with torn := sh.torn.filter fun x => x != e }, rfl, s4 _ _ R.at_, .inr R.keys, R.cnt, R.across, R.along, R.acL.same s4, R.alL.same s4, hp3, hF', fun H4 k2 hsh2 => ?_⟩
        obtain ⟨dx2, fs2, ac2, al2, wh2, la2, R2⟩ := id hsh2
        obtain ⟨as, ha1, ha2⟩ := R2.laL
        refine ⟨_, rfl, a, C, dx2, fs2, _, rfl, R2.at_, S.cl, S.n _ (by decide +kernel), R2.laced, la2, _, rfl, .inl (SqL.of ha1), (by show 1 ≤ sizeLine; decide), fun r hr1 => ?_⟩
        refine k _ r (((Same.keeps s4 a).trans k2).trans (Same.keeps (same_new (Same.refl H4) hr1) a)) (hsh2.same (same_new (Same.refl H4) hr1)) ?_
        show (upd _ r _) r = _
        rw [upd_same, List.length_map, paired_len ha2]
        rfl
/-! answer_is -/
def spAnsIs (C : Addr) : Sp := fun vs H Q _ => ∃ (a r : Addr) (s : Uw74.Shoe) (row : List Nat), vs = [V.ref a, V.ref r] ∧ ShoeAt C H a s ∧ Fit s ∧ NL H r row ∧ row.length ≤ 12 ∧ Ans C H a s (.is row) Q
theorem scAnsIs : FnScope ["shoe", "row"] ["shoe", "row"] (defScope sAnsIs) := ⟨rfl, rfl, rfl, by decide +kernel, rfl, by decide +kernel, by decide +kernel⟩
theorem ok_ansIs {f : Addr} {fd : FuncData} (F : Fun K "answer_is" "answer_is" sAnsIs f fd) (DI : Def P w K mg base "is_lacing" 3 ["shoe", "row"] (spIsLacing C)) : FnOk P w K mg base CX0 4 f fd ["shoe", "row"] (spAnsIs C) := by
  refine F.ok scAnsIs (fun vs H Q E h => ?_) (fun cdv A outer s H vs Q E hr h => ?_)
  · obtain ⟨a, r, sh, row, rfl, _⟩ := h
    rfl
  · obtain ⟨a, r, sh, row, rfl, hsh, hF, hr0, h12, k⟩ := h
    refine ⟨_, pss_one (ps_ret (pe_lst (pa_cons (pe_ifExp (pt_val (pe_def DI hr rfl (pa_cons (pv 0) (pa_cons (pv 1) pa_nil)))) pe_int pe_int) pa_nil))), ?_⟩
    refine ⟨_, rfl, _, rfl, a, r, sh, row, rfl, hsh, hF, hr0, h12, fun H1 s1 => ⟨_, rfl, ?_⟩⟩
    have fin : ∀ z : Int, z = ((Uw74.flag (Uw74.isLacing sh row) : Nat) : Int) → ∀ p, H1 p = none → Q (.ref p) (upd H1 p (.lst [V.int z])) := fun z hz p hp => by
      have s2 : Same H1 (upd H1 p (.lst [V.int z])) := same_new (Same.refl H1) hp
      refine k _ p (Same.keeps (s1.trans s2) a) (hsh.same (s1.trans s2)) ?_
      show (upd _ p _) p = _
      rw [upd_same, hz]
      rfl
    cases hc : Uw74.isLacing sh row with
    | true => exact iteT ⟨(by show 1 ≤ sizeLine; decide), fin 1 (by rw [hc]; rfl)⟩
    | false => exact iteF ⟨(by show 1 ≤ sizeLine; decide), fin 0 (by rw [hc]; rfl)⟩
end
end Lc

set_option Elab.async false
set_option linter.all false
set_option maxRecDepth 100000
set_option maxHeartbeats 4000000
namespace Lc
open PySem PySem.Spec PyProof.Rows L2
abbrev sPull : Stmt := top 36
abbrev sIsEven : Stmt := top 40
theorem step_look (s : Uw74.Shoe) (l : List Nat) : Uw74.step s (.look l) = (s, if Uw74.isLacing s l = false then [-1] else Uw74.ints [Uw74.long s l, Uw74.pulls l, Uw74.crossings l, Uw74.flag (Uw74.isEven l)]) := rfl
theorem joined_len (l : List Nat) : (joined l).length = Uw74.pulls l := by unfold joined Uw74.pulls; rw [List.length_map]
theorem isEven_dec (l : List Nat) : decide (Uw74.mirror l = l) = Uw74.isEven l := by
  unfold Uw74.isEven
  rw [Bool.eq_iff_iff, decide_eq_true_iff, beq_iff_eq]
section
variable {P : Program} {w : World} {K : PySem.W.Frag} {mg : Str → Option Value} {base : Heap} {C : Addr}
/-! pull_count -/
def spPull : Sp := fun vs H Q _ => ∃ (p : Addr) (l : List Nat), vs = [V.ref p] ∧ NL H p l ∧ l.length ≤ 100 ∧ ∀ H' : Hp, Same H H' → Q (.int ((Uw74.pulls l : Nat) : Int)) H'
theorem scPull : FnScope ["lacing"] ["lacing"] (defScope sPull) := ⟨rfl, rfl, rfl, by decide +kernel, rfl, by decide +kernel, by decide +kernel⟩
theorem ok_pull {f : Addr} {fd : FuncData} (F : Fun K "pull_count" "pull_count" sPull f fd) (T : Glo mg) (DA : Def P w K mg base "pieces_across" 2 ["lacing"] spAcrossP) : FnOk P w K mg base CX0 3 f fd ["lacing"] spPull := by
  refine F.ok scPull (fun vs H Q E h => ?_) (fun cdv A outer s H vs Q E hr h => ?_)
  · obtain ⟨p, l, rfl, _⟩ := h
    rfl
  · obtain ⟨p, l, rfl, hp, h100, k⟩ := h
    refine ⟨_, pss_one (ps_ret (pe_callB call_len_seq rfl T.len PySem.boot_len (pa_cons (pe_def DA hr rfl (pa_cons (pv 0) pa_nil)) pa_nil))), ?_⟩
    refine ⟨_, rfl, p, l, rfl, hp, h100, fun H1 r s1 hL => ?_⟩
    obtain ⟨as, ha1, ha2⟩ := hL
    refine ⟨r, _, rfl, .inl (SqL.of ha1), ?_⟩
    rw [List.length_map, paired_len ha2, joined_len]
    exact k H1 s1
/-! is_even -/
def spEven : Sp := fun vs H Q _ => ∃ (p : Addr) (l : List Nat), vs = [V.ref p] ∧ NL H p l ∧ l.length ≤ 100 ∧ ∀ H' : Hp, Same H H' → Q (.bl (Uw74.isEven l)) H'
theorem scEven : FnScope ["lacing"] ["lacing"] (defScope sIsEven) := ⟨rfl, rfl, rfl, by decide +kernel, rfl, by decide +kernel, by decide +kernel⟩
theorem ok_even {f : Addr} {fd : FuncData} (F : Fun K "is_even" "is_even" sIsEven f fd) (DM : Def P w K mg base "in_mirror" 2 ["lacing"] spMirror) : FnOk P w K mg base CX0 3 f fd ["lacing"] spEven := by
  refine F.ok scEven (fun vs H Q E h => ?_) (fun cdv A outer s H vs Q E hr h => ?_)
  · obtain ⟨p, l, rfl, _⟩ := h
    rfl
  · obtain ⟨p, l, rfl, hp, h100, k⟩ := h
    refine ⟨_, pss_one (ps_ret (pe_cmpR (op_eqD hr.units) (pe_def DM hr rfl (pa_cons (pv 0) pa_nil)) (pv 0) (nomark _))), ?_⟩
    refine ⟨_, rfl, p, l, rfl, hp, h100, fun H1 m s1 hm => ?_⟩
    refine ⟨_, rfl, dn (Uw74.mirror l), dn l, dp_nl hm, dp_nl (hp.same s1), shaped_dn _, shaped_dn _, ?_⟩
    refine qb ?_ (k H1 s1)
    rw [eqv_dn, isEven_dec]
/-! answer_look -/
def spAnsLook (C : Addr) : Sp := fun vs H Q _ => ∃ (a r : Addr) (s : Uw74.Shoe) (row : List Nat), vs = [V.ref a, V.ref r] ∧ ShoeAt C H a s ∧ Fit s ∧ NL H r row ∧ row.length ≤ 12 ∧ Ans C H a s (.look row) Q
theorem scAnsLook : FnScope ["shoe", "row"] ["shoe", "row"] (defScope sAnsLook) := ⟨rfl, rfl, rfl, by decide +kernel, rfl, by decide +kernel, by decide +kernel⟩
theorem ok_ansLook {f : Addr} {fd : FuncData} (F : Fun K "answer_look" "answer_look" sAnsLook f fd) (U : Refuse mg) (DI : Def P w K mg base "is_lacing" 3 ["shoe", "row"] (spIsLacing C))
    (DL : Def P w K mg base "lacing_length" 3 ["shoe", "lacing"] (spLength C)) (DP : Def P w K mg base "pull_count" 3 ["lacing"] spPull) (DC : Def P w K mg base "crossing_count" 3 ["lacing"] spCrossing) (DE : Def P w K mg base "is_even" 3 ["lacing"] spEven) : FnOk P w K mg base CX0 4 f fd ["shoe", "row"] (spAnsLook C) := by
  refine F.ok scAnsLook (fun vs H Q E h => ?_) (fun cdv A outer s H vs Q E hr h => ?_)
  · obtain ⟨a, r, sh, row, rfl, _⟩ := h
    rfl
  · obtain ⟨a, r, sh, row, rfl, hsh, hF, hr0, h12, k⟩ := h
    obtain ⟨t1, hU⟩ := U.lacing
    refine ⟨_, pss_cons (ps_if (pt_not (pt_val (pe_def DI hr rfl (pa_cons (pv 0) (pa_cons (pv 1) pa_nil))))) (pss_one (ps_ret (pe_lst (pa_cons (pe_gi rfl hU) pa_nil)))) pss_nil)
      (pss_one (ps_ret (pe_lst (pa_cons (pe_def DL hr rfl (pa_cons (pv 0) (pa_cons (pv 1) pa_nil))) (pa_cons (pe_def DP hr rfl (pa_cons (pv 1) pa_nil))
        (pa_cons (pe_def DC hr rfl (pa_cons (pv 1) pa_nil)) (pa_cons (pe_ifExp (pt_val (pe_def DE hr rfl (pa_cons (pv 1) pa_nil))) pe_int pe_int) pa_nil))))))), ?_⟩
    unfold Ans at k
    rw [step_look] at k
    refine ⟨_, rfl, _, rfl, a, r, sh, row, rfl, hsh, hF, hr0, h12, fun H1 s1 => ⟨_, rfl, ?_⟩⟩
    cases hc : Uw74.isLacing sh row with
    | false =>
      rw [if_pos hc] at k
      refine iteT ⟨(by show 1 ≤ sizeLine; decide), fun q hq => ?_⟩
      have s2 : Same H (upd H1 q (.lst [V.int (-1)])) := same_new s1 hq
      exact k _ q (Same.keeps s2 a) (hsh.same s2) upd_same
    | true =>
      rw [if_neg (by rw [hc]; decide)] at k
      have hmem := isLacing_mem hc
      refine iteF ?_
      refine ⟨_, rfl, _, rfl, a, r, sh, row, rfl, hsh.same s1, hF, hr0.same s1, by omega, all_lt hF hmem, fun H3 s3 => ?_⟩
      have s13 := s1.trans s3
      refine ⟨_, rfl, r, row, rfl, hr0.same s13, by omega, fun H4 s4 => ?_⟩
      have s14 := s13.trans s4
      refine ⟨_, rfl, r, row, rfl, hr0.same s14, by omega, fun H5 s5 => ?_⟩
      have s15 := s14.trans s5
      refine ⟨_, rfl, r, row, rfl, hr0.same s15, by omega, fun H6 s6 => ⟨_, rfl, ?_⟩⟩
      have s16 := s15.trans s6
      have fin : ∀ z : Int, z = ((Uw74.flag (Uw74.isEven row) : Nat) : Int) → ∀ q, H6 q = none → Q (.ref q) (upd H6 q (.lst [V.int (((longM sh.across sh.along row).sum : Nat) : Int), V.int ((Uw74.pulls row : Nat) : Int), V.int ((Uw74.crossings row : Nat) : Int), V.int z])) := fun z hz q hq => by
        have s17 : Same H (upd H6 q (.lst [V.int (((longM sh.across sh.along row).sum : Nat) : Int), V.int ((Uw74.pulls row : Nat) : Int), V.int ((Uw74.crossings row : Nat) : Int), V.int z])) := same_new s16 hq
        refine k _ q (Same.keeps s17 a) (hsh.same s17) ?_
        show (upd _ q _) q = _
        rw [upd_same, long_is sh (all_nodup hF hmem), hz]
        rfl
      cases he : Uw74.isEven row with
      | true => exact iteT ⟨(by show 4 ≤ sizeLine; decide), fin 1 (by rw [he]; rfl)⟩
      | false => exact iteF ⟨(by show 4 ≤ sizeLine; decide), fin 0 (by rw [he]; rfl)⟩
end
end Lc

set_option Elab.async false
set_option linter.all false
set_option maxRecDepth 100000
set_option maxHeartbeats 4000000
namespace Lc
open PySem PySem.Spec PyProof.Rows L2
abbrev sBest : Stmt := top 47
abbrev sAnsShortest : Stmt := top 48
theorem step_shortest (s : Uw74.Shoe) : Uw74.step s .shortest = (s, Uw74.told (Uw74.least (Uw74.long s) (Uw74.all s))) := rfl
theorem all_len {s : Uw74.Shoe} (F : Fit s) : (Uw74.all s).length ≤ 46656 := by
  rw [← lacings_all]
  unfold lacings
  have h6 := (whole_len F).2
  generalize ((whole s).filter fun e => decide (1 < e)) = bt at h6
  have e1 := len_finish (iter bt bt.length [[0]])
  have e2 := iter_len h6 bt.length
  have e3 : 6 ^ bt.length ≤ 6 ^ 6 := Nat.pow_le_pow_right (by decide) h6
  have e4 : (6 : Nat) ^ 6 = 46656 := by decide
  omega
theorem first_ix {m : Nat} : ∀ {L : List Nat}, m ∈ L → ∃ j : Nat, L[j]? = some m ∧ ∀ (i z : Nat), i < j → L[i]? = some z → z ≠ m
  | [], h => by cases h
  | a :: L, h => by
    by_cases e : a = m
    · exact ⟨0, by rw [e]; rfl, fun i z hi => by omega⟩
    · rcases List.mem_cons.mp h with z | z
      · exact absurd z.symm e
      · obtain ⟨j, h1, h2⟩ := first_ix z
        refine ⟨j + 1, h1, fun i z hi hz => ?_⟩
        match i, hi, hz with
        | 0, _, hz =>
          have : a = z := Option.some.inj hz
          rw [← this]
          exact e
        | i + 1, hi, hz => exact h2 i z (by omega) hz
theorem mem_cast {L : List Nat} {m : Int} (h : m ∈ L.map fun (n : Nat) => (n : Int)) : ∃ n, n ∈ L ∧ m = (n : Int) := by
  obtain ⟨n, hn, e⟩ := List.mem_map.mp h
  exact ⟨n, hn, e.symm⟩
theorem count_cast (m : Nat) : ∀ L : List Nat, (L.map fun (n : Nat) => (n : Int)).count (m : Int) = L.count m
  | [] => rfl
  | a :: L => by
    rw [List.map_cons, List.count_cons, List.count_cons, count_cast m L]
    congr 1
    have e : ((a : Int) == (m : Int)) = (a == m) := by
      rw [Bool.eq_iff_iff, beq_iff_eq, beq_iff_eq]
      omega
    rw [e]
theorem eqV_nat (a b : Nat) : eqV (V.int (a : Int)) (V.int (b : Int)) = (a == b) := by
  show ((a : Int) == (b : Int)) = _
  rw [Bool.eq_iff_iff, beq_iff_eq, beq_iff_eq]
  omega
theorem all_len12 {s : Uw74.Shoe} (F : Fit s) {l : List Nat} (h : l ∈ Uw74.all s) : l.length ≤ 8 := by
  rw [(all_perm F h).length_eq]
  exact (whole_len F).1
theorem NL.il {H : Hp} {a : Addr} {l : List Nat} (h : NL H a l) : IL H a (Uw74.ints l) := by
  unfold IL Uw74.ints
  rw [← nvI]
  exact h
theorem least_told {f : List Nat → Nat} {L : List (List Nat)} {m j : Nat} {l : List Nat} (hm : ∀ y ∈ L.map f, m ≤ y) (hl : L[j]? = some l) (hj : (L.map f)[j]? = some m) (hno : ∀ (i z : Nat), i < j → (L.map f)[i]? = some z → z ≠ m) :
    Uw74.told (Uw74.least f L) = Uw74.ints (m :: (L.map f).count m :: l) := by
  have hfl : f l = m := by
    rw [List.getElem?_map, hl] at hj
    exact Option.some.inj hj
  rw [least_is (List.mem_of_getElem? hj) hm, first_is hl hfl (fun i l' hi hl' => hno i _ hi (by rw [List.getElem?_map, hl']; rfl)), count_is]
  rfl
theorem greatest_told {f : List Nat → Nat} {L : List (List Nat)} {m j : Nat} {l : List Nat} (hm : ∀ y ∈ L.map f, y ≤ m) (hl : L[j]? = some l) (hj : (L.map f)[j]? = some m) (hno : ∀ (i z : Nat), i < j → (L.map f)[i]? = some z → z ≠ m) :
    Uw74.told (Uw74.greatest f L) = Uw74.ints (m :: (L.map f).count m :: l) := by
  have hfl : f l = m := by
    rw [List.getElem?_map, hl] at hj
    exact Option.some.inj hj
  rw [greatest_is (List.mem_of_getElem? hj) hm, first_is hl hfl (fun i l' hi hl' => hno i _ hi (by rw [List.getElem?_map, hl']; rfl)), count_is]
  rfl
section
variable {P : Program} {w : World} {K : PySem.W.Frag} {mg : Str → Option Value} {base : Heap} {C : Addr}
/-! best_and_first -/
def spBest : Sp := fun vs H Q _ => ∃ (p d : Addr) (L : List (List Nat)) (M : List Nat) (m : Nat), vs = [V.ref p, V.ref d, V.int (m : Int)] ∧ LL H p L ∧ NL H d M ∧ M.length = L.length ∧ m ∈ M ∧ (∀ l ∈ L, l.length ≤ 8) ∧
  ∀ (H' : Hp) (r : Addr) (j : Nat) (l : List Nat), Same H H' → L[j]? = some l → M[j]? = some m → (∀ (i z : Nat), i < j → M[i]? = some z → z ≠ m) → NL H' r (m :: M.count m :: l) → Q (.ref r) H'
theorem scBest : FnScope ["lacings", "marks", "best"] ["lacings", "marks", "best"] (defScope sBest) := ⟨rfl, rfl, rfl, by decide +kernel, rfl, by decide +kernel, by decide +kernel⟩
theorem ok_best {f : Addr} {fd : FuncData} (F : Fun K "best_and_first" "best_and_first" sBest f fd) : FnOk P w K mg base CX0 1 f fd ["lacings", "marks", "best"] spBest := by
  refine F.ok scBest (fun vs H Q E h => ?_) (fun cdv A outer s H vs Q E hr h => ?_)
  · obtain ⟨p, d, L, M, m, rfl, _⟩ := h
    rfl
  · obtain ⟨p, d, L, M, m, rfl, hL, hM, hlen, hm, h8, k⟩ := h
    refine ⟨_, pss_one (ps_ret (pe_op op_cat (pe_lst (pa_cons (pv 2) (pa_cons (pe_bm PySem.F.plainAttrs_list PySem.F.slot_list_count PySem.F.type_list_count mt_lcount (pv 1) (pa_cons (pv 2) pa_nil)) pa_nil)))
        (pe_ix ix_list (pv 0) (pe_bm PySem.F.plainAttrs_list PySem.F.slot_list_index PySem.F.type_list_index mt_index (pv 1) (pa_cons (pv 2) pa_nil)) (fun _ _ => rfl)))), ?_⟩
    obtain ⟨as, ha1, ha2⟩ := hL
    obtain ⟨j, hj, hno⟩ := first_ix hm
    have hjl : j < L.length := by rw [← hlen]; exact (List.getElem?_eq_some_iff.mp hj).1
    obtain ⟨l, hl⟩ : ∃ l, L[j]? = some l := ⟨_, List.getElem?_eq_getElem hjl⟩
    obtain ⟨c, hcj, hcl⟩ := paired_at' ha2 hl
    refine ⟨_, rfl, _, rfl, .inl ⟨rfl, _, hM.seq⟩, _, rfl, d, M.map (fun (n : Nat) => (n : Int)), (m : Int), rfl, rfl, by rw [← nvI]; exact hM.seq, (by show 2 ≤ sizeLine; decide), fun q hq => ?_⟩
    have s2 : Same H (upd H q (.lst [V.int (m : Int), V.int (((M.map (fun (n : Nat) => (n : Int))).count (m : Int) : Nat) : Int)])) := same_new (Same.refl H) hq
    have hq2 : (upd H q (.lst [V.int (m : Int), V.int (((M.map (fun (n : Nat) => (n : Int))).count (m : Int) : Nat) : Int)])) q = some (.lst [V.int (m : Int), V.int (((M.map (fun (n : Nat) => (n : Int))).count (m : Int) : Nat) : Int)]) := upd_same
    generalize upd H q (.lst [V.int (m : Int), V.int (((M.map (fun (n : Nat) => (n : Int))).count (m : Int) : Nat) : Int)]) = H2 at s2 hq2
    refine ⟨_, rfl, _, rfl, .inl ⟨rfl, _, (hM.same s2).seq⟩, _, rfl, d, nv M, V.int (m : Int), j, V.int (m : Int), rfl, rfl, (hM.same s2).seq, rfl, nv_flat M, nv_at hj, by rw [eqV_nat]; exact beq_self_eq_true m, fun i z hi hz => ?_, ?_⟩
    · obtain ⟨n, hn, rfl⟩ := at_nv hz
      rw [eqV_nat]
      exact beq_eq_false_iff_ne.mpr (hno i n hi hn)
    · have hc2 : NL H2 c l := s2 _ _ hcl
      refine ⟨p, _, _, _, rfl, rfl, SqL.of (s2 _ _ ha1), at_of (j := j) rfl (show (as.map V.ref)[j]? = some (V.ref c) by rw [List.getElem?_map, hcj]; rfl), ?_⟩
      have hl8 := h8 l (List.mem_of_getElem? hl)
      refine ⟨q, c, _, _, rfl, rfl, hq2, hc2, ?_, fun r hr1 => ?_⟩
      · rw [nv_len]
        exact Nat.le_of_lt (line_le (by show 2 + l.length ≤ _; omega))
      · refine k _ r j l (same_new s2 hr1) hl hj hno ?_
        show (upd _ r _) r = _
        rw [upd_same, count_cast]
        rfl
/-! answer_shortest -/
def spAnsShortest (C : Addr) : Sp := fun vs H Q _ => ∃ (a : Addr) (s : Uw74.Shoe), vs = [V.ref a] ∧ ShoeAt C H a s ∧ Fit s ∧ Ans C H a s .shortest Q
theorem scAnsShortest : FnScope ["shoe", "lengths", "lacing"] ["shoe"] (defScope sAnsShortest) := ⟨rfl, rfl, rfl, by decide +kernel, rfl, by decide +kernel, by decide +kernel⟩
theorem ok_ansShortest {f : Addr} {fd : FuncData} (F : Fun K "answer_shortest" "answer_shortest" sAnsShortest f fd) (T : Glo mg) (U : Refuse mg) (S : SCls K C) (DL : Def P w K mg base "lacing_length" 3 ["shoe", "lacing"] (spLength C))
    (DB : Def P w K mg base "best_and_first" 1 ["lacings", "marks", "best"] spBest) : FnOk P w K mg base CX0 4 f fd ["shoe"] (spAnsShortest C) := by
  refine F.ok scAnsShortest (fun vs H Q E h => ?_) (fun cdv A outer s H vs Q E hr h => ?_)
  · obtain ⟨a, sh, rfl, _⟩ := h
    rfl
  · obtain ⟨a, sh, rfl, hsh, hF, k⟩ := h
    obtain ⟨t1, hU⟩ := U.none_
    refine ⟨_, pss_cons (ps_if (pt_cmpR op_eq (pe_callB call_len_seq rfl T.len PySem.boot_len (pa_cons (pe_fld (pv 0) rfl) pa_nil)) pe_int (nomark _)) (pss_one (ps_ret (pe_lst (pa_cons (pe_gi rfl hU) pa_nil)))) pss_nil)
      (pss_cons (ps_setLc (i := 1) (own := [("lacing", 2)]) rfl scAnsShortest.nd rfl rfl (sw_true rfl rfl rfl rfl) (pi_list (pe_fld (pv 0) rfl)) (blkOk_by (by kernel_rfl)) (fun _ _ _ _ _ => pg_name (i := 2) scAnsShortest.nd rfl (Or.inl rfl)) (fun _ _ _ _ _ => pts_nil)
        (fun _ _ _ _ _ => pe_def DL hr rfl (pa_cons (pv 0) (pa_cons (pv 2) pa_nil))))
      (pss_one (ps_ret (pe_def DB (hr.mono (by decide)) rfl (pa_cons (pe_fld (pv 0) rfl) (pa_cons (pv 1) (pa_cons (pe_callB (cr_min rfl) rfl T.min PyProof.Rows.boot_min (pa_cons (pv 1) pa_nil)) pa_nil))))))), ?_⟩
    unfold Ans at k
    rw [step_shortest] at k
    obtain ⟨dx, fs, ac, al, wh, la, R⟩ := id hsh
    obtain ⟨as, ha1, ha2⟩ := id R.laL
    have lenAs := paired_len ha2
    refine ⟨_, rfl, a, C, dx, fs, _, rfl, R.at_, S.cl, S.n _ (by decide +kernel), R.laced, la, _, rfl, .inl (SqL.of ha1), rfl, _, rfl, ?_⟩
    by_cases h0 : Uw74.all sh = []
    · have e0 : decide (V.int (((as.map V.ref).length : Nat) : Int) = V.int 0) = true := decide_eq_true (by rw [List.length_map, lenAs, h0]; rfl)
      rw [e0]
      rw [h0] at k
      refine iteT ⟨(by show 1 ≤ sizeLine; decide), fun r hr1 => ?_⟩
      exact k _ r (Same.keeps (same_new (Same.refl H) hr1) a) (hsh.same (same_new (Same.refl H) hr1)) upd_same
    · have hpos : 0 < (Uw74.all sh).length := List.length_pos_iff.mpr h0
      have e0 : decide (V.int (((as.map V.ref).length : Nat) : Int) = V.int 0) = false := decide_eq_false (by
        rw [List.length_map, lenAs]
        intro z
        injection z with z
        omega)
      rw [e0]
      refine iteF ?_
      refine ⟨_, rfl, a, C, dx, fs, _, rfl, R.at_, S.cl, S.n _ (by decide +kernel), R.laced, la, rfl, ⟨_, SqL.of ha1⟩, fun D hD => ?_⟩
      have hal := all_len hF
      generalize hLL : (Uw74.all sh).map (Uw74.long sh) = LL
      have hLn : LL.length = (Uw74.all sh).length := by rw [← hLL, List.length_map]
      refine lc_list (K := K) (a := la) (xs := as.map V.ref) (fun i H' => Same H H' ∧ NL H' D (LL.take i)) ⟨same_new (Same.refl H) hD, upd_same⟩ (fun i H' _ h => SqL.of (h.1 _ _ ha1)) ?_ ?_
      · rintro i x H1 hi ⟨s1, h1⟩
        obtain ⟨c, hci, rfl⟩ := ref_at hi
        obtain ⟨l, hli, hcl⟩ := paired_at ha2 hci
        have hmem := List.mem_of_getElem? hli
        refine ⟨rfl, yesT ⟨_, rfl, _, rfl, a, c, sh, l, rfl, hsh.same s1, hF, s1 _ _ hcl, Nat.le_trans (all_len12 hF hmem) (by decide), all_lt hF hmem, fun H2 s2 => ?_⟩⟩
        rw [long_is sh (all_nodup hF hmem)]
        refine ⟨_, s2 _ _ h1, ?_, same_write (s1.trans s2) hD, ?_⟩
        · rw [nv_len, List.length_take]
          exact line_le (by omega)
        · show (upd _ D _) D = _
          have hg : LL[i]? = some (Uw74.long sh l) := by rw [← hLL, List.getElem?_map, hli]; rfl
          rw [upd_same, take_snoc hg, nv_app]
          rfl
      rintro H1 ⟨s1, h1⟩
      rw [List.length_map, lenAs, ← hLn, List.take_length] at h1
      refine ⟨_, rfl, a, C, dx, fs, _, rfl, s1 _ _ R.at_, S.cl, S.n _ (by decide +kernel), R.laced, _, rfl, _, rfl, D, LL.map (fun (n : Nat) => (n : Int)), rfl, by rw [← nvI]; exact h1.seq, by rw [List.length_map]; omega, fun mz hm hle => ?_⟩
      obtain ⟨m, hmL, rfl⟩ := mem_cast hm
      have hmin : ∀ y ∈ LL, m ≤ y := fun y hy => by
        have := hle (y : Int) (List.mem_map.mpr ⟨y, hy, rfl⟩)
        omega
      refine ⟨la, D, Uw74.all sh, LL, m, rfl, R.laL.same s1, h1, hLn, hmL, fun l hl => all_len12 hF hl, fun H2 r j l s2 hl hj hno hr1 => ?_⟩
      subst hLL
      rw [least_told hmin hl hj hno] at k
      have s12 := s1.trans s2
      exact k _ r (Same.keeps s12 a) (hsh.same s12) hr1.il
end
end Lc

set_option Elab.async false
set_option linter.all false
set_option maxRecDepth 100000
set_option maxHeartbeats 4000000
namespace Lc
open PySem PySem.Spec PyProof.Rows L2
abbrev sAnsMost : Stmt := top 49
abbrev sAnsFlattest : Stmt := top 50
abbrev sAnsEven : Stmt := top 51
abbrev sAnsWhich : Stmt := top 52
abbrev sAnsMirror : Stmt := top 53
theorem step_most (s : Uw74.Shoe) (c : Nat) : Uw74.step s (.most c) = (s, Uw74.told (Uw74.greatest Uw74.pulls ((Uw74.all s).filter fun l => decide (Uw74.long s l ≤ c)))) := rfl
theorem step_flattest (s : Uw74.Shoe) : Uw74.step s .flattest = (s, Uw74.told (Uw74.least Uw74.crossings (Uw74.all s))) := rfl
theorem step_even (s : Uw74.Shoe) : Uw74.step s .even = (s, ((((Uw74.all s).filter Uw74.isEven).length : Nat) : Int) :: Uw74.ints (((Uw74.all s).filter Uw74.isEven).headD [])) := rfl
theorem step_which_no {s : Uw74.Shoe} {k : Nat} (h : (Uw74.all s)[k]? = none) : Uw74.step s (.which k) = (s, [-3]) := by
  show (s, match (Uw74.all s)[k]? with | none => [-3] | some l => 0 :: Uw74.ints l) = _
  rw [h]
theorem step_which_yes {s : Uw74.Shoe} {k : Nat} {l : List Nat} (h : (Uw74.all s)[k]? = some l) : Uw74.step s (.which k) = (s, 0 :: Uw74.ints l) := by
  show (s, match (Uw74.all s)[k]? with | none => [-3] | some l => 0 :: Uw74.ints l) = _
  rw [h]
theorem step_mirror (s : Uw74.Shoe) (l : List Nat) : Uw74.step s (.mirror l) = (s, if Uw74.isLacing s l = false then [-1] else 0 :: Uw74.ints (Uw74.mirror l)) := rfl
theorem sieve_yes {α : Type} {w : List α} {i : Nat} {e : α} {p : α → Bool} (h : w[i]? = some e) (hp : p e = true) : (w.take (i + 1)).filter p = (w.take i).filter p ++ [e] := by
  rw [take_snoc h, List.filter_append, List.filter_cons_of_pos hp]
  rfl
theorem sieve_no {α : Type} {w : List α} {i : Nat} {e : α} {p : α → Bool} (h : w[i]? = some e) (hp : p e = false) : (w.take (i + 1)).filter p = (w.take i).filter p := by
  rw [take_snoc h, List.filter_append, List.filter_cons_of_neg (by rw [hp]; decide), List.filter_nil, List.append_nil]
/-- some of the rows, picked into a new list -/
def Sv (H H' : Hp) (D : Addr) (ls : List (List Nat)) : Prop := Same H H' ∧ ∃ bs : List Addr, H' D = some (.lst (bs.map V.ref)) ∧ Paired (NL H) bs ls
theorem Sv.new {H : Hp} {D : Addr} (hD : H D = none) : Sv H (upd H D (.lst [])) D [] := ⟨same_new (Same.refl H) hD, [], upd_same, .nil⟩
theorem Sv.ll {H H' : Hp} {D : Addr} {ls : List (List Nat)} (h : Sv H H' D ls) : LL H' D ls := by
  obtain ⟨s, bs, h1, h2⟩ := h
  exact ⟨bs, h1, paired_mono (fun _ _ x => x.same s) h2⟩
theorem Sv.yes {H H1 : Hp} {D c : Addr} {w : List (List Nat)} {i : Nat} {l : List Nat} {p : List Nat → Bool} (hD : H D = none) (hs : Same H H1) {bs : List Addr} (h1 : H1 D = some (.lst (bs.map V.ref))) (h2 : Paired (NL H) bs ((w.take i).filter p)) (hw : w[i]? = some l) (hp : p l = true) (hc : NL H c l) (hz : w.length ≤ 46656) :
    ∃ acc, H1 D = some (.lst acc) ∧ acc.length < sizeLine ∧ Sv H (upd H1 D (.lst (acc ++ [V.ref c]))) D ((w.take (i + 1)).filter p) := by
  refine ⟨_, h1, ?_, same_write hs hD, bs ++ [c], ?_, ?_⟩
  · rw [List.length_map, paired_len h2]
    have e1 := List.length_filter_le p (w.take i)
    rw [List.length_take] at e1
    exact line_le (by omega)
  · rw [upd_same, List.map_append]
    rfl
  · rw [sieve_yes hw hp]
    exact paired_snoc hc h2
theorem Sv.no {H H1 H2 : Hp} {D : Addr} {w : List (List Nat)} {i : Nat} {l : List Nat} {p : List Nat → Bool} (h : Sv H H1 D ((w.take i).filter p)) (s2 : Same H1 H2) (hw : w[i]? = some l) (hp : p l = false) : Sv H H2 D ((w.take (i + 1)).filter p) := by
  obtain ⟨s, bs, h1, h2⟩ := h
  rw [sieve_no hw hp]
  exact ⟨s.trans s2, bs, s2 _ _ h1, h2⟩
section
variable {P : Program} {w : World} {K : PySem.W.Frag} {mg : Str → Option Value} {base : Heap} {C : Addr}
/-! answer_most -/
def spAnsMost (C : Addr) : Sp := fun vs H Q _ => ∃ (a : Addr) (s : Uw74.Shoe) (e : Nat), vs = [V.ref a, V.int (e : Int)] ∧ ShoeAt C H a s ∧ Fit s ∧ Ans C H a s (.most e) Q
theorem scAnsMost : FnScope ["shoe", "length", "short", "pulls", "lacing"] ["shoe", "length"] (defScope sAnsMost) := ⟨rfl, rfl, rfl, by decide +kernel, rfl, by decide +kernel, by decide +kernel⟩
theorem ok_ansMost {f : Addr} {fd : FuncData} (F : Fun K "answer_most" "answer_most" sAnsMost f fd) (T : Glo mg) (U : Refuse mg) (S : SCls K C) (DL : Def P w K mg base "lacing_length" 3 ["shoe", "lacing"] (spLength C))
    (DP : Def P w K mg base "pull_count" 3 ["lacing"] spPull) (DB : Def P w K mg base "best_and_first" 1 ["lacings", "marks", "best"] spBest) : FnOk P w K mg base CX0 4 f fd ["shoe", "length"] (spAnsMost C) := by
  refine F.ok scAnsMost (fun vs H Q E h => ?_) (fun cdv A outer s H vs Q E hr h => ?_)
  · obtain ⟨a, sh, e, rfl, _⟩ := h
    rfl
  · obtain ⟨a, sh, e, rfl, hsh, hF, k⟩ := h
    obtain ⟨t1, hU⟩ := U.none_
    refine ⟨_, pss_cons (ps_setLc (i := 2) (own := [("lacing", 4)]) rfl scAnsMost.nd rfl rfl (sw_true rfl rfl rfl rfl) (pi_list (pe_fld (pv 0) rfl)) (blkOk_by (by kernel_rfl)) (fun _ _ _ _ _ => pg_name (i := 4) scAnsMost.nd rfl (Or.inl rfl))
        (fun _ _ _ _ _ => pts_one (pt_cmpR op_le (pe_def DL hr rfl (pa_cons (pv 0) (pa_cons (pv 4) pa_nil))) (pv 1) (nomark _))) (fun _ _ _ _ _ => pv 4))
      (pss_cons (ps_if (pt_cmpR op_eq (pe_callB call_len_seq rfl T.len PySem.boot_len (pa_cons (pv 2) pa_nil)) pe_int (nomark _)) (pss_one (ps_ret (pe_lst (pa_cons (pe_gi rfl hU) pa_nil)))) pss_nil)
      (pss_cons (ps_setLc (i := 3) (own := [("lacing", 4)]) rfl scAnsMost.nd rfl rfl (sw_true rfl rfl rfl rfl) (pi_list (pv 2)) (blkOk_by (by kernel_rfl)) (fun _ _ _ _ _ => pg_name (i := 4) scAnsMost.nd rfl (Or.inl rfl)) (fun _ _ _ _ _ => pts_nil)
        (fun _ _ _ _ _ => pe_def DP hr rfl (pa_cons (pv 4) pa_nil)))
      (pss_one (ps_ret (pe_def DB (hr.mono (by decide)) rfl (pa_cons (pv 2) (pa_cons (pv 3) (pa_cons (pe_callB (cr_max rfl) rfl T.max PyProof.Rows.boot_max (pa_cons (pv 3) pa_nil)) pa_nil)))))))), ?_⟩
    unfold Ans at k
    rw [step_most] at k
    obtain ⟨dx, fs, ac, al, wh, la, R⟩ := id hsh
    obtain ⟨as, ha1, ha2⟩ := id R.laL
    have lenAs := paired_len ha2
    have hal := all_len hF
    refine ⟨_, rfl, a, C, dx, fs, _, rfl, R.at_, S.cl, S.n _ (by decide +kernel), R.laced, la, rfl, ⟨_, SqL.of ha1⟩, fun D hD => ?_⟩
    refine lc_list (K := K) (a := la) (xs := as.map V.ref) (fun i H' => Sv H H' D (((Uw74.all sh).take i).filter fun l => decide (Uw74.long sh l ≤ e))) (Sv.new hD) (fun i H' _ h => SqL.of (h.1 _ _ ha1)) ?_ ?_
    · rintro i x H1 hi M
      have s1 := M.1
      obtain ⟨c, hci, rfl⟩ := ref_at hi
      obtain ⟨l, hli, hcl⟩ := paired_at ha2 hci
      have hmem := List.mem_of_getElem? hli
      refine ⟨rfl, _, rfl, _, rfl, a, c, sh, l, rfl, hsh.same s1, hF, s1 _ _ hcl, Nat.le_trans (all_len12 hF hmem) (by decide), all_lt hF hmem, fun H2 s2 => ?_⟩
      rw [long_is sh (all_nodup hF hmem)]
      refine ⟨_, rfl, _, _, rfl, rfl, _, rfl, ?_⟩
      have ed : decide (((Uw74.long sh l : Nat) : Int) ≤ (e : Int)) = decide (Uw74.long sh l ≤ e) := by
        rw [Bool.eq_iff_iff, decide_eq_true_iff, decide_eq_true_iff]
        omega
      rw [ed]
      cases hc : decide (Uw74.long sh l ≤ e) with
      | true =>
        obtain ⟨_, bs, h1, h2⟩ := M
        exact iteT ⟨_, rfl, Sv.yes hD (s1.trans s2) (s2 _ _ h1) h2 hli hc hcl hal⟩
      | false => exact iteF (M.no s2 hli hc)
    rintro H1 M
    rw [List.length_map, lenAs, List.take_length] at M
    have s1 := M.1
    have hsub : ∀ l ∈ (Uw74.all sh).filter (fun l => decide (Uw74.long sh l ≤ e)), l ∈ Uw74.all sh := fun l hl => (List.mem_filter.mp hl).1
    have hfl := List.length_filter_le (fun l => decide (Uw74.long sh l ≤ e)) (Uw74.all sh)
    have ML := M.ll
    generalize (Uw74.all sh).filter (fun l => decide (Uw74.long sh l ≤ e)) = G at k M ML hsub hfl
    obtain ⟨bs, hb1, hb2⟩ := id ML
    have lenBs := paired_len hb2
    refine ⟨_, rfl, D, _, rfl, .inl (SqL.of hb1), rfl, _, rfl, ?_⟩
    by_cases h0 : G = []
    · have e0 : decide (V.int (((bs.map V.ref).length : Nat) : Int) = V.int 0) = true := decide_eq_true (by rw [List.length_map, lenBs, h0]; rfl)
      rw [e0]
      rw [h0] at k
      refine iteT ⟨(by show 1 ≤ sizeLine; decide), fun r hr1 => ?_⟩
      exact k _ r (Same.keeps (same_new s1 hr1) a) (hsh.same (same_new s1 hr1)) upd_same
    · have hpos : 0 < G.length := List.length_pos_iff.mpr h0
      have e0 : decide (V.int (((bs.map V.ref).length : Nat) : Int) = V.int 0) = false := decide_eq_false (by
        rw [List.length_map, lenBs]
        intro z
        injection z with z
        omega)
      rw [e0]
      refine iteF ?_
      refine ⟨_, rfl, D, rfl, ⟨_, SqL.of hb1⟩, fun D2 hD2 => ?_⟩
      generalize hLL : G.map Uw74.pulls = LL
      have hLn : LL.length = G.length := by rw [← hLL, List.length_map]
      refine lc_list (K := K) (a := D) (xs := bs.map V.ref) (fun i H' => Same H1 H' ∧ NL H' D2 (LL.take i)) ⟨same_new (Same.refl H1) hD2, upd_same⟩ (fun i H' _ h => SqL.of (h.1 _ _ hb1)) ?_ ?_
      · rintro i x H2 hi ⟨s2, h1⟩
        obtain ⟨c, hci, rfl⟩ := ref_at hi
        obtain ⟨l, hli, hcl⟩ := paired_at hb2 hci
        have hmem := hsub l (List.mem_of_getElem? hli)
        refine ⟨rfl, yesT ⟨_, rfl, c, l, rfl, s2 _ _ hcl, Nat.le_trans (all_len12 hF hmem) (by decide), fun H3 s3 => ?_⟩⟩
        refine ⟨_, s3 _ _ h1, ?_, same_write (s2.trans s3) hD2, ?_⟩
        · rw [nv_len, List.length_take]
          exact line_le (by omega)
        · show (upd _ D2 _) D2 = _
          have hg : LL[i]? = some (Uw74.pulls l) := by rw [← hLL, List.getElem?_map, hli]; rfl
          rw [upd_same, take_snoc hg, nv_app]
          rfl
      rintro H2 ⟨s2, h1⟩
      rw [List.length_map, lenBs, ← hLn, List.take_length] at h1
      refine ⟨_, rfl, _, rfl, _, rfl, D2, LL.map (fun (n : Nat) => (n : Int)), rfl, by rw [← nvI]; exact h1.seq, by rw [List.length_map]; omega, fun mz hm hle => ?_⟩
      obtain ⟨m, hmL, rfl⟩ := mem_cast hm
      have hmax : ∀ y ∈ LL, y ≤ m := fun y hy => by
        have := hle (y : Int) (List.mem_map.mpr ⟨y, hy, rfl⟩)
        omega
      refine ⟨D, D2, G, LL, m, rfl, ML.same s2, h1, hLn, hmL, fun l hl => all_len12 hF (hsub l hl), fun H3 r j l s3 hl hj hno hr1 => ?_⟩
      subst hLL
      rw [greatest_told hmax hl hj hno] at k
      have s13 := (s1.trans s2).trans s3
      exact k _ r (Same.keeps s13 a) (hsh.same s13) hr1.il
/-! answer_flattest -/
def spAnsFlattest (C : Addr) : Sp := fun vs H Q _ => ∃ (a : Addr) (s : Uw74.Shoe), vs = [V.ref a] ∧ ShoeAt C H a s ∧ Fit s ∧ Ans C H a s .flattest Q
theorem scAnsFlattest : FnScope ["shoe", "crossings", "lacing"] ["shoe"] (defScope sAnsFlattest) := ⟨rfl, rfl, rfl, by decide +kernel, rfl, by decide +kernel, by decide +kernel⟩
theorem ok_ansFlattest {f : Addr} {fd : FuncData} (F : Fun K "answer_flattest" "answer_flattest" sAnsFlattest f fd) (T : Glo mg) (U : Refuse mg) (S : SCls K C) (DC : Def P w K mg base "crossing_count" 3 ["lacing"] spCrossing)
    (DB : Def P w K mg base "best_and_first" 1 ["lacings", "marks", "best"] spBest) : FnOk P w K mg base CX0 4 f fd ["shoe"] (spAnsFlattest C) := by
  refine F.ok scAnsFlattest (fun vs H Q E h => ?_) (fun cdv A outer s H vs Q E hr h => ?_)
  · obtain ⟨a, sh, rfl, _⟩ := h
    rfl
  · obtain ⟨a, sh, rfl, hsh, hF, k⟩ := h
    obtain ⟨t1, hU⟩ := U.none_
    refine ⟨_, pss_cons (ps_if (pt_cmpR op_eq (pe_callB call_len_seq rfl T.len PySem.boot_len (pa_cons (pe_fld (pv 0) rfl) pa_nil)) pe_int (nomark _)) (pss_one (ps_ret (pe_lst (pa_cons (pe_gi rfl hU) pa_nil)))) pss_nil)
      (pss_cons (ps_setLc (i := 1) (own := [("lacing", 2)]) rfl scAnsFlattest.nd rfl rfl (sw_true rfl rfl rfl rfl) (pi_list (pe_fld (pv 0) rfl)) (blkOk_by (by kernel_rfl)) (fun _ _ _ _ _ => pg_name (i := 2) scAnsFlattest.nd rfl (Or.inl rfl)) (fun _ _ _ _ _ => pts_nil)
        (fun _ _ _ _ _ => pe_def DC hr rfl (pa_cons (pv 2) pa_nil)))
      (pss_one (ps_ret (pe_def DB (hr.mono (by decide)) rfl (pa_cons (pe_fld (pv 0) rfl) (pa_cons (pv 1) (pa_cons (pe_callB (cr_min rfl) rfl T.min PyProof.Rows.boot_min (pa_cons (pv 1) pa_nil)) pa_nil))))))), ?_⟩
    unfold Ans at k
    rw [step_flattest] at k
    obtain ⟨dx, fs, ac, al, wh, la, R⟩ := id hsh
    obtain ⟨as, ha1, ha2⟩ := id R.laL
    have lenAs := paired_len ha2
    refine ⟨_, rfl, a, C, dx, fs, _, rfl, R.at_, S.cl, S.n _ (by decide +kernel), R.laced, la, _, rfl, .inl (SqL.of ha1), rfl, _, rfl, ?_⟩
    by_cases h0 : Uw74.all sh = []
    · have e0 : decide (V.int (((as.map V.ref).length : Nat) : Int) = V.int 0) = true := decide_eq_true (by rw [List.length_map, lenAs, h0]; rfl)
      rw [e0]
      rw [h0] at k
      refine iteT ⟨(by show 1 ≤ sizeLine; decide), fun r hr1 => ?_⟩
      exact k _ r (Same.keeps (same_new (Same.refl H) hr1) a) (hsh.same (same_new (Same.refl H) hr1)) upd_same
    · have hpos : 0 < (Uw74.all sh).length := List.length_pos_iff.mpr h0
      have e0 : decide (V.int (((as.map V.ref).length : Nat) : Int) = V.int 0) = false := decide_eq_false (by
        rw [List.length_map, lenAs]
        intro z
        injection z with z
        omega)
      rw [e0]
      refine iteF ?_
      refine ⟨_, rfl, a, C, dx, fs, _, rfl, R.at_, S.cl, S.n _ (by decide +kernel), R.laced, la, rfl, ⟨_, SqL.of ha1⟩, fun D hD => ?_⟩
      have hal := all_len hF
      generalize hLL : (Uw74.all sh).map Uw74.crossings = LL
      have hLn : LL.length = (Uw74.all sh).length := by rw [← hLL, List.length_map]
      refine lc_list (K := K) (a := la) (xs := as.map V.ref) (fun i H' => Same H H' ∧ NL H' D (LL.take i)) ⟨same_new (Same.refl H) hD, upd_same⟩ (fun i H' _ h => SqL.of (h.1 _ _ ha1)) ?_ ?_
      · rintro i x H1 hi ⟨s1, h1⟩
        obtain ⟨c, hci, rfl⟩ := ref_at hi
        obtain ⟨l, hli, hcl⟩ := paired_at ha2 hci
        have hmem := List.mem_of_getElem? hli
        refine ⟨rfl, yesT ⟨_, rfl, c, l, rfl, s1 _ _ hcl, Nat.le_trans (all_len12 hF hmem) (by decide), fun H2 s2 => ?_⟩⟩
        refine ⟨_, s2 _ _ h1, ?_, same_write (s1.trans s2) hD, ?_⟩
        · rw [nv_len, List.length_take]
          exact line_le (by omega)
        · show (upd _ D _) D = _
          have hg : LL[i]? = some (Uw74.crossings l) := by rw [← hLL, List.getElem?_map, hli]; rfl
          rw [upd_same, take_snoc hg, nv_app]
          rfl
      rintro H1 ⟨s1, h1⟩
      rw [List.length_map, lenAs, ← hLn, List.take_length] at h1
      refine ⟨_, rfl, a, C, dx, fs, _, rfl, s1 _ _ R.at_, S.cl, S.n _ (by decide +kernel), R.laced, _, rfl, _, rfl, D, LL.map (fun (n : Nat) => (n : Int)), rfl, by rw [← nvI]; exact h1.seq, by rw [List.length_map]; omega, fun mz hm hle => ?_⟩
      obtain ⟨m, hmL, rfl⟩ := mem_cast hm
      have hmin : ∀ y ∈ LL, m ≤ y := fun y hy => by
        have := hle (y : Int) (List.mem_map.mpr ⟨y, hy, rfl⟩)
        omega
      refine ⟨la, D, Uw74.all sh, LL, m, rfl, R.laL.same s1, h1, hLn, hmL, fun l hl => all_len12 hF hl, fun H2 r j l s2 hl hj hno hr1 => ?_⟩
      subst hLL
      rw [least_told hmin hl hj hno] at k
      have s12 := s1.trans s2
      exact k _ r (Same.keeps s12 a) (hsh.same s12) hr1.il
/-! answer_even -/
def spAnsEven (C : Addr) : Sp := fun vs H Q _ => ∃ (a : Addr) (s : Uw74.Shoe), vs = [V.ref a] ∧ ShoeAt C H a s ∧ Fit s ∧ Ans C H a s .even Q
theorem scAnsEven : FnScope ["shoe", "even", "lacing"] ["shoe"] (defScope sAnsEven) := ⟨rfl, rfl, rfl, by decide +kernel, rfl, by decide +kernel, by decide +kernel⟩
theorem ok_ansEven {f : Addr} {fd : FuncData} (F : Fun K "answer_even" "answer_even" sAnsEven f fd) (T : Glo mg) (S : SCls K C) (DE : Def P w K mg base "is_even" 3 ["lacing"] spEven) : FnOk P w K mg base CX0 4 f fd ["shoe"] (spAnsEven C) := by
  refine F.ok scAnsEven (fun vs H Q E h => ?_) (fun cdv A outer s H vs Q E hr h => ?_)
  · obtain ⟨a, sh, rfl, _⟩ := h
    rfl
  · obtain ⟨a, sh, rfl, hsh, hF, k⟩ := h
    refine ⟨_, pss_cons (ps_setLc (i := 1) (own := [("lacing", 2)]) rfl scAnsEven.nd rfl rfl (sw_true rfl rfl rfl rfl) (pi_list (pe_fld (pv 0) rfl)) (blkOk_by (by kernel_rfl)) (fun _ _ _ _ _ => pg_name (i := 2) scAnsEven.nd rfl (Or.inl rfl))
        (fun _ _ _ _ _ => pts_one (pt_val (pe_def DE hr rfl (pa_cons (pv 2) pa_nil)))) (fun _ _ _ _ _ => pv 2))
      (pss_cons (ps_if (pt_cmpR op_eq (pe_callB call_len_seq rfl T.len PySem.boot_len (pa_cons (pv 1) pa_nil)) pe_int (nomark _)) (pss_one (ps_ret (pe_lst (pa_cons pe_int pa_nil)))) pss_nil)
      (pss_one (ps_ret (pe_op op_cat (pe_lst (pa_cons (pe_callB call_len_seq rfl T.len PySem.boot_len (pa_cons (pv 1) pa_nil)) pa_nil)) (pe_ix ix_list (pv 1) pe_int (fun _ _ => rfl)))))), ?_⟩
    unfold Ans at k
    rw [step_even] at k
    obtain ⟨dx, fs, ac, al, wh, la, R⟩ := id hsh
    obtain ⟨as, ha1, ha2⟩ := id R.laL
    have lenAs := paired_len ha2
    have hal := all_len hF
    refine ⟨_, rfl, a, C, dx, fs, _, rfl, R.at_, S.cl, S.n _ (by decide +kernel), R.laced, la, rfl, ⟨_, SqL.of ha1⟩, fun D hD => ?_⟩
    refine lc_list (K := K) (a := la) (xs := as.map V.ref) (fun i H' => Sv H H' D (((Uw74.all sh).take i).filter Uw74.isEven)) (Sv.new hD) (fun i H' _ h => SqL.of (h.1 _ _ ha1)) ?_ ?_
    · rintro i x H1 hi M
      have s1 := M.1
      obtain ⟨c, hci, rfl⟩ := ref_at hi
      obtain ⟨l, hli, hcl⟩ := paired_at ha2 hci
      have hmem := List.mem_of_getElem? hli
      refine ⟨rfl, _, rfl, c, l, rfl, s1 _ _ hcl, Nat.le_trans (all_len12 hF hmem) (by decide), fun H2 s2 => ⟨_, rfl, ?_⟩⟩
      cases hc : Uw74.isEven l with
      | true =>
        obtain ⟨_, bs, h1, h2⟩ := M
        exact iteT ⟨_, rfl, Sv.yes hD (s1.trans s2) (s2 _ _ h1) h2 hli hc hcl hal⟩
      | false => exact iteF (M.no s2 hli hc)
    rintro H1 M
    rw [List.length_map, lenAs, List.take_length] at M
    have s1 := M.1
    have hsub : ∀ l ∈ (Uw74.all sh).filter Uw74.isEven, l ∈ Uw74.all sh := fun l hl => (List.mem_filter.mp hl).1
    have ML := M.ll
    generalize (Uw74.all sh).filter Uw74.isEven = G at k M ML hsub
    obtain ⟨bs, hb1, hb2⟩ := id ML
    have lenBs := paired_len hb2
    refine ⟨_, rfl, D, _, rfl, .inl (SqL.of hb1), rfl, _, rfl, ?_⟩
    cases hG : G with
    | nil =>
      subst hG
      have e0 : decide (V.int (((bs.map V.ref).length : Nat) : Int) = V.int 0) = true := decide_eq_true (by rw [List.length_map, lenBs]; rfl)
      rw [e0]
      refine iteT ⟨(by show 1 ≤ sizeLine; decide), fun r hr1 => ?_⟩
      exact k _ r (Same.keeps (same_new s1 hr1) a) (hsh.same (same_new s1 hr1)) upd_same
    | cons g G' =>
      subst hG
      have e0 : decide (V.int (((bs.map V.ref).length : Nat) : Int) = V.int 0) = false := decide_eq_false (by
        rw [List.length_map, lenBs, List.length_cons]
        intro z
        injection z with z
        omega)
      rw [e0]
      refine iteF ?_
      refine ⟨_, rfl, D, _, rfl, .inl (SqL.of hb1), (by show 1 ≤ sizeLine; decide), fun q hq => ?_⟩
      have s2 : Same H1 (upd H1 q (.lst [V.int (((bs.map V.ref).length : Nat) : Int)])) := same_new (Same.refl H1) hq
      have hq2 : (upd H1 q (.lst [V.int (((bs.map V.ref).length : Nat) : Int)])) q = some (.lst [V.int (((bs.map V.ref).length : Nat) : Int)]) := upd_same
      generalize upd H1 q (.lst [V.int (((bs.map V.ref).length : Nat) : Int)]) = H2 at s2 hq2
      obtain ⟨c, hc0, hcg⟩ := paired_at' (i := 0) hb2 rfl
      have hg8 := all_len12 hF (hsub g List.mem_cons_self)
      refine ⟨_, rfl, D, _, _, _, rfl, rfl, SqL.of (s2 _ _ hb1), at_of (j := 0) rfl (show (bs.map V.ref)[0]? = some (V.ref c) by rw [List.getElem?_map, hc0]; rfl), ?_⟩
      refine ⟨q, c, _, _, rfl, rfl, hq2, s2 _ _ hcg, ?_, fun r hr1 => ?_⟩
      · rw [nv_len]
        exact Nat.le_of_lt (line_le (by show 1 + g.length ≤ _; omega))
      · have s3 := same_new (o := .lst ([V.int (((bs.map V.ref).length : Nat) : Int)] ++ nv g)) (s1.trans s2) hr1
        refine k _ r (Same.keeps s3 a) (hsh.same s3) ?_
        show (upd _ r _) r = _
        rw [upd_same, List.length_map, lenBs, nvI]
        rfl
/-! answer_which -/
def spAnsWhich (C : Addr) : Sp := fun vs H Q _ => ∃ (a : Addr) (s : Uw74.Shoe) (e : Nat), vs = [V.ref a, V.int (e : Int)] ∧ ShoeAt C H a s ∧ Fit s ∧ Ans C H a s (.which e) Q
theorem scAnsWhich : FnScope ["shoe", "k"] ["shoe", "k"] (defScope sAnsWhich) := ⟨rfl, rfl, rfl, by decide +kernel, rfl, by decide +kernel, by decide +kernel⟩
theorem ok_ansWhich {f : Addr} {fd : FuncData} (F : Fun K "answer_which" "answer_which" sAnsWhich f fd) (T : Glo mg) (U : Refuse mg) (S : SCls K C) : FnOk P w K mg base CX0 1 f fd ["shoe", "k"] (spAnsWhich C) := by
  refine F.ok scAnsWhich (fun vs H Q E h => ?_) (fun cdv A outer s H vs Q E hr h => ?_)
  · obtain ⟨a, sh, e, rfl, _⟩ := h
    rfl
  · obtain ⟨a, sh, e, rfl, hsh, hF, k⟩ := h
    obtain ⟨t1, hU⟩ := U.place
    refine ⟨_, pss_cons (ps_if (pt_cmpR op_ge (pv 1) (pe_callB call_len_seq rfl T.len PySem.boot_len (pa_cons (pe_fld (pv 0) rfl) pa_nil)) (nomark _)) (pss_one (ps_ret (pe_lst (pa_cons (pe_gi rfl hU) pa_nil)))) pss_nil)
      (pss_one (ps_ret (pe_op op_cat (pe_lst (pa_cons pe_int pa_nil)) (pe_ix ix_list (pe_fld (pv 0) rfl) (pv 1) (fun _ _ => rfl))))), ?_⟩
    unfold Ans at k
    obtain ⟨dx, fs, ac, al, wh, la, R⟩ := id hsh
    obtain ⟨as, ha1, ha2⟩ := id R.laL
    have lenAs := paired_len ha2
    refine ⟨_, rfl, _, rfl, a, C, dx, fs, _, rfl, R.at_, S.cl, S.n _ (by decide +kernel), R.laced, la, _, rfl, .inl (SqL.of ha1), _, _, rfl, rfl, _, rfl, ?_⟩
    cases hk : (Uw74.all sh)[e]? with
    | none =>
      rw [step_which_no hk] at k
      have hle := List.getElem?_eq_none_iff.mp hk
      have e0 : decide ((((as.map V.ref).length : Nat) : Int) ≤ (e : Int)) = true := decide_eq_true (by rw [List.length_map, lenAs]; omega)
      rw [e0]
      refine iteT ⟨(by show 1 ≤ sizeLine; decide), fun r hr1 => ?_⟩
      exact k _ r (Same.keeps (same_new (Same.refl H) hr1) a) (hsh.same (same_new (Same.refl H) hr1)) upd_same
    | some l =>
      rw [step_which_yes hk] at k
      have hlt := (List.getElem?_eq_some_iff.mp hk).1
      have e0 : decide ((((as.map V.ref).length : Nat) : Int) ≤ (e : Int)) = false := decide_eq_false (by rw [List.length_map, lenAs]; omega)
      rw [e0]
      refine iteF ?_
      refine ⟨(by show 1 ≤ sizeLine; decide), fun q hq => ?_⟩
      have s2 : Same H (upd H q (.lst [V.int 0])) := same_new (Same.refl H) hq
      have hq2 : (upd H q (.lst [V.int 0])) q = some (.lst [V.int 0]) := upd_same
      generalize upd H q (.lst [V.int 0]) = H2 at s2 hq2
      obtain ⟨c, hc0, hcl⟩ := paired_at' ha2 hk
      have hl8 := all_len12 hF (List.mem_of_getElem? hk)
      refine ⟨_, rfl, a, C, dx, fs, _, rfl, s2 _ _ R.at_, S.cl, S.n _ (by decide +kernel), R.laced, _, rfl, la, _, _, _, rfl, rfl, SqL.of (s2 _ _ ha1), at_of (j := e) rfl (show (as.map V.ref)[e]? = some (V.ref c) by rw [List.getElem?_map, hc0]; rfl), ?_⟩
      refine ⟨q, c, _, _, rfl, rfl, hq2, s2 _ _ hcl, ?_, fun r hr1 => ?_⟩
      · rw [nv_len]
        exact Nat.le_of_lt (line_le (by show 1 + l.length ≤ _; omega))
      · have s3 := same_new (o := .lst ([V.int 0] ++ nv l)) s2 hr1
        refine k _ r (Same.keeps s3 a) (hsh.same s3) ?_
        show (upd _ r _) r = _
        rw [upd_same, nvI]
        rfl
/-! answer_mirror -/
def spAnsMirror (C : Addr) : Sp := fun vs H Q _ => ∃ (a r : Addr) (s : Uw74.Shoe) (row : List Nat), vs = [V.ref a, V.ref r] ∧ ShoeAt C H a s ∧ Fit s ∧ NL H r row ∧ row.length ≤ 12 ∧ Ans C H a s (.mirror row) Q
theorem scAnsMirror : FnScope ["shoe", "row"] ["shoe", "row"] (defScope sAnsMirror) := ⟨rfl, rfl, rfl, by decide +kernel, rfl, by decide +kernel, by decide +kernel⟩
theorem ok_ansMirror {f : Addr} {fd : FuncData} (F : Fun K "answer_mirror" "answer_mirror" sAnsMirror f fd) (U : Refuse mg) (DI : Def P w K mg base "is_lacing" 3 ["shoe", "row"] (spIsLacing C)) (DM : Def P w K mg base "in_mirror" 2 ["lacing"] spMirror) : FnOk P w K mg base CX0 4 f fd ["shoe", "row"] (spAnsMirror C) := by
  refine F.ok scAnsMirror (fun vs H Q E h => ?_) (fun cdv A outer s H vs Q E hr h => ?_)
  · obtain ⟨a, r, sh, row, rfl, _⟩ := h
    rfl
  · obtain ⟨a, r, sh, row, rfl, hsh, hF, hr0, h12, k⟩ := h
    obtain ⟨t1, hU⟩ := U.lacing
    have hr2 : Room 2 _ := hr.mono (by decide)
    refine ⟨_, pss_cons (ps_if (pt_not (pt_val (pe_def DI hr rfl (pa_cons (pv 0) (pa_cons (pv 1) pa_nil))))) (pss_one (ps_ret (pe_lst (pa_cons (pe_gi rfl hU) pa_nil)))) pss_nil)
      (pss_one (ps_ret (pe_op op_cat (pe_lst (pa_cons pe_int pa_nil)) (pe_def DM hr2 rfl (pa_cons (pv 1) pa_nil))))), ?_⟩
    unfold Ans at k
    rw [step_mirror] at k
    refine ⟨_, rfl, _, rfl, a, r, sh, row, rfl, hsh, hF, hr0, h12, fun H1 s1 => ⟨_, rfl, ?_⟩⟩
    cases hc : Uw74.isLacing sh row with
    | false =>
      rw [if_pos hc] at k
      refine iteT ⟨(by show 1 ≤ sizeLine; decide), fun q hq => ?_⟩
      have s2 : Same H (upd H1 q (.lst [V.int (-1)])) := same_new s1 hq
      exact k _ q (Same.keeps s2 a) (hsh.same s2) upd_same
    | true =>
      rw [if_neg (by rw [hc]; decide)] at k
      refine iteF ?_
      refine ⟨(by show 1 ≤ sizeLine; decide), fun q hq => ?_⟩
      have s2 : Same H1 (upd H1 q (.lst [V.int 0])) := same_new (Same.refl H1) hq
      have hq2 : (upd H1 q (.lst [V.int 0])) q = some (.lst [V.int 0]) := upd_same
      generalize upd H1 q (.lst [V.int 0]) = H2 at s2 hq2
      have s12 := s1.trans s2
      refine ⟨_, rfl, r, row, rfl, hr0.same s12, by omega, fun H3 m s3 hm => ?_⟩
      have hml : (Uw74.mirror row).length ≤ 12 := by unfold Uw74.mirror; rw [List.length_map, List.length_reverse]; exact h12
      refine ⟨q, m, _, _, rfl, rfl, s3 _ _ hq2, hm, ?_, fun t ht => ?_⟩
      · rw [nv_len]
        exact Nat.le_of_lt (line_le (by show 1 + (Uw74.mirror row).length ≤ _; omega))
      · have s4 := same_new (o := .lst ([V.int 0] ++ nv (Uw74.mirror row))) (s12.trans s3) ht
        refine k _ t (Same.keeps s4 a) (hsh.same s4) ?_
        show (upd _ t _) t = _
        rw [upd_same, nvI]
        rfl
end
end Lc

set_option Elab.async false
set_option linter.all false
set_option maxRecDepth 100000
set_option maxHeartbeats 4000000
namespace Lc
open PySem PySem.Spec PyProof.Rows L2
abbrev sAnsCall : Stmt := top 54
structure Nums (mg : Str → Option Value) : Prop where
  shoe : ∃ t, mg "SHOE" = some (.int 0 t)
  tear : ∃ t, mg "TEAR" = some (.int 1 t)
  mend : ∃ t, mg "MEND" = some (.int 2 t)
  is : ∃ t, mg "IS" = some (.int 3 t)
  look : ∃ t, mg "LOOK" = some (.int 4 t)
  shortest : ∃ t, mg "SHORTEST" = some (.int 5 t)
  most : ∃ t, mg "MOST" = some (.int 6 t)
  flattest : ∃ t, mg "FLATTEST" = some (.int 7 t)
  even : ∃ t, mg "EVEN" = some (.int 8 t)
  which : ∃ t, mg "WHICH" = some (.int 9 t)
  mirror : ∃ t, mg "MIRROR" = some (.int 10 t)
def Keeps2 (H H' : Hp) (x y : Addr) : Prop := ∀ b o, H b = some o → b ≠ x → b ≠ y → H' b = some o
theorem drop_at {ns : List Int} {i : Nat} {p : Int} {r : List Int} (h : ns.drop i = p :: r) : ns[i]? = some p ∧ ns.drop (i + 1) = r ∧ i < ns.length ∧ ns.length = i + 1 + r.length := by
  have hl : i < ns.length := by
    rcases Nat.lt_or_ge i ns.length with z | z
    · exact z
    · rw [List.drop_of_length_le z] at h
      cases h
  have h1 : ns.drop i = ns[i] :: ns.drop (i + 1) := List.drop_eq_getElem_cons hl
  rw [h1] at h
  injection h with e1 e2
  refine ⟨by rw [List.getElem?_eq_getElem hl, e1], e2, hl, ?_⟩
  rw [← e2, List.length_drop]
  omega
theorem il_nl {l : List Int} (h : Nat32 l) : l.map V.int = nv (toN l) := by
  unfold nv toN
  rw [List.map_map]
  apply List.map_congr_left
  intro x hx
  show V.int x = V.int ((x.toNat : Nat) : Int)
  rw [Int.toNat_of_nonneg (h x hx).1]
theorem toN_len (l : List Int) : (toN l).length = l.length := List.length_map ..
theorem ifN {p c : Int} (h : p ≠ c) {A B : Prop} (b : B) : if decide (V.int p = V.int c) = true then A else B := by
  rw [decide_eq_false (fun z => h (by injection z))]
  exact iteF b
theorem ifY {p : Int} {A B : Prop} (a : A) : if decide (V.int p = V.int p) = true then A else B := by
  rw [decide_eq_true rfl]
  exact iteT a
theorem two_five : two ≠ five := by decide +kernel
theorem ShoeAt.rd {K : PySem.W.Frag} {C CR : Addr} {H H' : Hp} {a rd pa : Addr} {s : Uw74.Shoe} {ns : List Int} {i : Nat} (h : ShoeAt C H a s) (k : Keeps H H' rd) (R : RdAt K CR H rd pa ns i) : ShoeAt C H' a s := by
  obtain ⟨dx, fs, R⟩ := R
  exact h.keep k R.at_ (by rw [R.keys]; exact two_five)
theorem RdAt.sh {K : PySem.W.Frag} {C CR : Addr} {H H' : Hp} {a rd pa : Addr} {s : Uw74.Shoe} {ns : List Int} {i : Nat} (R : RdAt K CR H rd pa ns i) (k : Keeps H H' a) (h : ShoeAt C H a s) : RdAt K CR H' rd pa ns i := by
  obtain ⟨dx, fs, ac, al, wh, la, h⟩ := h
  exact R.keep k h.at_ (by rw [h.keys]; exact two_five.symm)
/-- what is wanted behind a call that was taken and answered -/
def Done (K : PySem.W.Frag) (C CR : Addr) (H : Hp) (a rd pa : Addr) (ns : List Int) (i : Nat) (s : Uw74.Shoe) (x : Uw74.Call) (Q : VK) : Prop :=
  ∀ (H' : Hp) (r : Addr), Keeps2 H H' a rd → ShoeAt C H' a (Uw74.step s x).1 → RdAt K CR H' rd pa ns i → IL H' r (Uw74.step s x).2 → Q (.ref r) H'
/-- from the answer -/
theorem Done.ans {K : PySem.W.Frag} {C CR : Addr} {H H1 : Hp} {a rd pa : Addr} {ns : List Int} {i j : Nat} {s : Uw74.Shoe} {x : Uw74.Call} {Q : VK} (h : Done K C CR H a rd pa ns i s x Q) (k : Keeps H H1 rd) (hs : ShoeAt C H1 a s) (R : RdAt K CR H1 rd pa ns j) (e : j = i) : Ans C H1 a s x Q := fun H' r k2 hs2 hr =>
  h H' r (fun b o hb h1 h2 => k2 b o (k b o hb h2) h1) hs2 (e ▸ R.sh k2 hs) hr
section
variable {P : Program} {w : World} {K : PySem.W.Frag} {mg : Str → Option Value} {base : Heap} {C CR : Addr}
def spAnsCall (K : PySem.W.Frag) (C CR : Addr) : Sp := fun vs H Q _ => ∃ (a rd pa : Addr) (s : Uw74.Shoe) (ns : List Int) (i : Nat) (x : Uw74.Call) (t : List Int), vs = [V.ref a, V.ref rd] ∧ ShoeAt C H a s ∧ Fit s ∧ RdAt K CR H rd pa ns i ∧ Take (ns.drop i) x t ∧ Nat32 (ns.drop i) ∧
  Done K C CR H a rd pa ns (ns.length - t.length) s x Q
theorem scAnsCall : FnScope ["shoe", "reader", "call", "n"] ["shoe", "reader"] (defScope sAnsCall) := ⟨rfl, rfl, rfl, by decide +kernel, rfl, by decide +kernel, by decide +kernel⟩
theorem ok_ansCall {f : Addr} {fd : FuncData} (F : Fun K "answer_call" "answer_call" sAnsCall f fd) (N : Nums mg) (RS : RCls K CR) (DT : MDef P w K mg base CR "take_number" 1 ["self"] (spTake K CR)) (DR : MDef P w K mg base CR "take_row" 2 ["self"] (spRow K CR))
    (D0 : Def P w K mg base "answer_shoe" 8 ["shoe", "n", "lengths"] (spAnsShoe C)) (D1 : Def P w K mg base "answer_tear" 7 ["shoe", "eyelet"] (spAnsTear C)) (D2 : Def P w K mg base "answer_mend" 7 ["shoe", "eyelet"] (spAnsMend C))
    (D3 : Def P w K mg base "answer_is" 4 ["shoe", "row"] (spAnsIs C)) (D4 : Def P w K mg base "answer_look" 4 ["shoe", "row"] (spAnsLook C)) (D5 : Def P w K mg base "answer_shortest" 4 ["shoe"] (spAnsShortest C))
    (D6 : Def P w K mg base "answer_most" 4 ["shoe", "length"] (spAnsMost C)) (D7 : Def P w K mg base "answer_flattest" 4 ["shoe"] (spAnsFlattest C)) (D8 : Def P w K mg base "answer_even" 4 ["shoe"] (spAnsEven C))
    (D9 : Def P w K mg base "answer_which" 1 ["shoe", "k"] (spAnsWhich C)) (D10 : Def P w K mg base "answer_mirror" 4 ["shoe", "row"] (spAnsMirror C)) :
    FnOk P w K mg base CX0 9 f fd ["shoe", "reader"] (spAnsCall K C CR) := by
  refine F.ok scAnsCall (fun vs H Q E h => ?_) (fun cdv A outer s H vs Q E hr h => ?_)
  · obtain ⟨a, rd, pa, sh, ns, i, x, t, rfl, _⟩ := h
    rfl
  · obtain ⟨a, rd, pa, sh, ns, i, x, t, rfl, hsh, hF, hR, ht, hn, k⟩ := h
    obtain ⟨t0, h0⟩ := N.shoe
    obtain ⟨t1, h1⟩ := N.tear
    obtain ⟨t2, h2⟩ := N.mend
    obtain ⟨t3, h3⟩ := N.is
    obtain ⟨t4, h4⟩ := N.look
    obtain ⟨t5, h5⟩ := N.shortest
    obtain ⟨t6, h6⟩ := N.most
    obtain ⟨t7, h7⟩ := N.flattest
    obtain ⟨t8, h8⟩ := N.even
    obtain ⟨t9, h9⟩ := N.which
    obtain ⟨t10, h10⟩ := N.mirror
    have r1 : Room 1 _ := hr.mono (by decide)
    have r2 : Room 2 _ := hr.mono (by decide)
    have r4 : Room 4 _ := hr.mono (by decide)
    have r7 : Room 7 _ := hr.mono (by decide)
    refine ⟨_, pss_cons (ps_set (i := 2) scAnsCall.nd rfl (Or.inl rfl) (pe_mdef0 RS.cl DT r1 (pv 1)))
      (pss_cons (ps_if (pt_cmpR op_eq (pv 2) (pe_gi rfl h0) (nomark _)) (pss_cons (ps_set (i := 3) scAnsCall.nd rfl (Or.inl rfl) (pe_mdef0 RS.cl DT r1 (pv 1))) (pss_one (ps_ret (pe_def D0 hr rfl (pa_cons (pv 0) (pa_cons (pv 3) (pa_cons (pe_mdef0 RS.cl DR r2 (pv 1)) pa_nil))))))) pss_nil)
      (pss_cons (ps_if (pt_cmpR op_eq (pv 2) (pe_gi rfl h1) (nomark _)) (pss_one (ps_ret (pe_def D1 r7 rfl (pa_cons (pv 0) (pa_cons (pe_mdef0 RS.cl DT r1 (pv 1)) pa_nil))))) pss_nil)
      (pss_cons (ps_if (pt_cmpR op_eq (pv 2) (pe_gi rfl h2) (nomark _)) (pss_one (ps_ret (pe_def D2 r7 rfl (pa_cons (pv 0) (pa_cons (pe_mdef0 RS.cl DT r1 (pv 1)) pa_nil))))) pss_nil)
      (pss_cons (ps_if (pt_cmpR op_eq (pv 2) (pe_gi rfl h3) (nomark _)) (pss_one (ps_ret (pe_def D3 r4 rfl (pa_cons (pv 0) (pa_cons (pe_mdef0 RS.cl DR r2 (pv 1)) pa_nil))))) pss_nil)
      (pss_cons (ps_if (pt_cmpR op_eq (pv 2) (pe_gi rfl h4) (nomark _)) (pss_one (ps_ret (pe_def D4 r4 rfl (pa_cons (pv 0) (pa_cons (pe_mdef0 RS.cl DR r2 (pv 1)) pa_nil))))) pss_nil)
      (pss_cons (ps_if (pt_cmpR op_eq (pv 2) (pe_gi rfl h5) (nomark _)) (pss_one (ps_ret (pe_def D5 r4 rfl (pa_cons (pv 0) pa_nil)))) pss_nil)
      (pss_cons (ps_if (pt_cmpR op_eq (pv 2) (pe_gi rfl h6) (nomark _)) (pss_one (ps_ret (pe_def D6 r4 rfl (pa_cons (pv 0) (pa_cons (pe_mdef0 RS.cl DT r1 (pv 1)) pa_nil))))) pss_nil)
      (pss_cons (ps_if (pt_cmpR op_eq (pv 2) (pe_gi rfl h7) (nomark _)) (pss_one (ps_ret (pe_def D7 r4 rfl (pa_cons (pv 0) pa_nil)))) pss_nil)
      (pss_cons (ps_if (pt_cmpR op_eq (pv 2) (pe_gi rfl h8) (nomark _)) (pss_one (ps_ret (pe_def D8 r4 rfl (pa_cons (pv 0) pa_nil)))) pss_nil)
      (pss_cons (ps_if (pt_cmpR op_eq (pv 2) (pe_gi rfl h9) (nomark _)) (pss_one (ps_ret (pe_def D9 r1 rfl (pa_cons (pv 0) (pa_cons (pe_mdef0 RS.cl DT r1 (pv 1)) pa_nil))))) pss_nil)
      (pss_cons (ps_if (pt_cmpR op_eq (pv 2) (pe_gi rfl h10) (nomark _)) (pss_one (ps_ret (pe_def D10 r4 rfl (pa_cons (pv 0) (pa_cons (pe_mdef0 RS.cl DR r2 (pv 1)) pa_nil))))) pss_nil)
      pss_never))))))))))), ?_⟩
    obtain ⟨dx0, fs0, R0⟩ := id hR
    have go : ∀ {p : Int} {r : List Int}, ns.drop i = p :: r → ns[i]? = some p := fun h => (drop_at h).1
    generalize hd : ns.drop i = L at ht hn
    cases ht with
    | @shoe n m r hm hml hm12 =>
      obtain ⟨e1, e2, e3, e4⟩ := drop_at hd
      obtain ⟨f1, f2, f3, f4⟩ := drop_at e2
      obtain ⟨g1, g2, g3, g4⟩ := drop_at f2
      obtain ⟨mm, rfl⟩ := Int.eq_ofNat_of_zero_le hm
      rw [Int.toNat_natCast] at hml hm12 k
      obtain ⟨nn, rfl⟩ := Int.eq_ofNat_of_zero_le hn.tl.hd.1
      rw [Int.toNat_natCast] at k
      refine ⟨_, rfl, rd, dx0, fs0, rfl, R0.at_, two_no R0.keys (by decide +kernel), rd, pa, ns, i, 0, rfl, hR, e1, fun H1 k1 hR1 => ?_⟩
      have hs1 := hsh.rd k1 hR
      obtain ⟨dx1, fs1, R1⟩ := id hR1
      refine ⟨_, rfl, rfl, _, rfl, ifY ?_⟩
      refine ⟨_, rfl, rd, dx1, fs1, rfl, R1.at_, two_no R1.keys (by decide +kernel), rd, pa, ns, i + 1, (nn : Int), rfl, hR1, f1, fun H2 k2 hR2 => ?_⟩
      have hs2 := hs1.rd k2 hR1
      obtain ⟨dx2, fs2, R2⟩ := id hR2
      refine ⟨_, rfl, _, rfl, _, rfl, rd, dx2, fs2, rfl, R2.at_, two_no R2.keys (by decide +kernel), rd, pa, ns, i + 1 + 1, mm, rfl, hR2, g1, by omega, fun H3 rr k3 hR3 hrr => ?_⟩
      have hs3 := hs2.rd k3 hR2
      rw [g2] at hrr
      have hn3 : Nat32 (r.take mm) := hn.tl.tl.tl.take mm
      rw [il_nl hn3] at hrr
      refine ⟨a, rr, sh, nn, toN (r.take mm), rfl, hs3, hrr, by rw [toN_len, List.length_take]; omega, k.ans ((k1.trans k2).trans k3) hs3 hR3 ?_⟩
      rw [List.length_drop]
      omega
    | @tear e r =>
      obtain ⟨e1, e2, e3, e4⟩ := drop_at hd
      obtain ⟨f1, f2, f3, f4⟩ := drop_at e2
      obtain ⟨ee, rfl⟩ := Int.eq_ofNat_of_zero_le hn.tl.hd.1
      rw [Int.toNat_natCast] at k
      refine ⟨_, rfl, rd, dx0, fs0, rfl, R0.at_, two_no R0.keys (by decide +kernel), rd, pa, ns, i, 1, rfl, hR, e1, fun H1 k1 hR1 => ?_⟩
      have hs1 := hsh.rd k1 hR
      obtain ⟨dx1, fs1, R1⟩ := id hR1
      refine ⟨_, rfl, rfl, _, rfl, ifN (by decide) ?_⟩
      refine ⟨_, rfl, rfl, _, rfl, ifY ?_⟩
      refine ⟨_, rfl, _, rfl, rd, dx1, fs1, rfl, R1.at_, two_no R1.keys (by decide +kernel), rd, pa, ns, i + 1, (ee : Int), rfl, hR1, f1, fun H2 k2 hR2 => ?_⟩
      have hs2 := hs1.rd k2 hR1
      exact ⟨a, sh, ee, rfl, hs2, hF, k.ans (k1.trans k2) hs2 hR2 (by omega)⟩
    | @mend e r =>
      obtain ⟨e1, e2, e3, e4⟩ := drop_at hd
      obtain ⟨f1, f2, f3, f4⟩ := drop_at e2
      obtain ⟨ee, rfl⟩ := Int.eq_ofNat_of_zero_le hn.tl.hd.1
      rw [Int.toNat_natCast] at k
      refine ⟨_, rfl, rd, dx0, fs0, rfl, R0.at_, two_no R0.keys (by decide +kernel), rd, pa, ns, i, 2, rfl, hR, e1, fun H1 k1 hR1 => ?_⟩
      have hs1 := hsh.rd k1 hR
      obtain ⟨dx1, fs1, R1⟩ := id hR1
      refine ⟨_, rfl, rfl, _, rfl, ifN (by decide) ?_⟩
      refine ⟨_, rfl, rfl, _, rfl, ifN (by decide) ?_⟩
      refine ⟨_, rfl, rfl, _, rfl, ifY ?_⟩
      refine ⟨_, rfl, _, rfl, rd, dx1, fs1, rfl, R1.at_, two_no R1.keys (by decide +kernel), rd, pa, ns, i + 1, (ee : Int), rfl, hR1, f1, fun H2 k2 hR2 => ?_⟩
      have hs2 := hs1.rd k2 hR1
      exact ⟨a, sh, ee, rfl, hs2, hF, k.ans (k1.trans k2) hs2 hR2 (by omega)⟩
    | @is m r hm hml hm12 =>
      obtain ⟨e1, e2, e3, e4⟩ := drop_at hd
      obtain ⟨f1, f2, f3, f4⟩ := drop_at e2
      obtain ⟨mm, rfl⟩ := Int.eq_ofNat_of_zero_le hm
      rw [Int.toNat_natCast] at hml hm12 k
      refine ⟨_, rfl, rd, dx0, fs0, rfl, R0.at_, two_no R0.keys (by decide +kernel), rd, pa, ns, i, 3, rfl, hR, e1, fun H1 k1 hR1 => ?_⟩
      have hs1 := hsh.rd k1 hR
      obtain ⟨dx1, fs1, R1⟩ := id hR1
      refine ⟨_, rfl, rfl, _, rfl, ifN (by decide) ?_⟩
      refine ⟨_, rfl, rfl, _, rfl, ifN (by decide) ?_⟩
      refine ⟨_, rfl, rfl, _, rfl, ifN (by decide) ?_⟩
      refine ⟨_, rfl, rfl, _, rfl, ifY ?_⟩
      refine ⟨_, rfl, _, rfl, rd, dx1, fs1, rfl, R1.at_, two_no R1.keys (by decide +kernel), rd, pa, ns, i + 1, mm, rfl, hR1, f1, by omega, fun H3 rr k3 hR3 hrr => ?_⟩
      have hs3 := hs1.rd k3 hR1
      rw [f2] at hrr
      have hn3 : Nat32 (r.take mm) := hn.tl.tl.take mm
      rw [il_nl hn3] at hrr
      refine ⟨a, rr, sh, toN (r.take mm), rfl, hs3, hF, hrr, by rw [toN_len, List.length_take]; omega, k.ans (k1.trans k3) hs3 hR3 ?_⟩
      rw [List.length_drop]
      omega
    | @look m r hm hml hm12 =>
      obtain ⟨e1, e2, e3, e4⟩ := drop_at hd
      obtain ⟨f1, f2, f3, f4⟩ := drop_at e2
      obtain ⟨mm, rfl⟩ := Int.eq_ofNat_of_zero_le hm
      rw [Int.toNat_natCast] at hml hm12 k
      refine ⟨_, rfl, rd, dx0, fs0, rfl, R0.at_, two_no R0.keys (by decide +kernel), rd, pa, ns, i, 4, rfl, hR, e1, fun H1 k1 hR1 => ?_⟩
      have hs1 := hsh.rd k1 hR
      obtain ⟨dx1, fs1, R1⟩ := id hR1
      refine ⟨_, rfl, rfl, _, rfl, ifN (by decide) ?_⟩
      refine ⟨_, rfl, rfl, _, rfl, ifN (by decide) ?_⟩
      refine ⟨_, rfl, rfl, _, rfl, ifN (by decide) ?_⟩
      refine ⟨_, rfl, rfl, _, rfl, ifN (by decide) ?_⟩
      refine ⟨_, rfl, rfl, _, rfl, ifY ?_⟩
      refine ⟨_, rfl, _, rfl, rd, dx1, fs1, rfl, R1.at_, two_no R1.keys (by decide +kernel), rd, pa, ns, i + 1, mm, rfl, hR1, f1, by omega, fun H3 rr k3 hR3 hrr => ?_⟩
      have hs3 := hs1.rd k3 hR1
      rw [f2] at hrr
      have hn3 : Nat32 (r.take mm) := hn.tl.tl.take mm
      rw [il_nl hn3] at hrr
      refine ⟨a, rr, sh, toN (r.take mm), rfl, hs3, hF, hrr, by rw [toN_len, List.length_take]; omega, k.ans (k1.trans k3) hs3 hR3 ?_⟩
      rw [List.length_drop]
      omega
    | @shortest r =>
      obtain ⟨e1, e2, e3, e4⟩ := drop_at hd
      refine ⟨_, rfl, rd, dx0, fs0, rfl, R0.at_, two_no R0.keys (by decide +kernel), rd, pa, ns, i, 5, rfl, hR, e1, fun H1 k1 hR1 => ?_⟩
      have hs1 := hsh.rd k1 hR
      refine ⟨_, rfl, rfl, _, rfl, ifN (by decide) ?_⟩
      refine ⟨_, rfl, rfl, _, rfl, ifN (by decide) ?_⟩
      refine ⟨_, rfl, rfl, _, rfl, ifN (by decide) ?_⟩
      refine ⟨_, rfl, rfl, _, rfl, ifN (by decide) ?_⟩
      refine ⟨_, rfl, rfl, _, rfl, ifN (by decide) ?_⟩
      refine ⟨_, rfl, rfl, _, rfl, ifY ?_⟩
      exact ⟨_, rfl, a, sh, rfl, hs1, hF, k.ans k1 hs1 hR1 (by omega)⟩
    | @most e r =>
      obtain ⟨e1, e2, e3, e4⟩ := drop_at hd
      obtain ⟨f1, f2, f3, f4⟩ := drop_at e2
      obtain ⟨ee, rfl⟩ := Int.eq_ofNat_of_zero_le hn.tl.hd.1
      rw [Int.toNat_natCast] at k
      refine ⟨_, rfl, rd, dx0, fs0, rfl, R0.at_, two_no R0.keys (by decide +kernel), rd, pa, ns, i, 6, rfl, hR, e1, fun H1 k1 hR1 => ?_⟩
      have hs1 := hsh.rd k1 hR
      obtain ⟨dx1, fs1, R1⟩ := id hR1
      refine ⟨_, rfl, rfl, _, rfl, ifN (by decide) ?_⟩
      refine ⟨_, rfl, rfl, _, rfl, ifN (by decide) ?_⟩
      refine ⟨_, rfl, rfl, _, rfl, ifN (by decide) ?_⟩
      refine ⟨_, rfl, rfl, _, rfl, ifN (by decide) ?_⟩
      refine ⟨_, rfl, rfl, _, rfl, ifN (by decide) ?_⟩
      refine ⟨_, rfl, rfl, _, rfl, ifN (by decide) ?_⟩
      refine ⟨_, rfl, rfl, _, rfl, ifY ?_⟩
      refine ⟨_, rfl, _, rfl, rd, dx1, fs1, rfl, R1.at_, two_no R1.keys (by decide +kernel), rd, pa, ns, i + 1, (ee : Int), rfl, hR1, f1, fun H2 k2 hR2 => ?_⟩
      have hs2 := hs1.rd k2 hR1
      exact ⟨a, sh, ee, rfl, hs2, hF, k.ans (k1.trans k2) hs2 hR2 (by omega)⟩
    | @flattest r =>
      obtain ⟨e1, e2, e3, e4⟩ := drop_at hd
      refine ⟨_, rfl, rd, dx0, fs0, rfl, R0.at_, two_no R0.keys (by decide +kernel), rd, pa, ns, i, 7, rfl, hR, e1, fun H1 k1 hR1 => ?_⟩
      have hs1 := hsh.rd k1 hR
      refine ⟨_, rfl, rfl, _, rfl, ifN (by decide) ?_⟩
      refine ⟨_, rfl, rfl, _, rfl, ifN (by decide) ?_⟩
      refine ⟨_, rfl, rfl, _, rfl, ifN (by decide) ?_⟩
      refine ⟨_, rfl, rfl, _, rfl, ifN (by decide) ?_⟩
      refine ⟨_, rfl, rfl, _, rfl, ifN (by decide) ?_⟩
      refine ⟨_, rfl, rfl, _, rfl, ifN (by decide) ?_⟩
      refine ⟨_, rfl, rfl, _, rfl, ifN (by decide) ?_⟩
      refine ⟨_, rfl, rfl, _, rfl, ifY ?_⟩
      exact ⟨_, rfl, a, sh, rfl, hs1, hF, k.ans k1 hs1 hR1 (by omega)⟩
    | @even r =>
      obtain ⟨e1, e2, e3, e4⟩ := drop_at hd
      refine ⟨_, rfl, rd, dx0, fs0, rfl, R0.at_, two_no R0.keys (by decide +kernel), rd, pa, ns, i, 8, rfl, hR, e1, fun H1 k1 hR1 => ?_⟩
      have hs1 := hsh.rd k1 hR
      refine ⟨_, rfl, rfl, _, rfl, ifN (by decide) ?_⟩
      refine ⟨_, rfl, rfl, _, rfl, ifN (by decide) ?_⟩
      refine ⟨_, rfl, rfl, _, rfl, ifN (by decide) ?_⟩
      refine ⟨_, rfl, rfl, _, rfl, ifN (by decide) ?_⟩
      refine ⟨_, rfl, rfl, _, rfl, ifN (by decide) ?_⟩
      refine ⟨_, rfl, rfl, _, rfl, ifN (by decide) ?_⟩
      refine ⟨_, rfl, rfl, _, rfl, ifN (by decide) ?_⟩
      refine ⟨_, rfl, rfl, _, rfl, ifN (by decide) ?_⟩
      refine ⟨_, rfl, rfl, _, rfl, ifY ?_⟩
      exact ⟨_, rfl, a, sh, rfl, hs1, hF, k.ans k1 hs1 hR1 (by omega)⟩
    | @which e r =>
      obtain ⟨e1, e2, e3, e4⟩ := drop_at hd
      obtain ⟨f1, f2, f3, f4⟩ := drop_at e2
      obtain ⟨ee, rfl⟩ := Int.eq_ofNat_of_zero_le hn.tl.hd.1
      rw [Int.toNat_natCast] at k
      refine ⟨_, rfl, rd, dx0, fs0, rfl, R0.at_, two_no R0.keys (by decide +kernel), rd, pa, ns, i, 9, rfl, hR, e1, fun H1 k1 hR1 => ?_⟩
      have hs1 := hsh.rd k1 hR
      obtain ⟨dx1, fs1, R1⟩ := id hR1
      refine ⟨_, rfl, rfl, _, rfl, ifN (by decide) ?_⟩
      refine ⟨_, rfl, rfl, _, rfl, ifN (by decide) ?_⟩
      refine ⟨_, rfl, rfl, _, rfl, ifN (by decide) ?_⟩
      refine ⟨_, rfl, rfl, _, rfl, ifN (by decide) ?_⟩
      refine ⟨_, rfl, rfl, _, rfl, ifN (by decide) ?_⟩
      refine ⟨_, rfl, rfl, _, rfl, ifN (by decide) ?_⟩
      refine ⟨_, rfl, rfl, _, rfl, ifN (by decide) ?_⟩
      refine ⟨_, rfl, rfl, _, rfl, ifN (by decide) ?_⟩
      refine ⟨_, rfl, rfl, _, rfl, ifN (by decide) ?_⟩
      refine ⟨_, rfl, rfl, _, rfl, ifY ?_⟩
      refine ⟨_, rfl, _, rfl, rd, dx1, fs1, rfl, R1.at_, two_no R1.keys (by decide +kernel), rd, pa, ns, i + 1, (ee : Int), rfl, hR1, f1, fun H2 k2 hR2 => ?_⟩
      have hs2 := hs1.rd k2 hR1
      exact ⟨a, sh, ee, rfl, hs2, hF, k.ans (k1.trans k2) hs2 hR2 (by omega)⟩
    | @mirror m r hm hml hm12 =>
      obtain ⟨e1, e2, e3, e4⟩ := drop_at hd
      obtain ⟨f1, f2, f3, f4⟩ := drop_at e2
      obtain ⟨mm, rfl⟩ := Int.eq_ofNat_of_zero_le hm
      rw [Int.toNat_natCast] at hml hm12 k
      refine ⟨_, rfl, rd, dx0, fs0, rfl, R0.at_, two_no R0.keys (by decide +kernel), rd, pa, ns, i, 10, rfl, hR, e1, fun H1 k1 hR1 => ?_⟩
      have hs1 := hsh.rd k1 hR
      obtain ⟨dx1, fs1, R1⟩ := id hR1
      refine ⟨_, rfl, rfl, _, rfl, ifN (by decide) ?_⟩
      refine ⟨_, rfl, rfl, _, rfl, ifN (by decide) ?_⟩
      refine ⟨_, rfl, rfl, _, rfl, ifN (by decide) ?_⟩
      refine ⟨_, rfl, rfl, _, rfl, ifN (by decide) ?_⟩
      refine ⟨_, rfl, rfl, _, rfl, ifN (by decide) ?_⟩
      refine ⟨_, rfl, rfl, _, rfl, ifN (by decide) ?_⟩
      refine ⟨_, rfl, rfl, _, rfl, ifN (by decide) ?_⟩
      refine ⟨_, rfl, rfl, _, rfl, ifN (by decide) ?_⟩
      refine ⟨_, rfl, rfl, _, rfl, ifN (by decide) ?_⟩
      refine ⟨_, rfl, rfl, _, rfl, ifN (by decide) ?_⟩
      refine ⟨_, rfl, rfl, _, rfl, ifY ?_⟩
      refine ⟨_, rfl, _, rfl, rd, dx1, fs1, rfl, R1.at_, two_no R1.keys (by decide +kernel), rd, pa, ns, i + 1, mm, rfl, hR1, f1, by omega, fun H3 rr k3 hR3 hrr => ?_⟩
      have hs3 := hs1.rd k3 hR1
      rw [f2] at hrr
      have hn3 : Nat32 (r.take mm) := hn.tl.tl.take mm
      rw [il_nl hn3] at hrr
      refine ⟨a, rr, sh, toN (r.take mm), rfl, hs3, hF, hrr, by rw [toN_len, List.length_take]; omega, k.ans (k1.trans k3) hs3 hR3 ?_⟩
      rw [List.length_drop]
      omega
end
end Lc

set_option Elab.async false
set_option linter.all false
set_option maxRecDepth 100000
set_option maxHeartbeats 4000000
namespace Lc
open PySem PySem.Spec PyProof.Rows L2
abbrev sAnswers : Stmt := top 55
/-- a class that is made -/
structure KDef (P : Program) (w : World) (K : PySem.W.Frag) (mg : Str → Option Value) (base : Heap) (x : Str) (C : Addr) (k : Nat) (ps : List Str) (sp : Sp) : Prop where
  ex : ∃ (f : Addr) (fd : FuncData), Mk K C f ∧ FnOk P w K mg base CX0 k f fd ps sp ∧ mg x = some (.ref C) ∧ Binds K fd ps []
theorem pe_kdef {X : Cx} {x : Str} {k : Nat} {ps : List Str} {sp : Sp} {C : Addr} {p pos : Pos} {e : Expr} {es : List Expr} {t : TA} (D : KDef X.prog X.w X.K X.mg X.base x C k ps sp) (hr : Room (k + 1) X.A) (hg : Gl X x) (ha : PA X (e :: es) t)
    (hdb : (x == ("__debug__" : Str)) = false := by decide) (he : starEach (e :: es) X.env = (false, eval e X.env) :: starEach es X.env := by rfl) (hpl : (backTo pos (starEach es X.env)).any (·.1) = false := by rfl) :
    PE X (.Call (.Name x p) (e :: es) [] pos) (tMake C sp [] E0 t) := by
  obtain ⟨f, fd, M, F, hm, hb⟩ := D.ex
  exact pe_make M F hr hg hm hb .nil pass0 ha hdb he hpl
/-- the heap without one thing -/
def mask (H : Hp) (t : Addr) : Hp := fun b => if b = t then none else H b
theorem mask_ne {H : Hp} {t b : Addr} (h : b ≠ t) : mask H t b = H b := if_neg h
theorem mask_same (H : Hp) (t : Addr) : Same (mask H t) H := fun b o h => by
  by_cases e : b = t
  · have h' : (if b = t then none else H b) = some o := h
    rw [if_pos e] at h'
    cases h'
  · rw [mask_ne e] at h
    exact h
theorem mask_upd (H : Hp) (t : Addr) (o : HO) : mask (upd H t o) t = mask H t := by
  funext b
  by_cases e : b = t
  · show (if b = t then none else _) = (if b = t then none else _)
    rw [if_pos e, if_pos e]
  · rw [mask_ne e, mask_ne e, upd_ne e]
theorem mask_same_upd (H : Hp) (t : Addr) (o : HO) : Same (mask H t) (upd H t o) := by
  rw [← mask_upd H t o]
  exact mask_same _ _
theorem NL.mask {H : Hp} {t : Addr} {od : Obj} {u : HO} (ht : H t = some (.frz od u)) {a : Addr} {l : List Nat} (h : NL H a l) : NL (mask H t) a l := by
  show Lc.mask H t a = _
  rw [mask_ne (ne_of h ht (by intro z; cases z))]
  exact h
theorem LL.mask {H : Hp} {t : Addr} {od : Obj} {u : HO} (ht : H t = some (.frz od u)) {a : Addr} {ls : List (List Nat)} (h : LL H a ls) : LL (mask H t) a ls := by
  obtain ⟨as, h1, h2⟩ := h
  refine ⟨as, ?_, paired_mono (fun _ _ x => NL.mask ht x) h2⟩
  rw [mask_ne (ne_of h1 ht (by intro z; cases z))]
  exact h1
theorem ShoeAt.mask {C : Addr} {H : Hp} {t : Addr} {od : Obj} {u : HO} (ht : H t = some (.frz od u)) {a : Addr} {s : Uw74.Shoe} (h : ShoeAt C H a s) : ShoeAt C (mask H t) a s := by
  obtain ⟨dx, fs, ac, al, wh, la, h⟩ := h
  refine ⟨dx, fs, ac, al, wh, la, ?_, h.keys, h.cnt, h.across, h.along, h.whole, h.laced, NL.mask ht h.acL, NL.mask ht h.alL, NL.mask ht h.whL, LL.mask ht h.laL⟩
  rw [mask_ne (ne_of h.at_ ht (by intro z; cases z))]
  exact h.at_
theorem RdAt.mask {K : PySem.W.Frag} {C : Addr} {H : Hp} {t : Addr} {od : Obj} {u : HO} (ht : H t = some (.frz od u)) {a pa : Addr} {ns : List Int} {i : Nat} (hq : SqL K (mask H t) pa (ns.map V.int)) (h : RdAt K C H a pa ns i) : RdAt K C (mask H t) a pa ns i := by
  obtain ⟨dx, fs, h⟩ := h
  refine ⟨dx, fs, ?_, h.keys, h.num, h.place, hq⟩
  rw [mask_ne (ne_of h.at_ ht (by intro z; cases z))]
  exact h.at_
theorem Take.suffix {l t : List Int} {x : Uw74.Call} (h : Take l x t) : ∃ pre, l = pre ++ t := by
  cases h with
  | @shoe n m r _ _ _ => exact ⟨0 :: n :: m :: r.take m.toNat, by simp⟩
  | @tear e r => exact ⟨[1, e], rfl⟩
  | @mend e r => exact ⟨[2, e], rfl⟩
  | @is m r _ _ _ => exact ⟨3 :: m :: r.take m.toNat, by simp⟩
  | @look m r _ _ _ => exact ⟨4 :: m :: r.take m.toNat, by simp⟩
  | @shortest r => exact ⟨[5], rfl⟩
  | @most e r => exact ⟨[6, e], rfl⟩
  | @flattest r => exact ⟨[7], rfl⟩
  | @even r => exact ⟨[8], rfl⟩
  | @which e r => exact ⟨[9, e], rfl⟩
  | @mirror m r _ _ _ => exact ⟨10 :: m :: r.take m.toNat, by simp⟩
theorem fit_step {s : Uw74.Shoe} (F : Fit s) (x : Uw74.Call) : Fit (Uw74.step s x).1 := by
  cases x with
  | shoe n l =>
    rw [step_shoe]
    by_cases h : n < 2 ∨ 4 < n ∨ l.length ≠ 2 * n - 1 ∨ l.any (fun x => decide (x < 1) || decide (1000 < x)) = true
    · rw [if_pos h]; exact F
    · rw [if_neg h]
      exact fit_shoe (Nat.le_of_not_lt fun z => h (.inl z)) (Nat.le_of_not_lt fun z => h (.inr (.inl z))) (Decidable.byContradiction fun z => h (.inr (.inr (.inl z))))
  | tear e =>
    rw [step_tear]
    by_cases h : 2 * s.rows ≤ e ∨ e < 2
    · rw [if_pos h]; exact F
    · rw [if_neg h]
      by_cases h2 : s.torn.contains e = true
      · rw [if_pos h2]; exact F
      · rw [if_neg h2]
        exact fit_tear F (Nat.le_of_not_lt fun z => h (.inr z))
  | mend e =>
    rw [step_mend]
    by_cases h : 2 * s.rows ≤ e ∨ e < 2
    · rw [if_pos h]; exact F
    · rw [if_neg h]
      by_cases h2 : s.torn.contains e = false
      · rw [if_pos h2]; exact F
      · rw [if_neg h2]
        exact fit_mend F e
  | _ => exact F
theorem asked_short {l : List Int} (h : PyUw74.answers_asked l = true) : (PyUw74.answers l).length ≤ 10000000 := by
  unfold PyUw74.answers_asked at h
  cases e : PyFlat.calls PyUw74.shape l.length l with
  | none => rw [e] at h; cases h
  | some cs =>
    rw [e] at h
    simp only [Bool.and_eq_true] at h
    exact of_decide_eq_true h.2
theorem ten_million {n : Nat} (h : n ≤ 10000000) : n < sizeLine := by rw [sizeLine_eq]; omega
/-- the loop's word -/
def Word (K : PySem.W.Frag) (C CR a rd pa tl : Addr) (ns : List Int) (H0 : Hp) (m : Nat) (σ : L2.St) (H : Hp) : Prop := Same H0 (mask H tl) ∧
  ∃ (i f : Nat) (cs : List (List (List Int))) (st : Uw74.Shoe) (acc : List Int) (v4 : Option V), m = ns.length - i ∧ σ = [some (.ref pa), some (.ref a), some (.ref rd), some (.ref tl), v4] ∧ IL H tl acc ∧ ShoeAt C (mask H tl) a st ∧ Fit st ∧
    RdAt K CR (mask H tl) rd pa ns i ∧ i ≤ ns.length ∧ PyFlat.calls PyUw74.shape f (ns.drop i) = some cs ∧ PyInside.calls PyUw74.bound cs = true ∧ PyUw74.answers ns = acc ++ tail st cs
section
variable {P : Program} {w : World} {K : PySem.W.Frag} {mg : Str → Option Value} {base : Heap} {C CR : Addr}
def spAnswers (K : PySem.W.Frag) : Sp := fun vs H Q _ => ∃ (pa : Addr) (ns : List Int), vs = [V.ref pa] ∧ SqL K H pa (ns.map V.int) ∧ PyUw74.answers_asked ns = true ∧ Nat32 ns ∧ ∀ (H' : Hp) (r : Addr), IL H' r (PyUw74.answers ns) → Q (.ref r) H'
theorem scAnswers : FnScope ["calls", "shoe", "reader", "told", "answer"] ["calls"] (defScope sAnswers) := ⟨rfl, rfl, rfl, by decide +kernel, rfl, by decide +kernel, by decide +kernel⟩
theorem ok_answers {f tp : Addr} {fd : FuncData} (F : Fun K "answers" "answers" sAnswers f fd) (T : Glo mg) (RS : RCls K CR) (hrows : ∃ t, mg "NEW_SHOE_ROWS" = some (.int 2 t)) (hlens : mg "NEW_SHOE_LENGTHS" = some (.ref tp)) (htp : ∀ H, SqT K H tp (nv [2, 3, 1]))
    (KS : KDef P w K mg base "Shoe" C 8 ["self", "n", "lengths"] (spShoeInit C)) (KR : KDef P w K mg base "Reader" CR 1 ["self", "numbers"] (spRdInit K CR)) (DM : MDef P w K mg base CR "has_more" 1 ["self"] (spHasMore K CR))
    (DC : Def P w K mg base "answer_call" 9 ["shoe", "reader"] (spAnsCall K C CR)) : FnOk P w K mg base CX0 10 f fd ["calls"] (spAnswers K) := by
  refine F.ok scAnswers (fun vs H Q E h => ?_) (fun cdv A outer s H vs Q E hr h => ?_)
  · obtain ⟨pa, ns, rfl, _⟩ := h
    rfl
  · obtain ⟨pa, ns, rfl, hsq, hask, hnat, k⟩ := h
    obtain ⟨tr, hrows⟩ := hrows
    have r1 : Room 1 _ := hr.mono (by decide)
    have r2 : Room 2 _ := hr.mono (by decide)
    refine ⟨_, pss_cons (ps_set (i := 1) scAnswers.nd rfl (Or.inl rfl) (pe_kdef KS hr rfl (pa_cons (pe_gi rfl hrows) (pa_cons (pe_callTy call_list_of rfl T.list PyProof.Rows.boot_list (pa_cons (pe_glob (v := .ref tp) rfl hlens rfl) pa_nil)) pa_nil))))
      (pss_cons (ps_set (i := 2) scAnswers.nd rfl (Or.inl rfl) (pe_kdef KR r2 rfl (pa_cons (pv 0) pa_nil)))
      (pss_cons (ps_set (i := 3) scAnswers.nd rfl (Or.inl rfl) (pe_lst pa_nil))
      (pss_cons (ps_while PassesOwn.never (pt_val (pe_mdef0 RS.cl DM r1 (pv 2)))
        (pss_cons (ps_set (i := 4) scAnswers.nd rfl (Or.inl rfl) (pe_lock (pe_def DC hr rfl (pa_cons (pv 1) (pa_cons (pv 2) pa_nil)))))
        (pss_cons (ps_expr (pe_bm PySem.F.plainAttrs_list PySem.F.slot_list_append PySem.F.type_list_append mt_append (pv 3) (pa_cons (pe_callB call_len_seq rfl T.len PySem.boot_len (pa_cons (pv 4) pa_nil)) pa_nil)))
        (pss_one (ps_expr (pe_bm PySem.F.plainAttrs_list PySem.F.slot_list_extend PySem.F.type_list_extend mt_extend (pv 3) (pa_cons (pv 4) pa_nil)))))))
      (pss_one (ps_ret (pv 3)))))), ?_⟩
    -- shoe
    refine ⟨tp, nv [2, 3, 1], rfl, .inr (htp H), fun ll hll => ?_⟩
    have s1 : Same H (upd H ll (.lst (nv [2, 3, 1]))) := same_new (Same.refl H) hll
    have hl1 : NL (upd H ll (.lst (nv [2, 3, 1]))) ll [2, 3, 1] := upd_same
    generalize upd H ll (.lst (nv [2, 3, 1])) = H1 at s1 hl1
    intro a dxa na nda nea
    have e1 : ∀ b o, H1 b = some o → (upd (upd H1 dxa (.own a)) a (.ins C dxa [])) b = some o := fun b o hb => by
      rw [upd_ne (ne_of_none hb na), upd_ne (ne_of_none hb nda)]
      exact hb
    refine ⟨a, ll, dxa, 2, [2, 3, 1], rfl, upd_same, by decide, by decide, e1 _ _ hl1, rfl, fun H2 k2 hs2 => ⟨rfl, ?_⟩⟩
    have s2 : Same H1 H2 := fun b o hb => k2 b o (e1 b o hb) (ne_of_none hb na)
    -- reader
    refine ⟨_, rfl, ?_⟩
    intro rd dxr nr ndr ner
    have e2 : Same H2 (upd (upd H2 dxr (.own rd)) rd (.ins CR dxr [])) := fun b o hb => by
      rw [upd_ne (ne_of_none hb nr), upd_ne (ne_of_none hb ndr)]
      exact hb
    have s02 : Same H H2 := s1.trans s2
    refine ⟨rd, pa, dxr, ns, rfl, upd_same, (s02.trans e2).seq hsq, fun H3 k3 hR3 => ⟨rfl, ?_⟩⟩
    have s3 : Same H2 H3 := fun b o hb => k3 b o (e2 b o hb) (ne_of_none hb nr)
    have s03 : Same H H3 := s02.trans s3
    have na0 : H a = none := s1.free na
    have nr0 : H rd = none := s02.free nr
    have hs3 : ShoeAt C H3 a Uw74.init := hs2.same s3
    -- told
    refine ⟨(by show 0 ≤ sizeLine; decide), fun tl htl => ?_⟩
    have m3 : mask (upd H3 tl (.lst [])) tl = H3 := by
      rw [mask_upd]
      funext b
      by_cases e : b = tl
      · rw [e, htl]
        exact if_pos rfl
      · exact mask_ne e
    obtain ⟨cs, hcs, hbd, hans⟩ := asked_start hask
    have hshort := asked_short hask
    refine ⟨Word K C CR a rd pa tl ns H, ⟨_, by rw [m3]; exact s03, 0, ns.length, cs, Uw74.init, [], none, rfl, rfl, upd_same, by rw [m3]; exact hs3, fit_init, by rw [m3]; exact hR3, Nat.zero_le _, hcs, hbd, hans⟩, ?_⟩
    rintro m σ H4 ⟨s4, i, f4, cs4, st, acc, v4, rfl, rfl, hIL, hs4, hF4, hR4, hi4, hc4, hb4, ha4⟩
    have hR4' := hR4.same (mask_same H4 tl)
    obtain ⟨dx4, fs4, R4⟩ := id hR4'
    refine ⟨_, rfl, rd, dx4, fs4, rfl, R4.at_, two_no R4.keys (by decide +kernel), rd, pa, ns, i, rfl, hR4', _, rfl, ?_⟩
    have hacc : acc.length ≤ 10000000 := by
      rw [ha4, List.length_append] at hshort
      omega
    refine ite2 (fun c => ?_) (fun c => ?_)
    · have hil : i < ns.length := of_decide_eq_true c
      obtain ⟨p, r, hpr⟩ : ∃ p r, ns.drop i = p :: r := ⟨_, _, List.drop_eq_getElem_cons hil⟩
      have hn4 : Nat32 (ns.drop i) := hnat.drop i
      rw [hpr] at hc4
      obtain ⟨f5, c5, cs5, t5, x5, rfl, rfl, ht5, hc5, hn5, hb5, hst5⟩ := turn hc4 (hpr ▸ hn4) hb4
      refine ⟨fun σ' H' => ∃ m', m' < ns.length - i ∧ Word K C CR a rd pa tl ns H m' σ' H', fun σ' H' h => h, ?_⟩
      refine ⟨tl, .lst (acc.map V.int), hIL, True.intro, fun od => ?_⟩
      have sm : Same (mask H4 tl) (upd H4 tl (.frz od (.lst (acc.map V.int)))) := mask_same_upd H4 tl _
      have hs5 := hs4.same sm
      have hR5 := hR4.same sm
      have nta : tl ≠ a := by
        obtain ⟨_, _, _, _, _, _, R⟩ := hs5
        exact ne_of upd_same R.at_ (by intro z; cases z)
      have ntr : tl ≠ rd := by
        obtain ⟨_, _, R⟩ := hR5
        exact ne_of upd_same R.at_ (by intro z; cases z)
      refine ⟨_, rfl, _, rfl, a, rd, pa, st, ns, i, x5, t5, rfl, hs5, hF4, hR5, hpr ▸ ht5, hn4, fun H6 ar k6 hs6 hR6 hr6 => ?_⟩
      have h6t : H6 tl = some (.frz od (.lst (acc.map V.int))) := k6 _ _ upd_same nta ntr
      refine ⟨h6t, ?_⟩
      have ntar : ar ≠ tl := ne_of hr6 h6t (by intro z; cases z)
      have s6 : Same H (mask H6 tl) := fun b o hb => by
        have h1 := s4 b o hb
        have hbt : b ≠ tl := fun z => by
          have h1' : (if b = tl then none else H4 b) = some o := h1
          rw [if_pos z] at h1'
          cases h1'
        rw [mask_ne hbt]
        exact k6 b o (sm b o h1) (ne_of_none hb na0) (ne_of_none hb nr0)
      have hq6 : SqL K (mask H6 tl) pa (ns.map V.int) := s6.seq hsq
      have hans5 := tail_cons st c5 cs5 (hst5 st)
      rw [hans5] at ha4
      have hlen5 : ns.length - t5.length ≤ ns.length ∧ i < ns.length - t5.length ∧ ns.drop (ns.length - t5.length) = t5 := by
        have hlt := ht5.left
        have hl1 : (ns.drop i).length = ns.length - i := List.length_drop ..
        rw [hpr] at hl1
        obtain ⟨pre, hpre⟩ := ht5.suffix
        have e7 : ∃ B : List Int, ns = B ++ t5 := ⟨ns.take i ++ pre, by rw [List.append_assoc, ← hpre, ← hpr, List.take_append_drop]⟩
        obtain ⟨B, e7⟩ := e7
        have e8 : ns.length = B.length + t5.length := by
          rw [e7, List.length_append]
        have e9 : ns.length - t5.length = B.length := by omega
        refine ⟨by omega, by omega, ?_⟩
        rw [e9, e7]
        exact List.drop_left
      generalize hans6 : (Uw74.step st x5).2 = an at hr6 ha4
      have htot : acc.length + 1 + an.length ≤ 10000000 := by
        rw [ha4] at hshort
        simp only [List.length_append, List.length_cons] at hshort
        omega
      -- append
      have har : (upd H6 tl (.lst (acc.map V.int))) ar = some (.lst (an.map V.int)) := by
        rw [upd_ne ntar]
        exact hr6
      refine ⟨_, rfl, .inl ⟨rfl, _, SqL.of upd_same⟩, _, rfl, ar, _, rfl, .inl (SqL.of har), tl, _, _, rfl, rfl, upd_same, by rw [List.length_map]; exact ten_million (by omega), ?_⟩
      refine ⟨_, rfl, .inl ⟨rfl, _, SqL.of upd_same⟩, _, rfl, tl, ar, _, an.map V.int, rfl, rfl, upd_same, ?_, ?_, ?_⟩
      · rw [upd_ne ntar]
        exact har
      · rw [List.length_append, List.length_map, List.length_map]
        exact Nat.le_of_lt (ten_million (by show acc.length + 1 + an.length ≤ _; omega))
      · refine ⟨ns.length - (ns.length - t5.length), by omega, ?_⟩
        have em : ∀ o1 o2 o3, mask (upd (upd (upd H6 tl o1) tl o2) tl o3) tl = mask H6 tl := fun o1 o2 o3 => by rw [mask_upd, mask_upd, mask_upd]
        refine ⟨by rw [em]; exact s6, ns.length - t5.length, f5, cs5, (Uw74.step st x5).1, acc ++ ((an.length : Nat) : Int) :: an, some (.ref ar), rfl, rfl, ?_, ?_, fit_step hF4 x5, ?_, hlen5.1, by rw [hlen5.2.2]; exact hc5, hb5, ?_⟩
        · show (upd _ tl _) tl = _
          rw [upd_same, List.map_append, List.map_cons, List.length_map, List.append_assoc]
          rfl
        · rw [em]
          exact ShoeAt.mask h6t hs6
        · rw [em]
          exact RdAt.mask h6t hq6 hR6
        · rw [ha4, List.append_assoc]
    · have hil : i = ns.length := by
        have : ¬ i < ns.length := fun z => c (decide_eq_true z)
        omega
      rw [hil, List.drop_length] at hc4
      have ecs : cs4 = [] := by
        cases f4 <;> (simp only [PyFlat.calls] at hc4; exact (Option.some.inj hc4).symm)
      rw [ecs, tail_nil, List.append_nil] at ha4
      refine ⟨_, rfl, k H4 tl ?_⟩
      rw [ha4]
      exact hIL
end
end Lc

set_option Elab.async false
set_option linter.all false
set_option maxRecDepth 100000
set_option maxHeartbeats 4000000
namespace Lc
open PySem PySem.Spec PyProof.Rows L2
open PySem.W (Codec)
/-! ### what the top has written -/
theorem all_mk {P : Program} {w : World} {K : PySem.W.Frag} {h : Heap} {mg : Str → Option Value} {fa C CR : Addr} (X : K.In h) (G : h.Ns mainGlobals mg) (hfa : mg "answers" = some (.ref fa))
    {f_is_across : Addr} {od_is_across an_is_across : Option Addr} {sl_is_across : Array (Option Value)} {oc_is_across kV_is_across dc_is_across pm_is_across cd_is_across ct_is_across : Value} {f_is_held : Addr} {od_is_held an_is_held : Option Addr} {sl_is_held : Array (Option Value)} {oc_is_held kV_is_held dc_is_held pm_is_held cd_is_held ct_is_held : Value} {f_may_go_on : Addr} {od_may_go_on an_may_go_on : Option Addr} {sl_may_go_on : Array (Option Value)} {oc_may_go_on kV_may_go_on dc_may_go_on pm_may_go_on cd_may_go_on ct_may_go_on : Value} {f_one_longer : Addr} {od_one_longer an_one_longer : Option Addr} {sl_one_longer : Array (Option Value)} {oc_one_longer kV_one_longer dc_one_longer pm_one_longer cd_one_longer ct_one_longer : Value} {f_all_lacings : Addr} {od_all_lacings an_all_lacings : Option Addr} {sl_all_lacings : Array (Option Value)} {oc_all_lacings kV_all_lacings dc_all_lacings pm_all_lacings cd_all_lacings ct_all_lacings : Value} {f_is_lacing : Addr} {od_is_lacing an_is_lacing : Option Addr} {sl_is_lacing : Array (Option Value)} {oc_is_lacing kV_is_lacing dc_is_lacing pm_is_lacing cd_is_lacing ct_is_lacing : Value} {f_pieces : Addr} {od_pieces an_pieces : Option Addr} {sl_pieces : Array (Option Value)} {oc_pieces kV_pieces dc_pieces pm_pieces cd_pieces ct_pieces : Value} {f_piece_length : Addr} {od_piece_length an_piece_length : Option Addr} {sl_piece_length : Array (Option Value)} {oc_piece_length kV_piece_length dc_piece_length pm_piece_length cd_piece_length ct_piece_length : Value} {f_lacing_length : Addr} {od_lacing_length an_lacing_length : Option Addr} {sl_lacing_length : Array (Option Value)} {oc_lacing_length kV_lacing_length dc_lacing_length pm_lacing_length cd_lacing_length ct_lacing_length : Value} {f_left_and_right_row : Addr} {od_left_and_right_row an_left_and_right_row : Option Addr} {sl_left_and_right_row : Array (Option Value)} {oc_left_and_right_row kV_left_and_right_row dc_left_and_right_row pm_left_and_right_row cd_left_and_right_row ct_left_and_right_row : Value} {f_pieces_across : Addr} {od_pieces_across an_pieces_across : Option Addr} {sl_pieces_across : Array (Option Value)} {oc_pieces_across kV_pieces_across dc_pieces_across pm_pieces_across cd_pieces_across ct_pieces_across : Value} {f_pull_count : Addr} {od_pull_count an_pull_count : Option Addr} {sl_pull_count : Array (Option Value)} {oc_pull_count kV_pull_count dc_pull_count pm_pull_count cd_pull_count ct_pull_count : Value} {f_crossing_count : Addr} {od_crossing_count an_crossing_count : Option Addr} {sl_crossing_count : Array (Option Value)} {oc_crossing_count kV_crossing_count dc_crossing_count pm_crossing_count cd_crossing_count ct_crossing_count : Value} {f_eyelet_beside : Addr} {od_eyelet_beside an_eyelet_beside : Option Addr} {sl_eyelet_beside : Array (Option Value)} {oc_eyelet_beside kV_eyelet_beside dc_eyelet_beside pm_eyelet_beside cd_eyelet_beside ct_eyelet_beside : Value} {f_in_mirror : Addr} {od_in_mirror an_in_mirror : Option Addr} {sl_in_mirror : Array (Option Value)} {oc_in_mirror kV_in_mirror dc_in_mirror pm_in_mirror cd_in_mirror ct_in_mirror : Value} {f_is_even : Addr} {od_is_even an_is_even : Option Addr} {sl_is_even : Array (Option Value)} {oc_is_even kV_is_even dc_is_even pm_is_even cd_is_even ct_is_even : Value} {f_is_shoe : Addr} {od_is_shoe an_is_shoe : Option Addr} {sl_is_shoe : Array (Option Value)} {oc_is_shoe kV_is_shoe dc_is_shoe pm_is_shoe cd_is_shoe ct_is_shoe : Value} {f_Shoe_set_whole : Addr} {od_Shoe_set_whole an_Shoe_set_whole : Option Addr} {sl_Shoe_set_whole : Array (Option Value)} {oc_Shoe_set_whole kV_Shoe_set_whole dc_Shoe_set_whole pm_Shoe_set_whole cd_Shoe_set_whole ct_Shoe_set_whole : Value} {f_Shoe_become : Addr} {od_Shoe_become an_Shoe_become : Option Addr} {sl_Shoe_become : Array (Option Value)} {oc_Shoe_become kV_Shoe_become dc_Shoe_become pm_Shoe_become cd_Shoe_become ct_Shoe_become : Value} {f_Shoe___init__ : Addr} {od_Shoe___init__ an_Shoe___init__ : Option Addr} {sl_Shoe___init__ : Array (Option Value)} {oc_Shoe___init__ kV_Shoe___init__ dc_Shoe___init__ pm_Shoe___init__ cd_Shoe___init__ ct_Shoe___init__ : Value} {f_Shoe_has_tearable : Addr} {od_Shoe_has_tearable an_Shoe_has_tearable : Option Addr} {sl_Shoe_has_tearable : Array (Option Value)} {oc_Shoe_has_tearable kV_Shoe_has_tearable dc_Shoe_has_tearable pm_Shoe_has_tearable cd_Shoe_has_tearable ct_Shoe_has_tearable : Value} {f_Reader___init__ : Addr} {od_Reader___init__ an_Reader___init__ : Option Addr} {sl_Reader___init__ : Array (Option Value)} {oc_Reader___init__ kV_Reader___init__ dc_Reader___init__ pm_Reader___init__ cd_Reader___init__ ct_Reader___init__ : Value} {f_Reader_has_more : Addr} {od_Reader_has_more an_Reader_has_more : Option Addr} {sl_Reader_has_more : Array (Option Value)} {oc_Reader_has_more kV_Reader_has_more dc_Reader_has_more pm_Reader_has_more cd_Reader_has_more ct_Reader_has_more : Value} {f_Reader_take_number : Addr} {od_Reader_take_number an_Reader_take_number : Option Addr} {sl_Reader_take_number : Array (Option Value)} {oc_Reader_take_number kV_Reader_take_number dc_Reader_take_number pm_Reader_take_number cd_Reader_take_number ct_Reader_take_number : Value} {f_Reader_take_row : Addr} {od_Reader_take_row an_Reader_take_row : Option Addr} {sl_Reader_take_row : Array (Option Value)} {oc_Reader_take_row kV_Reader_take_row dc_Reader_take_row pm_Reader_take_row cd_Reader_take_row ct_Reader_take_row : Value} {f_answer_shoe : Addr} {od_answer_shoe an_answer_shoe : Option Addr} {sl_answer_shoe : Array (Option Value)} {oc_answer_shoe kV_answer_shoe dc_answer_shoe pm_answer_shoe cd_answer_shoe ct_answer_shoe : Value} {f_answer_tear : Addr} {od_answer_tear an_answer_tear : Option Addr} {sl_answer_tear : Array (Option Value)} {oc_answer_tear kV_answer_tear dc_answer_tear pm_answer_tear cd_answer_tear ct_answer_tear : Value} {f_answer_mend : Addr} {od_answer_mend an_answer_mend : Option Addr} {sl_answer_mend : Array (Option Value)} {oc_answer_mend kV_answer_mend dc_answer_mend pm_answer_mend cd_answer_mend ct_answer_mend : Value} {f_answer_is : Addr} {od_answer_is an_answer_is : Option Addr} {sl_answer_is : Array (Option Value)} {oc_answer_is kV_answer_is dc_answer_is pm_answer_is cd_answer_is ct_answer_is : Value} {f_answer_look : Addr} {od_answer_look an_answer_look : Option Addr} {sl_answer_look : Array (Option Value)} {oc_answer_look kV_answer_look dc_answer_look pm_answer_look cd_answer_look ct_answer_look : Value} {f_best_and_first : Addr} {od_best_and_first an_best_and_first : Option Addr} {sl_best_and_first : Array (Option Value)} {oc_best_and_first kV_best_and_first dc_best_and_first pm_best_and_first cd_best_and_first ct_best_and_first : Value} {f_answer_shortest : Addr} {od_answer_shortest an_answer_shortest : Option Addr} {sl_answer_shortest : Array (Option Value)} {oc_answer_shortest kV_answer_shortest dc_answer_shortest pm_answer_shortest cd_answer_shortest ct_answer_shortest : Value} {f_answer_most : Addr} {od_answer_most an_answer_most : Option Addr} {sl_answer_most : Array (Option Value)} {oc_answer_most kV_answer_most dc_answer_most pm_answer_most cd_answer_most ct_answer_most : Value} {f_answer_flattest : Addr} {od_answer_flattest an_answer_flattest : Option Addr} {sl_answer_flattest : Array (Option Value)} {oc_answer_flattest kV_answer_flattest dc_answer_flattest pm_answer_flattest cd_answer_flattest ct_answer_flattest : Value} {f_answer_even : Addr} {od_answer_even an_answer_even : Option Addr} {sl_answer_even : Array (Option Value)} {oc_answer_even kV_answer_even dc_answer_even pm_answer_even cd_answer_even ct_answer_even : Value} {f_answer_which : Addr} {od_answer_which an_answer_which : Option Addr} {sl_answer_which : Array (Option Value)} {oc_answer_which kV_answer_which dc_answer_which pm_answer_which cd_answer_which ct_answer_which : Value} {f_answer_mirror : Addr} {od_answer_mirror an_answer_mirror : Option Addr} {sl_answer_mirror : Array (Option Value)} {oc_answer_mirror kV_answer_mirror dc_answer_mirror pm_answer_mirror cd_answer_mirror ct_answer_mirror : Value} {f_answer_call : Addr} {od_answer_call an_answer_call : Option Addr} {sl_answer_call : Array (Option Value)} {oc_answer_call kV_answer_call dc_answer_call pm_answer_call cd_answer_call ct_answer_call : Value} {f_answers : Addr} {od_answers an_answers : Option Addr} {sl_answers : Array (Option Value)} {oc_answers kV_answers dc_answers pm_answers cd_answers ct_answers : Value} {t_END : Tok} {t_BEGINNING : Tok} {t_NOT_A_SHOE : Tok} {t_NOT_A_LACING : Tok} {t_NO_SUCH_EYELET : Tok} {t_NO_SUCH_PLACE : Tok} {t_TORN_ALREADY : Tok} {t_NO_LACING : Tok} {t_NOT_TORN : Tok} {t_SHOE : Tok} {t_TEAR : Tok} {t_MEND : Tok} {t_IS : Tok} {t_LOOK : Tok} {t_SHORTEST : Tok} {t_MOST : Tok} {t_FLATTEST : Tok} {t_EVEN : Tok} {t_WHICH : Tok} {t_MIRROR : Tok} {t_NEW_SHOE_ROWS : Tok} {tp : Addr} {od_tp : Option Addr} {sl_tp : Array (Option Value)} {t1_tp t2_tp t3_tp : Tok} {n_tp : Nat}
    (aS : PySem.W.nsIn K mainGlobals "Shoe" = some (some (.ref C)))
    (aR : PySem.W.nsIn K mainGlobals "Reader" = some (some (.ref CR)))
    (a_is_across : PySem.W.nsIn K mainGlobals "is_across" = some (some (.ref f_is_across)))
    (l_is_across : K.lookup f_is_across = some ⟨oc_is_across, od_is_across, .func (PySem.W.fnOf "is_across" "is_across" (defArgs sAcross) (defBody sAcross) (defScope sAcross) .none kV_is_across dc_is_across pm_is_across an_is_across cd_is_across ct_is_across), sl_is_across⟩)
    (c_is_across : PySem.W.codeIn K cd_is_across "is_across" = true)
    (k_is_across : PySem.W.keepIn K (.ref f_is_across) = true)
    (a_is_held : PySem.W.nsIn K mainGlobals "is_held" = some (some (.ref f_is_held)))
    (l_is_held : K.lookup f_is_held = some ⟨oc_is_held, od_is_held, .func (PySem.W.fnOf "is_held" "is_held" (defArgs sHeld) (defBody sHeld) (defScope sHeld) .none kV_is_held dc_is_held pm_is_held an_is_held cd_is_held ct_is_held), sl_is_held⟩)
    (c_is_held : PySem.W.codeIn K cd_is_held "is_held" = true)
    (k_is_held : PySem.W.keepIn K (.ref f_is_held) = true)
    (a_may_go_on : PySem.W.nsIn K mainGlobals "may_go_on" = some (some (.ref f_may_go_on)))
    (l_may_go_on : K.lookup f_may_go_on = some ⟨oc_may_go_on, od_may_go_on, .func (PySem.W.fnOf "may_go_on" "may_go_on" (defArgs sGo) (defBody sGo) (defScope sGo) .none kV_may_go_on dc_may_go_on pm_may_go_on an_may_go_on cd_may_go_on ct_may_go_on), sl_may_go_on⟩)
    (c_may_go_on : PySem.W.codeIn K cd_may_go_on "may_go_on" = true)
    (k_may_go_on : PySem.W.keepIn K (.ref f_may_go_on) = true)
    (a_one_longer : PySem.W.nsIn K mainGlobals "one_longer" = some (some (.ref f_one_longer)))
    (l_one_longer : K.lookup f_one_longer = some ⟨oc_one_longer, od_one_longer, .func (PySem.W.fnOf "one_longer" "one_longer" (defArgs sLonger) (defBody sLonger) (defScope sLonger) .none kV_one_longer dc_one_longer pm_one_longer an_one_longer cd_one_longer ct_one_longer), sl_one_longer⟩)
    (c_one_longer : PySem.W.codeIn K cd_one_longer "one_longer" = true)
    (k_one_longer : PySem.W.keepIn K (.ref f_one_longer) = true)
    (a_all_lacings : PySem.W.nsIn K mainGlobals "all_lacings" = some (some (.ref f_all_lacings)))
    (l_all_lacings : K.lookup f_all_lacings = some ⟨oc_all_lacings, od_all_lacings, .func (PySem.W.fnOf "all_lacings" "all_lacings" (defArgs sAll) (defBody sAll) (defScope sAll) .none kV_all_lacings dc_all_lacings pm_all_lacings an_all_lacings cd_all_lacings ct_all_lacings), sl_all_lacings⟩)
    (c_all_lacings : PySem.W.codeIn K cd_all_lacings "all_lacings" = true)
    (k_all_lacings : PySem.W.keepIn K (.ref f_all_lacings) = true)
    (a_is_lacing : PySem.W.nsIn K mainGlobals "is_lacing" = some (some (.ref f_is_lacing)))
    (l_is_lacing : K.lookup f_is_lacing = some ⟨oc_is_lacing, od_is_lacing, .func (PySem.W.fnOf "is_lacing" "is_lacing" (defArgs sIsLacing) (defBody sIsLacing) (defScope sIsLacing) .none kV_is_lacing dc_is_lacing pm_is_lacing an_is_lacing cd_is_lacing ct_is_lacing), sl_is_lacing⟩)
    (c_is_lacing : PySem.W.codeIn K cd_is_lacing "is_lacing" = true)
    (k_is_lacing : PySem.W.keepIn K (.ref f_is_lacing) = true)
    (a_pieces : PySem.W.nsIn K mainGlobals "pieces" = some (some (.ref f_pieces)))
    (l_pieces : K.lookup f_pieces = some ⟨oc_pieces, od_pieces, .func (PySem.W.fnOf "pieces" "pieces" (defArgs sPieces) (defBody sPieces) (defScope sPieces) .none kV_pieces dc_pieces pm_pieces an_pieces cd_pieces ct_pieces), sl_pieces⟩)
    (c_pieces : PySem.W.codeIn K cd_pieces "pieces" = true)
    (k_pieces : PySem.W.keepIn K (.ref f_pieces) = true)
    (a_piece_length : PySem.W.nsIn K mainGlobals "piece_length" = some (some (.ref f_piece_length)))
    (l_piece_length : K.lookup f_piece_length = some ⟨oc_piece_length, od_piece_length, .func (PySem.W.fnOf "piece_length" "piece_length" (defArgs sPieceLen) (defBody sPieceLen) (defScope sPieceLen) .none kV_piece_length dc_piece_length pm_piece_length an_piece_length cd_piece_length ct_piece_length), sl_piece_length⟩)
    (c_piece_length : PySem.W.codeIn K cd_piece_length "piece_length" = true)
    (k_piece_length : PySem.W.keepIn K (.ref f_piece_length) = true)
    (a_lacing_length : PySem.W.nsIn K mainGlobals "lacing_length" = some (some (.ref f_lacing_length)))
    (l_lacing_length : K.lookup f_lacing_length = some ⟨oc_lacing_length, od_lacing_length, .func (PySem.W.fnOf "lacing_length" "lacing_length" (defArgs sLength) (defBody sLength) (defScope sLength) .none kV_lacing_length dc_lacing_length pm_lacing_length an_lacing_length cd_lacing_length ct_lacing_length), sl_lacing_length⟩)
    (c_lacing_length : PySem.W.codeIn K cd_lacing_length "lacing_length" = true)
    (k_lacing_length : PySem.W.keepIn K (.ref f_lacing_length) = true)
    (a_left_and_right_row : PySem.W.nsIn K mainGlobals "left_and_right_row" = some (some (.ref f_left_and_right_row)))
    (l_left_and_right_row : K.lookup f_left_and_right_row = some ⟨oc_left_and_right_row, od_left_and_right_row, .func (PySem.W.fnOf "left_and_right_row" "left_and_right_row" (defArgs sLeftRight) (defBody sLeftRight) (defScope sLeftRight) .none kV_left_and_right_row dc_left_and_right_row pm_left_and_right_row an_left_and_right_row cd_left_and_right_row ct_left_and_right_row), sl_left_and_right_row⟩)
    (c_left_and_right_row : PySem.W.codeIn K cd_left_and_right_row "left_and_right_row" = true)
    (k_left_and_right_row : PySem.W.keepIn K (.ref f_left_and_right_row) = true)
    (a_pieces_across : PySem.W.nsIn K mainGlobals "pieces_across" = some (some (.ref f_pieces_across)))
    (l_pieces_across : K.lookup f_pieces_across = some ⟨oc_pieces_across, od_pieces_across, .func (PySem.W.fnOf "pieces_across" "pieces_across" (defArgs sAcrossP) (defBody sAcrossP) (defScope sAcrossP) .none kV_pieces_across dc_pieces_across pm_pieces_across an_pieces_across cd_pieces_across ct_pieces_across), sl_pieces_across⟩)
    (c_pieces_across : PySem.W.codeIn K cd_pieces_across "pieces_across" = true)
    (k_pieces_across : PySem.W.keepIn K (.ref f_pieces_across) = true)
    (a_pull_count : PySem.W.nsIn K mainGlobals "pull_count" = some (some (.ref f_pull_count)))
    (l_pull_count : K.lookup f_pull_count = some ⟨oc_pull_count, od_pull_count, .func (PySem.W.fnOf "pull_count" "pull_count" (defArgs sPull) (defBody sPull) (defScope sPull) .none kV_pull_count dc_pull_count pm_pull_count an_pull_count cd_pull_count ct_pull_count), sl_pull_count⟩)
    (c_pull_count : PySem.W.codeIn K cd_pull_count "pull_count" = true)
    (k_pull_count : PySem.W.keepIn K (.ref f_pull_count) = true)
    (a_crossing_count : PySem.W.nsIn K mainGlobals "crossing_count" = some (some (.ref f_crossing_count)))
    (l_crossing_count : K.lookup f_crossing_count = some ⟨oc_crossing_count, od_crossing_count, .func (PySem.W.fnOf "crossing_count" "crossing_count" (defArgs sCrossing) (defBody sCrossing) (defScope sCrossing) .none kV_crossing_count dc_crossing_count pm_crossing_count an_crossing_count cd_crossing_count ct_crossing_count), sl_crossing_count⟩)
    (c_crossing_count : PySem.W.codeIn K cd_crossing_count "crossing_count" = true)
    (k_crossing_count : PySem.W.keepIn K (.ref f_crossing_count) = true)
    (a_eyelet_beside : PySem.W.nsIn K mainGlobals "eyelet_beside" = some (some (.ref f_eyelet_beside)))
    (l_eyelet_beside : K.lookup f_eyelet_beside = some ⟨oc_eyelet_beside, od_eyelet_beside, .func (PySem.W.fnOf "eyelet_beside" "eyelet_beside" (defArgs sBeside) (defBody sBeside) (defScope sBeside) .none kV_eyelet_beside dc_eyelet_beside pm_eyelet_beside an_eyelet_beside cd_eyelet_beside ct_eyelet_beside), sl_eyelet_beside⟩)
    (c_eyelet_beside : PySem.W.codeIn K cd_eyelet_beside "eyelet_beside" = true)
    (k_eyelet_beside : PySem.W.keepIn K (.ref f_eyelet_beside) = true)
    (a_in_mirror : PySem.W.nsIn K mainGlobals "in_mirror" = some (some (.ref f_in_mirror)))
    (l_in_mirror : K.lookup f_in_mirror = some ⟨oc_in_mirror, od_in_mirror, .func (PySem.W.fnOf "in_mirror" "in_mirror" (defArgs sMirror) (defBody sMirror) (defScope sMirror) .none kV_in_mirror dc_in_mirror pm_in_mirror an_in_mirror cd_in_mirror ct_in_mirror), sl_in_mirror⟩)
    (c_in_mirror : PySem.W.codeIn K cd_in_mirror "in_mirror" = true)
    (k_in_mirror : PySem.W.keepIn K (.ref f_in_mirror) = true)
    (a_is_even : PySem.W.nsIn K mainGlobals "is_even" = some (some (.ref f_is_even)))
    (l_is_even : K.lookup f_is_even = some ⟨oc_is_even, od_is_even, .func (PySem.W.fnOf "is_even" "is_even" (defArgs sIsEven) (defBody sIsEven) (defScope sIsEven) .none kV_is_even dc_is_even pm_is_even an_is_even cd_is_even ct_is_even), sl_is_even⟩)
    (c_is_even : PySem.W.codeIn K cd_is_even "is_even" = true)
    (k_is_even : PySem.W.keepIn K (.ref f_is_even) = true)
    (a_is_shoe : PySem.W.nsIn K mainGlobals "is_shoe" = some (some (.ref f_is_shoe)))
    (l_is_shoe : K.lookup f_is_shoe = some ⟨oc_is_shoe, od_is_shoe, .func (PySem.W.fnOf "is_shoe" "is_shoe" (defArgs sIsShoe) (defBody sIsShoe) (defScope sIsShoe) .none kV_is_shoe dc_is_shoe pm_is_shoe an_is_shoe cd_is_shoe ct_is_shoe), sl_is_shoe⟩)
    (c_is_shoe : PySem.W.codeIn K cd_is_shoe "is_shoe" = true)
    (k_is_shoe : PySem.W.keepIn K (.ref f_is_shoe) = true)
    (a_Shoe_set_whole : PySem.W.findIn K (.ref C) "set_whole" = some (some (.ref f_Shoe_set_whole)))
    (i_Shoe_set_whole : PySem.W.isFn K (.ref f_Shoe_set_whole) = true)
    (l_Shoe_set_whole : K.lookup f_Shoe_set_whole = some ⟨oc_Shoe_set_whole, od_Shoe_set_whole, .func (PySem.W.fnOf "set_whole" "Shoe.set_whole" (defArgs sSetWhole) (defBody sSetWhole) (defScope sSetWhole) .none kV_Shoe_set_whole dc_Shoe_set_whole pm_Shoe_set_whole an_Shoe_set_whole cd_Shoe_set_whole ct_Shoe_set_whole), sl_Shoe_set_whole⟩)
    (c_Shoe_set_whole : PySem.W.codeIn K cd_Shoe_set_whole "Shoe.set_whole" = true)
    (k_Shoe_set_whole : PySem.W.keepIn K (.ref f_Shoe_set_whole) = true)
    (a_Shoe_become : PySem.W.findIn K (.ref C) "become" = some (some (.ref f_Shoe_become)))
    (i_Shoe_become : PySem.W.isFn K (.ref f_Shoe_become) = true)
    (l_Shoe_become : K.lookup f_Shoe_become = some ⟨oc_Shoe_become, od_Shoe_become, .func (PySem.W.fnOf "become" "Shoe.become" (defArgs sBecome) (defBody sBecome) (defScope sBecome) .none kV_Shoe_become dc_Shoe_become pm_Shoe_become an_Shoe_become cd_Shoe_become ct_Shoe_become), sl_Shoe_become⟩)
    (c_Shoe_become : PySem.W.codeIn K cd_Shoe_become "Shoe.become" = true)
    (k_Shoe_become : PySem.W.keepIn K (.ref f_Shoe_become) = true)
    (a_Shoe___init__ : PySem.W.findIn K (.ref C) "__init__" = some (some (.ref f_Shoe___init__)))
    (i_Shoe___init__ : PySem.W.isFn K (.ref f_Shoe___init__) = true)
    (l_Shoe___init__ : K.lookup f_Shoe___init__ = some ⟨oc_Shoe___init__, od_Shoe___init__, .func (PySem.W.fnOf "__init__" "Shoe.__init__" (defArgs sShoeInit) (defBody sShoeInit) (defScope sShoeInit) .none kV_Shoe___init__ dc_Shoe___init__ pm_Shoe___init__ an_Shoe___init__ cd_Shoe___init__ ct_Shoe___init__), sl_Shoe___init__⟩)
    (c_Shoe___init__ : PySem.W.codeIn K cd_Shoe___init__ "Shoe.__init__" = true)
    (k_Shoe___init__ : PySem.W.keepIn K (.ref f_Shoe___init__) = true)
    (a_Shoe_has_tearable : PySem.W.findIn K (.ref C) "has_tearable" = some (some (.ref f_Shoe_has_tearable)))
    (i_Shoe_has_tearable : PySem.W.isFn K (.ref f_Shoe_has_tearable) = true)
    (l_Shoe_has_tearable : K.lookup f_Shoe_has_tearable = some ⟨oc_Shoe_has_tearable, od_Shoe_has_tearable, .func (PySem.W.fnOf "has_tearable" "Shoe.has_tearable" (defArgs sTearable) (defBody sTearable) (defScope sTearable) .none kV_Shoe_has_tearable dc_Shoe_has_tearable pm_Shoe_has_tearable an_Shoe_has_tearable cd_Shoe_has_tearable ct_Shoe_has_tearable), sl_Shoe_has_tearable⟩)
    (c_Shoe_has_tearable : PySem.W.codeIn K cd_Shoe_has_tearable "Shoe.has_tearable" = true)
    (k_Shoe_has_tearable : PySem.W.keepIn K (.ref f_Shoe_has_tearable) = true)
    (a_Reader___init__ : PySem.W.findIn K (.ref CR) "__init__" = some (some (.ref f_Reader___init__)))
    (i_Reader___init__ : PySem.W.isFn K (.ref f_Reader___init__) = true)
    (l_Reader___init__ : K.lookup f_Reader___init__ = some ⟨oc_Reader___init__, od_Reader___init__, .func (PySem.W.fnOf "__init__" "Reader.__init__" (defArgs sRdInit) (defBody sRdInit) (defScope sRdInit) .none kV_Reader___init__ dc_Reader___init__ pm_Reader___init__ an_Reader___init__ cd_Reader___init__ ct_Reader___init__), sl_Reader___init__⟩)
    (c_Reader___init__ : PySem.W.codeIn K cd_Reader___init__ "Reader.__init__" = true)
    (k_Reader___init__ : PySem.W.keepIn K (.ref f_Reader___init__) = true)
    (a_Reader_has_more : PySem.W.findIn K (.ref CR) "has_more" = some (some (.ref f_Reader_has_more)))
    (i_Reader_has_more : PySem.W.isFn K (.ref f_Reader_has_more) = true)
    (l_Reader_has_more : K.lookup f_Reader_has_more = some ⟨oc_Reader_has_more, od_Reader_has_more, .func (PySem.W.fnOf "has_more" "Reader.has_more" (defArgs sHasMore) (defBody sHasMore) (defScope sHasMore) .none kV_Reader_has_more dc_Reader_has_more pm_Reader_has_more an_Reader_has_more cd_Reader_has_more ct_Reader_has_more), sl_Reader_has_more⟩)
    (c_Reader_has_more : PySem.W.codeIn K cd_Reader_has_more "Reader.has_more" = true)
    (k_Reader_has_more : PySem.W.keepIn K (.ref f_Reader_has_more) = true)
    (a_Reader_take_number : PySem.W.findIn K (.ref CR) "take_number" = some (some (.ref f_Reader_take_number)))
    (i_Reader_take_number : PySem.W.isFn K (.ref f_Reader_take_number) = true)
    (l_Reader_take_number : K.lookup f_Reader_take_number = some ⟨oc_Reader_take_number, od_Reader_take_number, .func (PySem.W.fnOf "take_number" "Reader.take_number" (defArgs sTakeNumber) (defBody sTakeNumber) (defScope sTakeNumber) .none kV_Reader_take_number dc_Reader_take_number pm_Reader_take_number an_Reader_take_number cd_Reader_take_number ct_Reader_take_number), sl_Reader_take_number⟩)
    (c_Reader_take_number : PySem.W.codeIn K cd_Reader_take_number "Reader.take_number" = true)
    (k_Reader_take_number : PySem.W.keepIn K (.ref f_Reader_take_number) = true)
    (a_Reader_take_row : PySem.W.findIn K (.ref CR) "take_row" = some (some (.ref f_Reader_take_row)))
    (i_Reader_take_row : PySem.W.isFn K (.ref f_Reader_take_row) = true)
    (l_Reader_take_row : K.lookup f_Reader_take_row = some ⟨oc_Reader_take_row, od_Reader_take_row, .func (PySem.W.fnOf "take_row" "Reader.take_row" (defArgs sTakeRow) (defBody sTakeRow) (defScope sTakeRow) .none kV_Reader_take_row dc_Reader_take_row pm_Reader_take_row an_Reader_take_row cd_Reader_take_row ct_Reader_take_row), sl_Reader_take_row⟩)
    (c_Reader_take_row : PySem.W.codeIn K cd_Reader_take_row "Reader.take_row" = true)
    (k_Reader_take_row : PySem.W.keepIn K (.ref f_Reader_take_row) = true)
    (a_answer_shoe : PySem.W.nsIn K mainGlobals "answer_shoe" = some (some (.ref f_answer_shoe)))
    (l_answer_shoe : K.lookup f_answer_shoe = some ⟨oc_answer_shoe, od_answer_shoe, .func (PySem.W.fnOf "answer_shoe" "answer_shoe" (defArgs sAnsShoe) (defBody sAnsShoe) (defScope sAnsShoe) .none kV_answer_shoe dc_answer_shoe pm_answer_shoe an_answer_shoe cd_answer_shoe ct_answer_shoe), sl_answer_shoe⟩)
    (c_answer_shoe : PySem.W.codeIn K cd_answer_shoe "answer_shoe" = true)
    (k_answer_shoe : PySem.W.keepIn K (.ref f_answer_shoe) = true)
    (a_answer_tear : PySem.W.nsIn K mainGlobals "answer_tear" = some (some (.ref f_answer_tear)))
    (l_answer_tear : K.lookup f_answer_tear = some ⟨oc_answer_tear, od_answer_tear, .func (PySem.W.fnOf "answer_tear" "answer_tear" (defArgs sAnsTear) (defBody sAnsTear) (defScope sAnsTear) .none kV_answer_tear dc_answer_tear pm_answer_tear an_answer_tear cd_answer_tear ct_answer_tear), sl_answer_tear⟩)
    (c_answer_tear : PySem.W.codeIn K cd_answer_tear "answer_tear" = true)
    (k_answer_tear : PySem.W.keepIn K (.ref f_answer_tear) = true)
    (a_answer_mend : PySem.W.nsIn K mainGlobals "answer_mend" = some (some (.ref f_answer_mend)))
    (l_answer_mend : K.lookup f_answer_mend = some ⟨oc_answer_mend, od_answer_mend, .func (PySem.W.fnOf "answer_mend" "answer_mend" (defArgs sAnsMend) (defBody sAnsMend) (defScope sAnsMend) .none kV_answer_mend dc_answer_mend pm_answer_mend an_answer_mend cd_answer_mend ct_answer_mend), sl_answer_mend⟩)
    (c_answer_mend : PySem.W.codeIn K cd_answer_mend "answer_mend" = true)
    (k_answer_mend : PySem.W.keepIn K (.ref f_answer_mend) = true)
    (a_answer_is : PySem.W.nsIn K mainGlobals "answer_is" = some (some (.ref f_answer_is)))
    (l_answer_is : K.lookup f_answer_is = some ⟨oc_answer_is, od_answer_is, .func (PySem.W.fnOf "answer_is" "answer_is" (defArgs sAnsIs) (defBody sAnsIs) (defScope sAnsIs) .none kV_answer_is dc_answer_is pm_answer_is an_answer_is cd_answer_is ct_answer_is), sl_answer_is⟩)
    (c_answer_is : PySem.W.codeIn K cd_answer_is "answer_is" = true)
    (k_answer_is : PySem.W.keepIn K (.ref f_answer_is) = true)
    (a_answer_look : PySem.W.nsIn K mainGlobals "answer_look" = some (some (.ref f_answer_look)))
    (l_answer_look : K.lookup f_answer_look = some ⟨oc_answer_look, od_answer_look, .func (PySem.W.fnOf "answer_look" "answer_look" (defArgs sAnsLook) (defBody sAnsLook) (defScope sAnsLook) .none kV_answer_look dc_answer_look pm_answer_look an_answer_look cd_answer_look ct_answer_look), sl_answer_look⟩)
    (c_answer_look : PySem.W.codeIn K cd_answer_look "answer_look" = true)
    (k_answer_look : PySem.W.keepIn K (.ref f_answer_look) = true)
    (a_best_and_first : PySem.W.nsIn K mainGlobals "best_and_first" = some (some (.ref f_best_and_first)))
    (l_best_and_first : K.lookup f_best_and_first = some ⟨oc_best_and_first, od_best_and_first, .func (PySem.W.fnOf "best_and_first" "best_and_first" (defArgs sBest) (defBody sBest) (defScope sBest) .none kV_best_and_first dc_best_and_first pm_best_and_first an_best_and_first cd_best_and_first ct_best_and_first), sl_best_and_first⟩)
    (c_best_and_first : PySem.W.codeIn K cd_best_and_first "best_and_first" = true)
    (k_best_and_first : PySem.W.keepIn K (.ref f_best_and_first) = true)
    (a_answer_shortest : PySem.W.nsIn K mainGlobals "answer_shortest" = some (some (.ref f_answer_shortest)))
    (l_answer_shortest : K.lookup f_answer_shortest = some ⟨oc_answer_shortest, od_answer_shortest, .func (PySem.W.fnOf "answer_shortest" "answer_shortest" (defArgs sAnsShortest) (defBody sAnsShortest) (defScope sAnsShortest) .none kV_answer_shortest dc_answer_shortest pm_answer_shortest an_answer_shortest cd_answer_shortest ct_answer_shortest), sl_answer_shortest⟩)
    (c_answer_shortest : PySem.W.codeIn K cd_answer_shortest "answer_shortest" = true)
    (k_answer_shortest : PySem.W.keepIn K (.ref f_answer_shortest) = true)
    (a_answer_most : PySem.W.nsIn K mainGlobals "answer_most" = some (some (.ref f_answer_most)))
    (l_answer_most : K.lookup f_answer_most = some ⟨oc_answer_most, od_answer_most, .func (PySem.W.fnOf "answer_most" "answer_most" (defArgs sAnsMost) (defBody sAnsMost) (defScope sAnsMost) .none kV_answer_most dc_answer_most pm_answer_most an_answer_most cd_answer_most ct_answer_most), sl_answer_most⟩)
    (c_answer_most : PySem.W.codeIn K cd_answer_most "answer_most" = true)
    (k_answer_most : PySem.W.keepIn K (.ref f_answer_most) = true)
    (a_answer_flattest : PySem.W.nsIn K mainGlobals "answer_flattest" = some (some (.ref f_answer_flattest)))
    (l_answer_flattest : K.lookup f_answer_flattest = some ⟨oc_answer_flattest, od_answer_flattest, .func (PySem.W.fnOf "answer_flattest" "answer_flattest" (defArgs sAnsFlattest) (defBody sAnsFlattest) (defScope sAnsFlattest) .none kV_answer_flattest dc_answer_flattest pm_answer_flattest an_answer_flattest cd_answer_flattest ct_answer_flattest), sl_answer_flattest⟩)
    (c_answer_flattest : PySem.W.codeIn K cd_answer_flattest "answer_flattest" = true)
    (k_answer_flattest : PySem.W.keepIn K (.ref f_answer_flattest) = true)
    (a_answer_even : PySem.W.nsIn K mainGlobals "answer_even" = some (some (.ref f_answer_even)))
    (l_answer_even : K.lookup f_answer_even = some ⟨oc_answer_even, od_answer_even, .func (PySem.W.fnOf "answer_even" "answer_even" (defArgs sAnsEven) (defBody sAnsEven) (defScope sAnsEven) .none kV_answer_even dc_answer_even pm_answer_even an_answer_even cd_answer_even ct_answer_even), sl_answer_even⟩)
    (c_answer_even : PySem.W.codeIn K cd_answer_even "answer_even" = true)
    (k_answer_even : PySem.W.keepIn K (.ref f_answer_even) = true)
    (a_answer_which : PySem.W.nsIn K mainGlobals "answer_which" = some (some (.ref f_answer_which)))
    (l_answer_which : K.lookup f_answer_which = some ⟨oc_answer_which, od_answer_which, .func (PySem.W.fnOf "answer_which" "answer_which" (defArgs sAnsWhich) (defBody sAnsWhich) (defScope sAnsWhich) .none kV_answer_which dc_answer_which pm_answer_which an_answer_which cd_answer_which ct_answer_which), sl_answer_which⟩)
    (c_answer_which : PySem.W.codeIn K cd_answer_which "answer_which" = true)
    (k_answer_which : PySem.W.keepIn K (.ref f_answer_which) = true)
    (a_answer_mirror : PySem.W.nsIn K mainGlobals "answer_mirror" = some (some (.ref f_answer_mirror)))
    (l_answer_mirror : K.lookup f_answer_mirror = some ⟨oc_answer_mirror, od_answer_mirror, .func (PySem.W.fnOf "answer_mirror" "answer_mirror" (defArgs sAnsMirror) (defBody sAnsMirror) (defScope sAnsMirror) .none kV_answer_mirror dc_answer_mirror pm_answer_mirror an_answer_mirror cd_answer_mirror ct_answer_mirror), sl_answer_mirror⟩)
    (c_answer_mirror : PySem.W.codeIn K cd_answer_mirror "answer_mirror" = true)
    (k_answer_mirror : PySem.W.keepIn K (.ref f_answer_mirror) = true)
    (a_answer_call : PySem.W.nsIn K mainGlobals "answer_call" = some (some (.ref f_answer_call)))
    (l_answer_call : K.lookup f_answer_call = some ⟨oc_answer_call, od_answer_call, .func (PySem.W.fnOf "answer_call" "answer_call" (defArgs sAnsCall) (defBody sAnsCall) (defScope sAnsCall) .none kV_answer_call dc_answer_call pm_answer_call an_answer_call cd_answer_call ct_answer_call), sl_answer_call⟩)
    (c_answer_call : PySem.W.codeIn K cd_answer_call "answer_call" = true)
    (k_answer_call : PySem.W.keepIn K (.ref f_answer_call) = true)
    (a_answers : PySem.W.nsIn K mainGlobals "answers" = some (some (.ref f_answers)))
    (l_answers : K.lookup f_answers = some ⟨oc_answers, od_answers, .func (PySem.W.fnOf "answers" "answers" (defArgs sAnswers) (defBody sAnswers) (defScope sAnswers) .none kV_answers dc_answers pm_answers an_answers cd_answers ct_answers), sl_answers⟩)
    (c_answers : PySem.W.codeIn K cd_answers "answers" = true)
    (k_answers : PySem.W.keepIn K (.ref f_answers) = true)
    (pg_C : PySem.W.plainGet K C Str.empty = true)
    (hd_C : PySem.W.hasDictIn K C = true)
    (po_C : PySem.W.plainOver K C = true)
    (sa_C : PySem.W.findIn K (.ref C) "__setattr__" = some (some (.builtin "object.__setattr__")))
    (mk_C : PySem.W.makesIn K C = true)
    (kc_C : PySem.W.keepIn K (.ref C) = true)
    (pg_CR : PySem.W.plainGet K CR Str.empty = true)
    (hd_CR : PySem.W.hasDictIn K CR = true)
    (po_CR : PySem.W.plainOver K CR = true)
    (sa_CR : PySem.W.findIn K (.ref CR) "__setattr__" = some (some (.builtin "object.__setattr__")))
    (mk_CR : PySem.W.makesIn K CR = true)
    (kc_CR : PySem.W.keepIn K (.ref CR) = true)
    (n_eyelet_count : PySem.W.findIn K (.ref C) "eyelet_count" = some none)
    (n_across : PySem.W.findIn K (.ref C) "across" = some none)
    (n_along : PySem.W.findIn K (.ref C) "along" = some none)
    (n_whole : PySem.W.findIn K (.ref C) "whole" = some none)
    (n_laced : PySem.W.findIn K (.ref C) "laced" = some none)
    (n_numbers : PySem.W.findIn K (.ref CR) "numbers" = some none)
    (n_place : PySem.W.findIn K (.ref CR) "place" = some none)
    (v_END : PySem.W.nsIn K mainGlobals "END" = some (some (.int 1 t_END)))
    (v_BEGINNING : PySem.W.nsIn K mainGlobals "BEGINNING" = some (some (.int 0 t_BEGINNING)))
    (v_NOT_A_SHOE : PySem.W.nsIn K mainGlobals "NOT_A_SHOE" = some (some (.int (-1) t_NOT_A_SHOE)))
    (v_NOT_A_LACING : PySem.W.nsIn K mainGlobals "NOT_A_LACING" = some (some (.int (-1) t_NOT_A_LACING)))
    (v_NO_SUCH_EYELET : PySem.W.nsIn K mainGlobals "NO_SUCH_EYELET" = some (some (.int (-2) t_NO_SUCH_EYELET)))
    (v_NO_SUCH_PLACE : PySem.W.nsIn K mainGlobals "NO_SUCH_PLACE" = some (some (.int (-3) t_NO_SUCH_PLACE)))
    (v_TORN_ALREADY : PySem.W.nsIn K mainGlobals "TORN_ALREADY" = some (some (.int (-4) t_TORN_ALREADY)))
    (v_NO_LACING : PySem.W.nsIn K mainGlobals "NO_LACING" = some (some (.int (-6) t_NO_LACING)))
    (v_NOT_TORN : PySem.W.nsIn K mainGlobals "NOT_TORN" = some (some (.int (-9) t_NOT_TORN)))
    (v_SHOE : PySem.W.nsIn K mainGlobals "SHOE" = some (some (.int 0 t_SHOE)))
    (v_TEAR : PySem.W.nsIn K mainGlobals "TEAR" = some (some (.int 1 t_TEAR)))
    (v_MEND : PySem.W.nsIn K mainGlobals "MEND" = some (some (.int 2 t_MEND)))
    (v_IS : PySem.W.nsIn K mainGlobals "IS" = some (some (.int 3 t_IS)))
    (v_LOOK : PySem.W.nsIn K mainGlobals "LOOK" = some (some (.int 4 t_LOOK)))
    (v_SHORTEST : PySem.W.nsIn K mainGlobals "SHORTEST" = some (some (.int 5 t_SHORTEST)))
    (v_MOST : PySem.W.nsIn K mainGlobals "MOST" = some (some (.int 6 t_MOST)))
    (v_FLATTEST : PySem.W.nsIn K mainGlobals "FLATTEST" = some (some (.int 7 t_FLATTEST)))
    (v_EVEN : PySem.W.nsIn K mainGlobals "EVEN" = some (some (.int 8 t_EVEN)))
    (v_WHICH : PySem.W.nsIn K mainGlobals "WHICH" = some (some (.int 9 t_WHICH)))
    (v_MIRROR : PySem.W.nsIn K mainGlobals "MIRROR" = some (some (.int 10 t_MIRROR)))
    (v_NEW_SHOE_ROWS : PySem.W.nsIn K mainGlobals "NEW_SHOE_ROWS" = some (some (.int 2 t_NEW_SHOE_ROWS)))
    (z_len : PySem.W.nsIn K mainGlobals "len" = some none)
    (z_range : PySem.W.nsIn K mainGlobals "range" = some none)
    (z_all : PySem.W.nsIn K mainGlobals "all" = some none)
    (z_sorted : PySem.W.nsIn K mainGlobals "sorted" = some none)
    (z_list : PySem.W.nsIn K mainGlobals "list" = some none)
    (z_zip : PySem.W.nsIn K mainGlobals "zip" = some none)
    (z_abs : PySem.W.nsIn K mainGlobals "abs" = some none)
    (z_sum : PySem.W.nsIn K mainGlobals "sum" = some none)
    (z_min : PySem.W.nsIn K mainGlobals "min" = some none)
    (z_max : PySem.W.nsIn K mainGlobals "max" = some none)
    (z_reversed : PySem.W.nsIn K mainGlobals "reversed" = some none)
    (v_tp : PySem.W.nsIn K mainGlobals "NEW_SHOE_LENGTHS" = some (some (.ref tp)))
    (l_tp : K.lookup tp = some ⟨.type "tuple", od_tp, .seq #[.int 2 t1_tp, .int 3 t2_tp, .int 1 t3_tp] n_tp, sl_tp⟩) :
    ∃ fd : FuncData, (∀ (s : Shared) (us : List Value), us.length = (["calls"] : List Str).length → BindsTo s fd ⟨us, []⟩ ((["calls"] : List Str).zip us)) ∧ ∀ base : Heap, K.In base → base.Ns mainGlobals mg → FnOk P w K mg base CX0 10 fa fd ["calls"] (spAnswers K) := by
  have e := hfa.symm.trans (PySem.W.mg_of X G a_answers)
  cases e
  have g_END := PySem.W.mg_of X G v_END
  have g_BEGINNING := PySem.W.mg_of X G v_BEGINNING
  have g_NOT_A_SHOE := PySem.W.mg_of X G v_NOT_A_SHOE
  have g_NOT_A_LACING := PySem.W.mg_of X G v_NOT_A_LACING
  have g_NO_SUCH_EYELET := PySem.W.mg_of X G v_NO_SUCH_EYELET
  have g_NO_SUCH_PLACE := PySem.W.mg_of X G v_NO_SUCH_PLACE
  have g_TORN_ALREADY := PySem.W.mg_of X G v_TORN_ALREADY
  have g_NO_LACING := PySem.W.mg_of X G v_NO_LACING
  have g_NOT_TORN := PySem.W.mg_of X G v_NOT_TORN
  have g_SHOE := PySem.W.mg_of X G v_SHOE
  have g_TEAR := PySem.W.mg_of X G v_TEAR
  have g_MEND := PySem.W.mg_of X G v_MEND
  have g_IS := PySem.W.mg_of X G v_IS
  have g_LOOK := PySem.W.mg_of X G v_LOOK
  have g_SHORTEST := PySem.W.mg_of X G v_SHORTEST
  have g_MOST := PySem.W.mg_of X G v_MOST
  have g_FLATTEST := PySem.W.mg_of X G v_FLATTEST
  have g_EVEN := PySem.W.mg_of X G v_EVEN
  have g_WHICH := PySem.W.mg_of X G v_WHICH
  have g_MIRROR := PySem.W.mg_of X G v_MIRROR
  have g_NEW_SHOE_ROWS := PySem.W.mg_of X G v_NEW_SHOE_ROWS
  have g_NEW_SHOE_LENGTHS := PySem.W.mg_of X G v_tp
  have y_len := PySem.W.mg_none_of X G z_len
  have y_range := PySem.W.mg_none_of X G z_range
  have y_all := PySem.W.mg_none_of X G z_all
  have y_sorted := PySem.W.mg_none_of X G z_sorted
  have y_list := PySem.W.mg_none_of X G z_list
  have y_zip := PySem.W.mg_none_of X G z_zip
  have y_abs := PySem.W.mg_none_of X G z_abs
  have y_sum := PySem.W.mg_none_of X G z_sum
  have y_min := PySem.W.mg_none_of X G z_min
  have y_max := PySem.W.mg_none_of X G z_max
  have y_reversed := PySem.W.mg_none_of X G z_reversed
  have T : Glo mg := ⟨y_len, y_range, y_all, y_sorted, y_list, y_zip, y_abs, y_sum, y_min, y_max, y_reversed, ⟨_, g_END⟩, ⟨_, g_BEGINNING⟩⟩
  have U : Refuse mg := ⟨⟨_, g_NOT_A_SHOE⟩, ⟨_, g_NOT_A_LACING⟩, ⟨_, g_NO_SUCH_EYELET⟩, ⟨_, g_NO_SUCH_PLACE⟩, ⟨_, g_TORN_ALREADY⟩, ⟨_, g_NO_LACING⟩, ⟨_, g_NOT_TORN⟩⟩
  have N : Nums mg := ⟨⟨_, g_SHOE⟩, ⟨_, g_TEAR⟩, ⟨_, g_MEND⟩, ⟨_, g_IS⟩, ⟨_, g_LOOK⟩, ⟨_, g_SHORTEST⟩, ⟨_, g_MOST⟩, ⟨_, g_FLATTEST⟩, ⟨_, g_EVEN⟩, ⟨_, g_WHICH⟩, ⟨_, g_MIRROR⟩⟩
  have S : SCls K C := ⟨⟨pg_C, hd_C, po_C, sa_C⟩, fun f hf => by
    have hf' : f = "eyelet_count" ∨ f = "across" ∨ f = "along" ∨ f = "whole" ∨ f = "laced" := by simpa [five] using hf
    rcases hf' with rfl | rfl | rfl | rfl | rfl
    · exact n_eyelet_count
    · exact n_across
    · exact n_along
    · exact n_whole
    · exact n_laced⟩
  have RS : RCls K CR := ⟨⟨pg_CR, hd_CR, po_CR, sa_CR⟩, fun f hf => by
    have hf' : f = "numbers" ∨ f = "place" := by simpa [two] using hf
    rcases hf' with rfl | rfl
    · exact n_numbers
    · exact n_place⟩
  have htp : ∀ H, SqT K H tp (nv [2, 3, 1]) := fun H => .inr ⟨_, _, _, l_tp, rfl, rfl, by show 3 ≤ sizeLine; decide, .cons ⟨_, rfl⟩ (.cons ⟨_, rfl⟩ (.cons ⟨_, rfl⟩ .nil))⟩
  have F_is_across := fun_mk (st := sAcross) l_is_across c_is_across k_is_across
  have b_is_across := F_is_across.binds (ps := ["eyelet", "other"]) fun _ _ _ _ _ _ us hl => match us, hl with | [_, _], _ => rfl
  have F_is_held := fun_mk (st := sHeld) l_is_held c_is_held k_is_held
  have b_is_held := F_is_held.binds (ps := ["ahead", "eyelet", "behind"]) fun _ _ _ _ _ _ us hl => match us, hl with | [_, _, _], _ => rfl
  have F_may_go_on := fun_mk (st := sGo) l_may_go_on c_may_go_on k_may_go_on
  have b_may_go_on := F_may_go_on.binds (ps := ["begun", "eyelet"]) fun _ _ _ _ _ _ us hl => match us, hl with | [_, _], _ => rfl
  have F_one_longer := fun_mk (st := sLonger) l_one_longer c_one_longer k_one_longer
  have b_one_longer := F_one_longer.binds (ps := ["begun_lacings", "eyelets"]) fun _ _ _ _ _ _ us hl => match us, hl with | [_, _], _ => rfl
  have F_all_lacings := fun_mk (st := sAll) l_all_lacings c_all_lacings k_all_lacings
  have b_all_lacings := F_all_lacings.binds (ps := ["whole"]) fun _ _ _ _ _ _ us hl => match us, hl with | [_], _ => rfl
  have F_is_lacing := fun_mk (st := sIsLacing) l_is_lacing c_is_lacing k_is_lacing
  have b_is_lacing := F_is_lacing.binds (ps := ["shoe", "row"]) fun _ _ _ _ _ _ us hl => match us, hl with | [_, _], _ => rfl
  have F_pieces := fun_mk (st := sPieces) l_pieces c_pieces k_pieces
  have b_pieces := F_pieces.binds (ps := ["lacing"]) fun _ _ _ _ _ _ us hl => match us, hl with | [_], _ => rfl
  have F_piece_length := fun_mk (st := sPieceLen) l_piece_length c_piece_length k_piece_length
  have b_piece_length := F_piece_length.binds (ps := ["shoe", "piece"]) fun _ _ _ _ _ _ us hl => match us, hl with | [_, _], _ => rfl
  have F_lacing_length := fun_mk (st := sLength) l_lacing_length c_lacing_length k_lacing_length
  have b_lacing_length := F_lacing_length.binds (ps := ["shoe", "lacing"]) fun _ _ _ _ _ _ us hl => match us, hl with | [_, _], _ => rfl
  have F_left_and_right_row := fun_mk (st := sLeftRight) l_left_and_right_row c_left_and_right_row k_left_and_right_row
  have b_left_and_right_row := F_left_and_right_row.binds (ps := ["piece"]) fun _ _ _ _ _ _ us hl => match us, hl with | [_], _ => rfl
  have F_pieces_across := fun_mk (st := sAcrossP) l_pieces_across c_pieces_across k_pieces_across
  have b_pieces_across := F_pieces_across.binds (ps := ["lacing"]) fun _ _ _ _ _ _ us hl => match us, hl with | [_], _ => rfl
  have F_pull_count := fun_mk (st := sPull) l_pull_count c_pull_count k_pull_count
  have b_pull_count := F_pull_count.binds (ps := ["lacing"]) fun _ _ _ _ _ _ us hl => match us, hl with | [_], _ => rfl
  have F_crossing_count := fun_mk (st := sCrossing) l_crossing_count c_crossing_count k_crossing_count
  have b_crossing_count := F_crossing_count.binds (ps := ["lacing"]) fun _ _ _ _ _ _ us hl => match us, hl with | [_], _ => rfl
  have F_eyelet_beside := fun_mk (st := sBeside) l_eyelet_beside c_eyelet_beside k_eyelet_beside
  have b_eyelet_beside := F_eyelet_beside.binds (ps := ["eyelet"]) fun _ _ _ _ _ _ us hl => match us, hl with | [_], _ => rfl
  have F_in_mirror := fun_mk (st := sMirror) l_in_mirror c_in_mirror k_in_mirror
  have b_in_mirror := F_in_mirror.binds (ps := ["lacing"]) fun _ _ _ _ _ _ us hl => match us, hl with | [_], _ => rfl
  have F_is_even := fun_mk (st := sIsEven) l_is_even c_is_even k_is_even
  have b_is_even := F_is_even.binds (ps := ["lacing"]) fun _ _ _ _ _ _ us hl => match us, hl with | [_], _ => rfl
  have F_is_shoe := fun_mk (st := sIsShoe) l_is_shoe c_is_shoe k_is_shoe
  have b_is_shoe := F_is_shoe.binds (ps := ["n", "lengths"]) fun _ _ _ _ _ _ us hl => match us, hl with | [_, _], _ => rfl
  have F_Shoe_set_whole := fun_mk (st := sSetWhole) l_Shoe_set_whole c_Shoe_set_whole k_Shoe_set_whole
  have b_Shoe_set_whole := F_Shoe_set_whole.binds (ps := ["self", "eyelets"]) fun _ _ _ _ _ _ us hl => match us, hl with | [_, _], _ => rfl
  have F_Shoe_become := fun_mk (st := sBecome) l_Shoe_become c_Shoe_become k_Shoe_become
  have b_Shoe_become := F_Shoe_become.binds (ps := ["self", "n", "lengths"]) fun _ _ _ _ _ _ us hl => match us, hl with | [_, _, _], _ => rfl
  have F_Shoe___init__ := fun_mk (st := sShoeInit) l_Shoe___init__ c_Shoe___init__ k_Shoe___init__
  have b_Shoe___init__ := F_Shoe___init__.binds (ps := ["self", "n", "lengths"]) fun _ _ _ _ _ _ us hl => match us, hl with | [_, _, _], _ => rfl
  have F_Shoe_has_tearable := fun_mk (st := sTearable) l_Shoe_has_tearable c_Shoe_has_tearable k_Shoe_has_tearable
  have b_Shoe_has_tearable := F_Shoe_has_tearable.binds (ps := ["self", "eyelet"]) fun _ _ _ _ _ _ us hl => match us, hl with | [_, _], _ => rfl
  have F_Reader___init__ := fun_mk (st := sRdInit) l_Reader___init__ c_Reader___init__ k_Reader___init__
  have b_Reader___init__ := F_Reader___init__.binds (ps := ["self", "numbers"]) fun _ _ _ _ _ _ us hl => match us, hl with | [_, _], _ => rfl
  have F_Reader_has_more := fun_mk (st := sHasMore) l_Reader_has_more c_Reader_has_more k_Reader_has_more
  have b_Reader_has_more := F_Reader_has_more.binds (ps := ["self"]) fun _ _ _ _ _ _ us hl => match us, hl with | [_], _ => rfl
  have F_Reader_take_number := fun_mk (st := sTakeNumber) l_Reader_take_number c_Reader_take_number k_Reader_take_number
  have b_Reader_take_number := F_Reader_take_number.binds (ps := ["self"]) fun _ _ _ _ _ _ us hl => match us, hl with | [_], _ => rfl
  have F_Reader_take_row := fun_mk (st := sTakeRow) l_Reader_take_row c_Reader_take_row k_Reader_take_row
  have b_Reader_take_row := F_Reader_take_row.binds (ps := ["self"]) fun _ _ _ _ _ _ us hl => match us, hl with | [_], _ => rfl
  have F_answer_shoe := fun_mk (st := sAnsShoe) l_answer_shoe c_answer_shoe k_answer_shoe
  have b_answer_shoe := F_answer_shoe.binds (ps := ["shoe", "n", "lengths"]) fun _ _ _ _ _ _ us hl => match us, hl with | [_, _, _], _ => rfl
  have F_answer_tear := fun_mk (st := sAnsTear) l_answer_tear c_answer_tear k_answer_tear
  have b_answer_tear := F_answer_tear.binds (ps := ["shoe", "eyelet"]) fun _ _ _ _ _ _ us hl => match us, hl with | [_, _], _ => rfl
  have F_answer_mend := fun_mk (st := sAnsMend) l_answer_mend c_answer_mend k_answer_mend
  have b_answer_mend := F_answer_mend.binds (ps := ["shoe", "eyelet"]) fun _ _ _ _ _ _ us hl => match us, hl with | [_, _], _ => rfl
  have F_answer_is := fun_mk (st := sAnsIs) l_answer_is c_answer_is k_answer_is
  have b_answer_is := F_answer_is.binds (ps := ["shoe", "row"]) fun _ _ _ _ _ _ us hl => match us, hl with | [_, _], _ => rfl
  have F_answer_look := fun_mk (st := sAnsLook) l_answer_look c_answer_look k_answer_look
  have b_answer_look := F_answer_look.binds (ps := ["shoe", "row"]) fun _ _ _ _ _ _ us hl => match us, hl with | [_, _], _ => rfl
  have F_best_and_first := fun_mk (st := sBest) l_best_and_first c_best_and_first k_best_and_first
  have b_best_and_first := F_best_and_first.binds (ps := ["lacings", "marks", "best"]) fun _ _ _ _ _ _ us hl => match us, hl with | [_, _, _], _ => rfl
  have F_answer_shortest := fun_mk (st := sAnsShortest) l_answer_shortest c_answer_shortest k_answer_shortest
  have b_answer_shortest := F_answer_shortest.binds (ps := ["shoe"]) fun _ _ _ _ _ _ us hl => match us, hl with | [_], _ => rfl
  have F_answer_most := fun_mk (st := sAnsMost) l_answer_most c_answer_most k_answer_most
  have b_answer_most := F_answer_most.binds (ps := ["shoe", "length"]) fun _ _ _ _ _ _ us hl => match us, hl with | [_, _], _ => rfl
  have F_answer_flattest := fun_mk (st := sAnsFlattest) l_answer_flattest c_answer_flattest k_answer_flattest
  have b_answer_flattest := F_answer_flattest.binds (ps := ["shoe"]) fun _ _ _ _ _ _ us hl => match us, hl with | [_], _ => rfl
  have F_answer_even := fun_mk (st := sAnsEven) l_answer_even c_answer_even k_answer_even
  have b_answer_even := F_answer_even.binds (ps := ["shoe"]) fun _ _ _ _ _ _ us hl => match us, hl with | [_], _ => rfl
  have F_answer_which := fun_mk (st := sAnsWhich) l_answer_which c_answer_which k_answer_which
  have b_answer_which := F_answer_which.binds (ps := ["shoe", "k"]) fun _ _ _ _ _ _ us hl => match us, hl with | [_, _], _ => rfl
  have F_answer_mirror := fun_mk (st := sAnsMirror) l_answer_mirror c_answer_mirror k_answer_mirror
  have b_answer_mirror := F_answer_mirror.binds (ps := ["shoe", "row"]) fun _ _ _ _ _ _ us hl => match us, hl with | [_, _], _ => rfl
  have F_answer_call := fun_mk (st := sAnsCall) l_answer_call c_answer_call k_answer_call
  have b_answer_call := F_answer_call.binds (ps := ["shoe", "reader"]) fun _ _ _ _ _ _ us hl => match us, hl with | [_, _], _ => rfl
  have F_answers := fun_mk (st := sAnswers) l_answers c_answers k_answers
  refine ⟨PySem.W.fnOf "answers" "answers" (defArgs sAnswers) (defBody sAnswers) (defScope sAnswers) .none kV_answers dc_answers pm_answers an_answers cd_answers ct_answers, fun s us hu => match us, hu with | [_], _ => .of_eq rfl, fun base kb nb => ?_⟩
  have D_is_across : Def P w K mg base "is_across" 1 ["eyelet", "other"] spAcross := Def.of F_is_across (ok_across F_is_across) (PySem.W.mg_of X G a_is_across) b_is_across
  have D_is_held : Def P w K mg base "is_held" 2 ["ahead", "eyelet", "behind"] spHeld := Def.of F_is_held (ok_held F_is_held D_is_across) (PySem.W.mg_of X G a_is_held) b_is_held
  have D_may_go_on : Def P w K mg base "may_go_on" 3 ["begun", "eyelet"] spGo := Def.of F_may_go_on (ok_go F_may_go_on T D_is_held) (PySem.W.mg_of X G a_may_go_on) b_may_go_on
  have D_one_longer : Def P w K mg base "one_longer" 4 ["begun_lacings", "eyelets"] spLonger := Def.of F_one_longer (ok_longer F_one_longer D_may_go_on) (PySem.W.mg_of X G a_one_longer) b_one_longer
  have D_all_lacings : Def P w K mg base "all_lacings" 5 ["whole"] spAll := Def.of F_all_lacings (ok_all F_all_lacings T D_may_go_on D_one_longer) (PySem.W.mg_of X G a_all_lacings) b_all_lacings
  have D_is_lacing : Def P w K mg base "is_lacing" 3 ["shoe", "row"] (spIsLacing C) := Def.of F_is_lacing (ok_isLacing F_is_lacing T S D_is_held) (PySem.W.mg_of X G a_is_lacing) b_is_lacing
  have D_pieces : Def P w K mg base "pieces" 1 ["lacing"] spPieces := Def.of F_pieces (ok_pieces F_pieces T) (PySem.W.mg_of X G a_pieces) b_pieces
  have D_piece_length : Def P w K mg base "piece_length" 2 ["shoe", "piece"] (spPieceLen C) := Def.of F_piece_length (ok_pieceLen F_piece_length T S D_is_across) (PySem.W.mg_of X G a_piece_length) b_piece_length
  have D_lacing_length : Def P w K mg base "lacing_length" 3 ["shoe", "lacing"] (spLength C) := Def.of F_lacing_length (ok_length F_lacing_length T D_pieces D_piece_length) (PySem.W.mg_of X G a_lacing_length) b_lacing_length
  have D_left_and_right_row : Def P w K mg base "left_and_right_row" 1 ["piece"] spLeftRight := Def.of F_left_and_right_row (ok_leftRight F_left_and_right_row) (PySem.W.mg_of X G a_left_and_right_row) b_left_and_right_row
  have D_pieces_across : Def P w K mg base "pieces_across" 2 ["lacing"] spAcrossP := Def.of F_pieces_across (ok_acrossP F_pieces_across D_pieces D_is_across D_left_and_right_row) (PySem.W.mg_of X G a_pieces_across) b_pieces_across
  have D_pull_count : Def P w K mg base "pull_count" 3 ["lacing"] spPull := Def.of F_pull_count (ok_pull F_pull_count T D_pieces_across) (PySem.W.mg_of X G a_pull_count) b_pull_count
  have D_crossing_count : Def P w K mg base "crossing_count" 3 ["lacing"] spCrossing := Def.of F_crossing_count (ok_crossing F_crossing_count D_pieces_across) (PySem.W.mg_of X G a_crossing_count) b_crossing_count
  have D_eyelet_beside : Def P w K mg base "eyelet_beside" 1 ["eyelet"] spBeside := Def.of F_eyelet_beside (ok_beside F_eyelet_beside) (PySem.W.mg_of X G a_eyelet_beside) b_eyelet_beside
  have D_in_mirror : Def P w K mg base "in_mirror" 2 ["lacing"] spMirror := Def.of F_in_mirror (ok_mirror F_in_mirror T D_eyelet_beside) (PySem.W.mg_of X G a_in_mirror) b_in_mirror
  have D_is_even : Def P w K mg base "is_even" 3 ["lacing"] spEven := Def.of F_is_even (ok_even F_is_even D_in_mirror) (PySem.W.mg_of X G a_is_even) b_is_even
  have D_is_shoe : Def P w K mg base "is_shoe" 1 ["n", "lengths"] spIsShoe := Def.of F_is_shoe (ok_isShoe F_is_shoe T) (PySem.W.mg_of X G a_is_shoe) b_is_shoe
  have D_Shoe_set_whole : MDef P w K mg base C "set_whole" 6 ["self", "eyelets"] (spSet C) := ⟨_, _, ok_set F_Shoe_set_whole S D_all_lacings, ⟨a_Shoe_set_whole, i_Shoe_set_whole, k_Shoe_set_whole⟩, b_Shoe_set_whole⟩
  have D_Shoe_become : MDef P w K mg base C "become" 7 ["self", "n", "lengths"] (spBecome C) := ⟨_, _, ok_become F_Shoe_become T S D_Shoe_set_whole, ⟨a_Shoe_become, i_Shoe_become, k_Shoe_become⟩, b_Shoe_become⟩
  have KS : KDef P w K mg base "Shoe" C 8 ["self", "n", "lengths"] (spShoeInit C) := ⟨_, _, ⟨mk_C, a_Shoe___init__, i_Shoe___init__, kc_C⟩, ok_shoeInit F_Shoe___init__ S D_Shoe_become, PySem.W.mg_of X G aS, b_Shoe___init__⟩
  have D_Shoe_has_tearable : MDef P w K mg base C "has_tearable" 1 ["self", "eyelet"] (spTearable C) := ⟨_, _, ok_tearable F_Shoe_has_tearable T S, ⟨a_Shoe_has_tearable, i_Shoe_has_tearable, k_Shoe_has_tearable⟩, b_Shoe_has_tearable⟩
  have KR : KDef P w K mg base "Reader" CR 1 ["self", "numbers"] (spRdInit K CR) := ⟨_, _, ⟨mk_CR, a_Reader___init__, i_Reader___init__, kc_CR⟩, ok_rdInit F_Reader___init__ RS, PySem.W.mg_of X G aR, b_Reader___init__⟩
  have D_Reader_has_more : MDef P w K mg base CR "has_more" 1 ["self"] (spHasMore K CR) := ⟨_, _, ok_hasMore F_Reader_has_more T RS, ⟨a_Reader_has_more, i_Reader_has_more, k_Reader_has_more⟩, b_Reader_has_more⟩
  have D_Reader_take_number : MDef P w K mg base CR "take_number" 1 ["self"] (spTake K CR) := ⟨_, _, ok_take F_Reader_take_number RS, ⟨a_Reader_take_number, i_Reader_take_number, k_Reader_take_number⟩, b_Reader_take_number⟩
  have D_Reader_take_row : MDef P w K mg base CR "take_row" 2 ["self"] (spRow K CR) := ⟨_, _, ok_row F_Reader_take_row RS D_Reader_take_number, ⟨a_Reader_take_row, i_Reader_take_row, k_Reader_take_row⟩, b_Reader_take_row⟩
  have D_answer_shoe : Def P w K mg base "answer_shoe" 8 ["shoe", "n", "lengths"] (spAnsShoe C) := Def.of F_answer_shoe (ok_ansShoe F_answer_shoe T U S D_is_shoe D_Shoe_become) (PySem.W.mg_of X G a_answer_shoe) b_answer_shoe
  have D_answer_tear : Def P w K mg base "answer_tear" 7 ["shoe", "eyelet"] (spAnsTear C) := Def.of F_answer_tear (ok_ansTear F_answer_tear T U S D_Shoe_has_tearable D_Shoe_set_whole) (PySem.W.mg_of X G a_answer_tear) b_answer_tear
  have D_answer_mend : Def P w K mg base "answer_mend" 7 ["shoe", "eyelet"] (spAnsMend C) := Def.of F_answer_mend (ok_ansMend F_answer_mend T U S D_Shoe_has_tearable D_Shoe_set_whole) (PySem.W.mg_of X G a_answer_mend) b_answer_mend
  have D_answer_is : Def P w K mg base "answer_is" 4 ["shoe", "row"] (spAnsIs C) := Def.of F_answer_is (ok_ansIs F_answer_is D_is_lacing) (PySem.W.mg_of X G a_answer_is) b_answer_is
  have D_answer_look : Def P w K mg base "answer_look" 4 ["shoe", "row"] (spAnsLook C) := Def.of F_answer_look (ok_ansLook F_answer_look U D_is_lacing D_lacing_length D_pull_count D_crossing_count D_is_even) (PySem.W.mg_of X G a_answer_look) b_answer_look
  have D_best_and_first : Def P w K mg base "best_and_first" 1 ["lacings", "marks", "best"] spBest := Def.of F_best_and_first (ok_best F_best_and_first) (PySem.W.mg_of X G a_best_and_first) b_best_and_first
  have D_answer_shortest : Def P w K mg base "answer_shortest" 4 ["shoe"] (spAnsShortest C) := Def.of F_answer_shortest (ok_ansShortest F_answer_shortest T U S D_lacing_length D_best_and_first) (PySem.W.mg_of X G a_answer_shortest) b_answer_shortest
  have D_answer_most : Def P w K mg base "answer_most" 4 ["shoe", "length"] (spAnsMost C) := Def.of F_answer_most (ok_ansMost F_answer_most T U S D_lacing_length D_pull_count D_best_and_first) (PySem.W.mg_of X G a_answer_most) b_answer_most
  have D_answer_flattest : Def P w K mg base "answer_flattest" 4 ["shoe"] (spAnsFlattest C) := Def.of F_answer_flattest (ok_ansFlattest F_answer_flattest T U S D_crossing_count D_best_and_first) (PySem.W.mg_of X G a_answer_flattest) b_answer_flattest
  have D_answer_even : Def P w K mg base "answer_even" 4 ["shoe"] (spAnsEven C) := Def.of F_answer_even (ok_ansEven F_answer_even T S D_is_even) (PySem.W.mg_of X G a_answer_even) b_answer_even
  have D_answer_which : Def P w K mg base "answer_which" 1 ["shoe", "k"] (spAnsWhich C) := Def.of F_answer_which (ok_ansWhich F_answer_which T U S) (PySem.W.mg_of X G a_answer_which) b_answer_which
  have D_answer_mirror : Def P w K mg base "answer_mirror" 4 ["shoe", "row"] (spAnsMirror C) := Def.of F_answer_mirror (ok_ansMirror F_answer_mirror U D_is_lacing D_in_mirror) (PySem.W.mg_of X G a_answer_mirror) b_answer_mirror
  have D_answer_call : Def P w K mg base "answer_call" 9 ["shoe", "reader"] (spAnsCall K C CR) := Def.of F_answer_call (ok_ansCall F_answer_call N RS D_Reader_take_number D_Reader_take_row D_answer_shoe D_answer_tear D_answer_mend D_answer_is D_answer_look D_answer_shortest D_answer_most D_answer_flattest D_answer_even D_answer_which D_answer_mirror) (PySem.W.mg_of X G a_answer_call) b_answer_call
  exact ok_answers F_answers T RS ⟨_, g_NEW_SHOE_ROWS⟩ g_NEW_SHOE_LENGTHS htp KS KR D_Reader_has_more D_answer_call
end Lc
open PySem PySem.W PyProof.Rows
set_option maxRecDepth 100000 in
set_option maxHeartbeats 0 in
theorem PySem.Challenge.cw_shoelaces_s01_answers_holds : PySem.Challenge.rw_shoelaces_s01_answers.Holds := by
  w_on; k_headS; (case hw => exact ⟨[.list [.int 5]], by decide +kernel, by decide +kernel⟩)
  k_fillS
  refine L2.walk_specK (r := PySem.Challenge.rw_shoelaces_s01_answers) (k := 10) (CX := L2.CX0) (ps := ["calls"]) (sp := Lc.spAnswers) (by decide +kernel) rfl rfl ⟨rfl, by decide, by decide⟩ (fun w h Y => PySem.W.kIn_of Y) ?F ?S (fun _ _ _ _ z => z)
  case F =>
    intro w mg fa h Y KX G hmg
    refine' Lc.all_mk KX G hmg ?aS ?aR ?a_is_across ?l_is_across ?c_is_across ?k_is_across ?a_is_held ?l_is_held ?c_is_held ?k_is_held ?a_may_go_on ?l_may_go_on ?c_may_go_on ?k_may_go_on ?a_one_longer ?l_one_longer ?c_one_longer ?k_one_longer ?a_all_lacings ?l_all_lacings ?c_all_lacings ?k_all_lacings ?a_is_lacing ?l_is_lacing ?c_is_lacing ?k_is_lacing ?a_pieces ?l_pieces ?c_pieces ?k_pieces ?a_piece_length ?l_piece_length ?c_piece_length ?k_piece_length ?a_lacing_length ?l_lacing_length ?c_lacing_length ?k_lacing_length ?a_left_and_right_row ?l_left_and_right_row ?c_left_and_right_row ?k_left_and_right_row ?a_pieces_across ?l_pieces_across ?c_pieces_across ?k_pieces_across ?a_pull_count ?l_pull_count ?c_pull_count ?k_pull_count ?a_crossing_count ?l_crossing_count ?c_crossing_count ?k_crossing_count ?a_eyelet_beside ?l_eyelet_beside ?c_eyelet_beside ?k_eyelet_beside ?a_in_mirror ?l_in_mirror ?c_in_mirror ?k_in_mirror ?a_is_even ?l_is_even ?c_is_even ?k_is_even ?a_is_shoe ?l_is_shoe ?c_is_shoe ?k_is_shoe ?a_Shoe_set_whole ?i_Shoe_set_whole ?l_Shoe_set_whole ?c_Shoe_set_whole ?k_Shoe_set_whole ?a_Shoe_become ?i_Shoe_become ?l_Shoe_become ?c_Shoe_become ?k_Shoe_become ?a_Shoe___init__ ?i_Shoe___init__ ?l_Shoe___init__ ?c_Shoe___init__ ?k_Shoe___init__ ?a_Shoe_has_tearable ?i_Shoe_has_tearable ?l_Shoe_has_tearable ?c_Shoe_has_tearable ?k_Shoe_has_tearable ?a_Reader___init__ ?i_Reader___init__ ?l_Reader___init__ ?c_Reader___init__ ?k_Reader___init__ ?a_Reader_has_more ?i_Reader_has_more ?l_Reader_has_more ?c_Reader_has_more ?k_Reader_has_more ?a_Reader_take_number ?i_Reader_take_number ?l_Reader_take_number ?c_Reader_take_number ?k_Reader_take_number ?a_Reader_take_row ?i_Reader_take_row ?l_Reader_take_row ?c_Reader_take_row ?k_Reader_take_row ?a_answer_shoe ?l_answer_shoe ?c_answer_shoe ?k_answer_shoe ?a_answer_tear ?l_answer_tear ?c_answer_tear ?k_answer_tear ?a_answer_mend ?l_answer_mend ?c_answer_mend ?k_answer_mend ?a_answer_is ?l_answer_is ?c_answer_is ?k_answer_is ?a_answer_look ?l_answer_look ?c_answer_look ?k_answer_look ?a_best_and_first ?l_best_and_first ?c_best_and_first ?k_best_and_first ?a_answer_shortest ?l_answer_shortest ?c_answer_shortest ?k_answer_shortest ?a_answer_most ?l_answer_most ?c_answer_most ?k_answer_most ?a_answer_flattest ?l_answer_flattest ?c_answer_flattest ?k_answer_flattest ?a_answer_even ?l_answer_even ?c_answer_even ?k_answer_even ?a_answer_which ?l_answer_which ?c_answer_which ?k_answer_which ?a_answer_mirror ?l_answer_mirror ?c_answer_mirror ?k_answer_mirror ?a_answer_call ?l_answer_call ?c_answer_call ?k_answer_call ?a_answers ?l_answers ?c_answers ?k_answers ?pg_C ?hd_C ?po_C ?sa_C ?mk_C ?kc_C ?pg_CR ?hd_CR ?po_CR ?sa_CR ?mk_CR ?kc_CR ?n_eyelet_count ?n_across ?n_along ?n_whole ?n_laced ?n_numbers ?n_place ?v_END ?v_BEGINNING ?v_NOT_A_SHOE ?v_NOT_A_LACING ?v_NO_SUCH_EYELET ?v_NO_SUCH_PLACE ?v_TORN_ALREADY ?v_NO_LACING ?v_NOT_TORN ?v_SHOE ?v_TEAR ?v_MEND ?v_IS ?v_LOOK ?v_SHORTEST ?v_MOST ?v_FLATTEST ?v_EVEN ?v_WHICH ?v_MIRROR ?v_NEW_SHOE_ROWS ?z_len ?z_range ?z_all ?z_sorted ?z_list ?z_zip ?z_abs ?z_sum ?z_min ?z_max ?z_reversed ?v_tp ?l_tp
    (case aS => k_is)
    (case aR => k_is)
    (case a_is_across => k_is)
    (case l_is_across => k_is)
    (case c_is_across => k_is)
    (case k_is_across => k_is)
    (case a_is_held => k_is)
    (case l_is_held => k_is)
    (case c_is_held => k_is)
    (case k_is_held => k_is)
    (case a_may_go_on => k_is)
    (case l_may_go_on => k_is)
    (case c_may_go_on => k_is)
    (case k_may_go_on => k_is)
    (case a_one_longer => k_is)
    (case l_one_longer => k_is)
    (case c_one_longer => k_is)
    (case k_one_longer => k_is)
    (case a_all_lacings => k_is)
    (case l_all_lacings => k_is)
    (case c_all_lacings => k_is)
    (case k_all_lacings => k_is)
    (case a_is_lacing => k_is)
    (case l_is_lacing => k_is)
    (case c_is_lacing => k_is)
    (case k_is_lacing => k_is)
    (case a_pieces => k_is)
    (case l_pieces => k_is)
    (case c_pieces => k_is)
    (case k_pieces => k_is)
    (case a_piece_length => k_is)
    (case l_piece_length => k_is)
    (case c_piece_length => k_is)
    (case k_piece_length => k_is)
    (case a_lacing_length => k_is)
    (case l_lacing_length => k_is)
    (case c_lacing_length => k_is)
    (case k_lacing_length => k_is)
    (case a_left_and_right_row => k_is)
    (case l_left_and_right_row => k_is)
    (case c_left_and_right_row => k_is)
    (case k_left_and_right_row => k_is)
    (case a_pieces_across => k_is)
    (case l_pieces_across => k_is)
    (case c_pieces_across => k_is)
    (case k_pieces_across => k_is)
    (case a_pull_count => k_is)
    (case l_pull_count => k_is)
    (case c_pull_count => k_is)
    (case k_pull_count => k_is)
    (case a_crossing_count => k_is)
    (case l_crossing_count => k_is)
    (case c_crossing_count => k_is)
    (case k_crossing_count => k_is)
    (case a_eyelet_beside => k_is)
    (case l_eyelet_beside => k_is)
    (case c_eyelet_beside => k_is)
    (case k_eyelet_beside => k_is)
    (case a_in_mirror => k_is)
    (case l_in_mirror => k_is)
    (case c_in_mirror => k_is)
    (case k_in_mirror => k_is)
    (case a_is_even => k_is)
    (case l_is_even => k_is)
    (case c_is_even => k_is)
    (case k_is_even => k_is)
    (case a_is_shoe => k_is)
    (case l_is_shoe => k_is)
    (case c_is_shoe => k_is)
    (case k_is_shoe => k_is)
    (case a_Shoe_set_whole => k_is)
    (case i_Shoe_set_whole => k_is)
    (case l_Shoe_set_whole => k_is)
    (case c_Shoe_set_whole => k_is)
    (case k_Shoe_set_whole => k_is)
    (case a_Shoe_become => k_is)
    (case i_Shoe_become => k_is)
    (case l_Shoe_become => k_is)
    (case c_Shoe_become => k_is)
    (case k_Shoe_become => k_is)
    (case a_Shoe___init__ => k_is)
    (case i_Shoe___init__ => k_is)
    (case l_Shoe___init__ => k_is)
    (case c_Shoe___init__ => k_is)
    (case k_Shoe___init__ => k_is)
    (case a_Shoe_has_tearable => k_is)
    (case i_Shoe_has_tearable => k_is)
    (case l_Shoe_has_tearable => k_is)
    (case c_Shoe_has_tearable => k_is)
    (case k_Shoe_has_tearable => k_is)
    (case a_Reader___init__ => k_is)
    (case i_Reader___init__ => k_is)
    (case l_Reader___init__ => k_is)
    (case c_Reader___init__ => k_is)
    (case k_Reader___init__ => k_is)
    (case a_Reader_has_more => k_is)
    (case i_Reader_has_more => k_is)
    (case l_Reader_has_more => k_is)
    (case c_Reader_has_more => k_is)
    (case k_Reader_has_more => k_is)
    (case a_Reader_take_number => k_is)
    (case i_Reader_take_number => k_is)
    (case l_Reader_take_number => k_is)
    (case c_Reader_take_number => k_is)
    (case k_Reader_take_number => k_is)
    (case a_Reader_take_row => k_is)
    (case i_Reader_take_row => k_is)
    (case l_Reader_take_row => k_is)
    (case c_Reader_take_row => k_is)
    (case k_Reader_take_row => k_is)
    (case a_answer_shoe => k_is)
    (case l_answer_shoe => k_is)
    (case c_answer_shoe => k_is)
    (case k_answer_shoe => k_is)
    (case a_answer_tear => k_is)
    (case l_answer_tear => k_is)
    (case c_answer_tear => k_is)
    (case k_answer_tear => k_is)
    (case a_answer_mend => k_is)
    (case l_answer_mend => k_is)
    (case c_answer_mend => k_is)
    (case k_answer_mend => k_is)
    (case a_answer_is => k_is)
    (case l_answer_is => k_is)
    (case c_answer_is => k_is)
    (case k_answer_is => k_is)
    (case a_answer_look => k_is)
    (case l_answer_look => k_is)
    (case c_answer_look => k_is)
    (case k_answer_look => k_is)
    (case a_best_and_first => k_is)
    (case l_best_and_first => k_is)
    (case c_best_and_first => k_is)
    (case k_best_and_first => k_is)
    (case a_answer_shortest => k_is)
    (case l_answer_shortest => k_is)
    (case c_answer_shortest => k_is)
    (case k_answer_shortest => k_is)
    (case a_answer_most => k_is)
    (case l_answer_most => k_is)
    (case c_answer_most => k_is)
    (case k_answer_most => k_is)
    (case a_answer_flattest => k_is)
    (case l_answer_flattest => k_is)
    (case c_answer_flattest => k_is)
    (case k_answer_flattest => k_is)
    (case a_answer_even => k_is)
    (case l_answer_even => k_is)
    (case c_answer_even => k_is)
    (case k_answer_even => k_is)
    (case a_answer_which => k_is)
    (case l_answer_which => k_is)
    (case c_answer_which => k_is)
    (case k_answer_which => k_is)
    (case a_answer_mirror => k_is)
    (case l_answer_mirror => k_is)
    (case c_answer_mirror => k_is)
    (case k_answer_mirror => k_is)
    (case a_answer_call => k_is)
    (case l_answer_call => k_is)
    (case c_answer_call => k_is)
    (case k_answer_call => k_is)
    (case a_answers => k_is)
    (case l_answers => k_is)
    (case c_answers => k_is)
    (case k_answers => k_is)
    (case pg_C => k_is)
    (case hd_C => k_is)
    (case po_C => k_is)
    (case sa_C => k_is)
    (case mk_C => k_is)
    (case kc_C => k_is)
    (case pg_CR => k_is)
    (case hd_CR => k_is)
    (case po_CR => k_is)
    (case sa_CR => k_is)
    (case mk_CR => k_is)
    (case kc_CR => k_is)
    (case n_eyelet_count => k_is)
    (case n_across => k_is)
    (case n_along => k_is)
    (case n_whole => k_is)
    (case n_laced => k_is)
    (case n_numbers => k_is)
    (case n_place => k_is)
    (case v_END => k_is)
    (case v_BEGINNING => k_is)
    (case v_NOT_A_SHOE => k_is)
    (case v_NOT_A_LACING => k_is)
    (case v_NO_SUCH_EYELET => k_is)
    (case v_NO_SUCH_PLACE => k_is)
    (case v_TORN_ALREADY => k_is)
    (case v_NO_LACING => k_is)
    (case v_NOT_TORN => k_is)
    (case v_SHOE => k_is)
    (case v_TEAR => k_is)
    (case v_MEND => k_is)
    (case v_IS => k_is)
    (case v_LOOK => k_is)
    (case v_SHORTEST => k_is)
    (case v_MOST => k_is)
    (case v_FLATTEST => k_is)
    (case v_EVEN => k_is)
    (case v_WHICH => k_is)
    (case v_MIRROR => k_is)
    (case v_NEW_SHOE_ROWS => k_is)
    (case z_len => k_is)
    (case z_range => k_is)
    (case z_all => k_is)
    (case z_sorted => k_is)
    (case z_list => k_is)
    (case z_zip => k_is)
    (case z_abs => k_is)
    (case z_sum => k_is)
    (case z_min => k_is)
    (case z_max => k_is)
    (case z_reversed => k_is)
    (case v_tp => k_is)
    (case l_tp => k_is)
  case S =>
    intro K H xs a hO hwi hask hx
    cases hx with
    | cons h1 h2 =>
      cases h2
      cases h1 with
      | lst hs ha =>
        have e := L2.ints_dw a.1 _ ha
        subst e
        have q : ((Codec.inLen 0 600 a.1 && a.1.all (Codec.inInt 0 4294967295)) && true) = true := hwi
        rw [Bool.and_eq_true, Bool.and_eq_true] at q
        refine ⟨_, a.1, rfl, hs, hask, fun x hx => ?_, fun H' p hp => .lst (L2.SqL.of hp) (L2.dw_ints _)⟩
        have := List.all_eq_true.mp q.1.2 x hx
        exact Codec.inInt_iff.mp this

