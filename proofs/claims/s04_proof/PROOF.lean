import PyProof.Rows.All
import Wide.All
import OpenK.AllK
import Wide.FinOn
import PyProof.EqAt
import PyProof.EqKinds
import PyProof.TupleCall
import KE.BitLaws
import KE.OsGo
import Open.SpecLaws
import PySem.Challenge.RW_wholetables_s04_divisors
set_option Elab.async false
set_option linter.all false
set_option maxRecDepth 100000
/-! THE HAND LAYER, for ints, bools, texts, own classes, lists, tuples, dicts, comprehensions, walks over dicts, enumerate, zip, reversed, texts, calls, loops. Paste it whole ahead of your own text; what your proof does not reach may be deleted. -/
namespace L2
open PySem PySem.Spec PyProof.Rows

/-- a key: an int or a str -/
abbrev Key := Sum Int Str
def keyIs : Key → Value → Bool
  | .inl k, v => Value.isInt k v
  | .inr x, v => Value.isStrOf x v
def keyH (w : World) : Key → Int
  | .inl k => hashInt k
  | .inr x => hashStr w x
theorem keyIs_shape : ∀ {k : Key} {v : Value}, keyIs k v = true → (∃ i t, k = Sum.inl i ∧ v = Value.int i t) ∨ (∃ x t, k = Sum.inr x ∧ v = Value.str x t)
  | .inl i, v, h => by
    obtain ⟨t, e⟩ := Value.isInt_shape (k := i) (v := v) h
    exact .inl ⟨i, t, rfl, e⟩
  | .inr x, v, h => by
    obtain ⟨t, e⟩ := Value.isStrOf_shape (x := x) (v := v) h
    exact .inr ⟨x, t, rfl, e⟩
theorem key_ll (a b : Int) : decide ((Sum.inl a : Key) = Sum.inl b) = (a == b) := by
  by_cases e : a = b
  · subst e; simp
  · have h : ¬ (Sum.inl a : Key) = Sum.inl b := fun q => e (Sum.inl.inj q)
    rw [decide_eq_false h]
    exact (beq_eq_false_iff_ne.mpr e).symm
theorem key_rr (a b : Str) : decide ((Sum.inr a : Key) = Sum.inr b) = decide (a = b) := by
  by_cases e : a = b
  · subst e; simp
  · have h : ¬ (Sum.inr a : Key) = Sum.inr b := fun q => e (Sum.inr.inj q)
    rw [decide_eq_false h, decide_eq_false e]
theorem key_lr (a : Int) (b : Str) : decide ((Sum.inl a : Key) = Sum.inr b) = false := decide_eq_false (fun q => nomatch q)
theorem key_rl (a : Str) (b : Int) : decide ((Sum.inr a : Key) = Sum.inl b) = false := decide_eq_false (fun q => nomatch q)

def mixKind (prog : Program) (w : World) : PySem.KeyKind prog w Key where
  is := keyIs
  hash := keyH w
  inj := fun v a b ha hb => by
    rcases keyIs_shape ha with ⟨i, t, rfl, rfl⟩ | ⟨x, t, rfl, rfl⟩
    · rcases keyIs_shape hb with ⟨j, u, rfl, e⟩ | ⟨y, u, rfl, e⟩
      · injection e with e1 _; rw [e1]
      · exact nomatch e
    · rcases keyIs_shape hb with ⟨j, u, rfl, e⟩ | ⟨y, u, rfl, e⟩
      · exact nomatch e
      · injection e with e1 _; rw [e1]
  byValue := fun k v h => by
    rcases keyIs_shape h with ⟨i, t, rfl, rfl⟩ | ⟨x, t, rfl, rfl⟩ <;> rfl
  pyHash := fun hv h => by
    rcases keyIs_shape hv with ⟨i, t, rfl, rfl⟩ | ⟨x, t, rfl, rfl⟩
    · exact wpAny_pyHash_int h
    · exact wpAny_pyHash_str h
  eqBool := fun hu hv h => by
    rcases keyIs_shape hu with ⟨i, t, rfl, rfl⟩ | ⟨x, t, rfl, rfl⟩
    · rcases keyIs_shape hv with ⟨j, u, rfl, rfl⟩ | ⟨y, u, rfl, rfl⟩
      · rw [key_ll] at h; exact wpAny_eqBool_int h
      · rw [key_lr] at h; exact SeqAt.EqAt.int_str i t y u _ _ _ _ h
    · rcases keyIs_shape hv with ⟨j, u, rfl, rfl⟩ | ⟨y, u, rfl, rfl⟩
      · rw [key_rl] at h; exact SeqAt.EqAt.str_int x t j u _ _ _ _ h
      · rw [key_rr] at h; exact wpAny_eqBool_str h
  «strs» := fun k x t v h => by
    rcases keyIs_shape h with ⟨i, u, rfl, e⟩ | ⟨y, u, rfl, e⟩
    · exact nomatch e
    · injection e with e1 _
      subst e1
      cases v <;> rfl

end L2

namespace L2
open PySem PySem.Spec PyProof.Rows

/-- a value, without the heap -/
inductive V where
  | non | bl (b : Bool) | int (i : Int) | str (x : Str) | byt (b : Array UInt8) | flt (b : UInt64) | ref (a : Addr) | ty (n : String)
  deriving DecidableEq

def RelV : V → Value → Prop
  | .non, u => u = Value.none
  | .bl b, u => u = Value.bool b
  | .int i, u => ∃ t, u = Value.int i t
  | .str x, u => ∃ t, u = Value.str x t
  | .byt b, u => ∃ t, u = Value.bytes b t
  | .flt b, u => ∃ t, u = Value.float b t
  | .ref a, u => u = Value.ref a
  | .ty n, u => u = Value.type n

abbrev Vals : List V → List Value → Prop := Paired RelV
theorem Vals.length {xs : List V} {us : List Value} (r : Vals xs us) : xs.length = us.length := Paired.length r
theorem Vals.get : ∀ {xs : List V} {us : List Value} {i : Nat} {x : V}, Vals xs us → xs[i]? = some x → ∃ u, us[i]? = some u ∧ RelV x u
  | _, _, _, _, .nil, e => by simp at e
  | _, _, 0, _, .cons r _, e => by simp at e; subst e; exact ⟨_, rfl, r⟩
  | _, _, i + 1, x, .cons _ t, e => by
    obtain ⟨u, h1, h2⟩ := Vals.get (i := i) (x := x) t (by simpa using e)
    exact ⟨u, by simpa using h1, h2⟩
theorem Vals.append : ∀ {xs ys : List V} {us ws : List Value}, Vals xs us → Vals ys ws → Vals (xs ++ ys) (us ++ ws)
  | _, _, _, _, .nil, s => s
  | _, _, _, _, .cons r t, s => .cons r (Vals.append t s)
theorem Vals.take : ∀ {xs : List V} {us : List Value} (n : Nat), Vals xs us → Vals (xs.take n) (us.take n)
  | _, _, 0, _ => .nil
  | _, _, _ + 1, .nil => .nil
  | _, _, n + 1, .cons r t => .cons r (Vals.take n t)
theorem Vals.drop : ∀ {xs : List V} {us : List Value} (n : Nat), Vals xs us → Vals (xs.drop n) (us.drop n)
  | _, _, 0, r => r
  | _, _, _ + 1, .nil => .nil
  | _, _, n + 1, .cons _ t => Vals.drop n t

def RelO : Option V → Option Value → Prop
  | some v, some u => RelV v u
  | none, none => True
  | _, _ => False
def KV {κ : Type} : List (κ × V) → List (κ × Value) → Prop := Paired fun (p : κ × V) (q : κ × Value) => p.1 = q.1 ∧ RelV p.2 q.2

/-- a key of a dict (00_mix): an int or a text -/
def kV : Key → V
  | .inl i => .int i
  | .inr x => .str x

/-- what stands at a tracked address -/
inductive HO where
  /-- a list -/
  | lst (xs : List V)
  /-- a tuple (never changes) -/
  | tup (xs : List V)
  /-- a dict whose keys are ints and texts; one whose keys are tuples of ints and texts (the empty one is both) -/
  | dK (kvs : List (Key × V)) | dT (kvs : List (List Key × V))
  /-- a set of ints: its members, its size -/
  | set (S : Int → Bool) (n : Nat)
  /-- an instance of the class at C, its dict at dx, its attributes -/
  | ins (C dx : Addr) (fs : List (Str × V))
  /-- the dict of the instance at x -/
  | own (x : Addr)
  /-- the dict of an exception -/
  | xd (fs : List (Str × V))
  /-- a bound method, f of x -/
  | met (f x : Addr)
  /-- a range object lo, lo + 1, .. below hi -/
  | rng (lo hi : Int)
  /-- a thing that is known to the object (the script; a dict while a loop walks it): read, never written while it is so -/
  | frz (o : Obj) (u : HO)
  /-- a code object's table -/
  | tbl (ps : Array Value)
  /-- any other thing, by what is true of its one object (a def of one's own: SetO a S n := HO.ext fun h => ..) -/
  | ext (φ : Heap → Prop)

abbrev Hp := Addr → Option HO
def upd (H : Hp) (a : Addr) (o : HO) : Hp := fun b => if b = a then some o else H b
theorem upd_same {H : Hp} {a : Addr} {o : HO} : upd H a o a = some o := by unfold upd; rw [if_pos rfl]
theorem upd_ne {H : Hp} {a b : Addr} {o : HO} (h : b ≠ a) : upd H a o b = H b := by unfold upd; rw [if_neg h]
theorem ne_of_none {H : Hp} {a b : Addr} {o : HO} (h : H a = some o) (h' : H b = none) : a ≠ b := by
  intro e; subst e; rw [h] at h'; cases h'

section
variable (P : Program) (w : World)
def ObjOk (H : Hp) (h : Heap) (a : Addr) : HO → Prop
  | .lst xs => xs.length ≤ sizeLine ∧ ∃ (its : List Value) (n : Nat), Vals xs its ∧ h.get? a = some { cls := .type "list", data := .seq its.toArray n }
  | .tup xs => xs.length ≤ sizeLine ∧ ∃ its : List Value, Vals xs its ∧ IsTup h a its.toArray
  | .dK kvs => kvs.length ≤ sizeLine ∧ (a == sysModules) = false ∧ ∃ vs, KV kvs vs ∧ h.DictOf (mixKind P w) a vs
  | .dT kvs => kvs.length ≤ sizeLine ∧ (a == sysModules) = false ∧ ∃ xs : List (List Key × Addr × Value),
      Paired (fun (p : List Key × V) (q : List Key × Addr × Value) => p.1 = q.1 ∧ H q.2.1 = some (.tup (p.1.map kV)) ∧ RelV p.2 q.2.2) kvs xs ∧
      ∃ o es ep, h.get? a = some o ∧ o.ExactDict ∧ o.data = .dict es ep ∧ es.toList = xs.map (entryOfKey (tupleKind (mixKind P w))) ∧ (xs.map (·.1)).Nodup
  | .set S n => h.SetOf (intKind P w) a S n
  | .ins C dx fs => H dx = some (.own a) ∧ fs.length ≤ 1000 ∧ dx ≠ a ∧ h.get? a = some (PySem.W.instObj C dx) ∧
      ∃ mA, h.Ns1 dx mA ∧ (∀ f, RelO (fs.lookup f) (mA f)) ∧ PySem.Within mA (fs.map (·.1))
  | .own _ => ∃ o, h.get? a = some o
  | .xd fs => ∃ mA, h.Ns1 a mA ∧ ∀ f, RelO (fs.lookup f) (mA f)
  | .rng lo hi => ∃ t u v, h.get? a = some { cls := .type "range", data := .fields #[.int lo t, .int hi u, .int 1 v] }
  | .frz o u => h.get? a = some o ∧ ObjOk H h a u
  | .tbl ps => h.get? a = some { cls := .none, data := .fields ps }
  | .met f x => h.get? a = some (PySem.W.methodObj (.ref f) (.ref x))
  | .ext φ => φ h ∧ (∃ o, h.get? a = some o) ∧ ∀ h1 h2 : Heap, φ h1 → (∀ o, h1.get? a = some o → h2.get? a = some o) → φ h2
/-- the abstract heap is held -/
def HOk (H : Hp) (h : Heap) : Prop := ∀ a o, H a = some o → ObjOk P w H h a o
end

section
variable {P : Program} {w : World} {H H' : Hp} {h h' : Heap} {a : Addr} {o : HO}
theorem ObjOk.lt (x : ObjOk P w H h a o) : a < h.objs.size := by
  cases o with
  | lst xs => obtain ⟨_, _, _, _, e⟩ := x; exact Heap.lt_size e
  | tup xs => obtain ⟨_, _, _, p⟩ := x; exact p.lt
  | dK kvs => obtain ⟨_, _, _, _, o, _, _, e, _⟩ := x; exact Heap.lt_size e
  | dT kvs => obtain ⟨_, _, _, _, o, _, _, e, _⟩ := x; exact Heap.lt_size e
  | set S n => obtain ⟨o, _, _, _, e, _⟩ := x; exact Heap.lt_size e
  | ins C dx fs => obtain ⟨_, _, _, e, _⟩ := x; exact Heap.lt_size e
  | own y => obtain ⟨_, e⟩ := x; exact Heap.lt_size e
  | xd fs => obtain ⟨_, ⟨_, _, _, e, _⟩, _⟩ := x; exact Heap.lt_size e
  | rng lo hi => obtain ⟨_, _, _, e⟩ := x; exact Heap.lt_size e
  | frz ob u => obtain ⟨e, _⟩ := x; exact Heap.lt_size e
  | tbl ps => exact Heap.lt_size (show h.get? a = some _ from x)
  | met f y => exact Heap.lt_size (show h.get? a = some _ from x)
  | ext φ => obtain ⟨_, ⟨_, e⟩, _⟩ := x; exact Heap.lt_size e
theorem Paired.mapP {α β : Type} {F G : α → β → Prop} : ∀ {l₁ : List α} {l₂ : List β}, Paired F l₁ l₂ → (∀ a b, F a b → G a b) → Paired G l₁ l₂
  | _, _, .nil, _ => .nil
  | _, _, .cons r t, f => .cons (f _ _ r) (Paired.mapP t f)
/-- what an object's description leans on: its own object, its own dict, the tuples -/
theorem ObjOk.stay (x : ObjOk P w H h a o) (k : ∀ b u, (b = a ∨ H b = some (.own a)) → h.get? b = some u → h'.get? b = some u)
    (ho : ∀ b, H b = some (.own a) → H' b = some (.own a)) (ht : ∀ b xs, H b = some (.tup xs) → H' b = some (.tup xs)) : ObjOk P w H' h' a o := by
  induction o with
  | lst xs => obtain ⟨z, its, n, r, e⟩ := x; exact ⟨z, its, n, r, k _ _ (.inl rfl) e⟩
  | tup xs => obtain ⟨z, its, r, ob, e, c⟩ := x; exact ⟨z, its, r, ob, k _ _ (.inl rfl) e, c⟩
  | dK kvs => obtain ⟨z, y, vs, r, ob, es, ep, e, c⟩ := x; exact ⟨z, y, vs, r, ob, es, ep, k _ _ (.inl rfl) e, c⟩
  | dT kvs =>
    obtain ⟨z, y, xs, r, ob, es, ep, e, c⟩ := x
    exact ⟨z, y, xs, Paired.mapP r fun p q z => ⟨z.1, ht _ _ z.2.1, z.2.2⟩, ob, es, ep, k _ _ (.inl rfl) e, c⟩
  | set S n => obtain ⟨ob, es, ep, t, e, c⟩ := x; exact ⟨ob, es, ep, t, k _ _ (.inl rfl) e, c⟩
  | ins C dx fs =>
    obtain ⟨d, z, ne, e, mA, ⟨od, es, ep, e2, c⟩, r⟩ := x
    exact ⟨ho _ d, z, ne, k _ _ (.inl rfl) e, mA, ⟨od, es, ep, k _ _ (.inr d) e2, c⟩, r⟩
  | own y => obtain ⟨ob, e⟩ := x; exact ⟨ob, k _ _ (.inl rfl) e⟩
  | xd fs => obtain ⟨mA, ⟨od, es, ep, e, c⟩, r⟩ := x; exact ⟨mA, ⟨od, es, ep, k _ _ (.inl rfl) e, c⟩, r⟩
  | rng lo hi => obtain ⟨t, u, v, e⟩ := x; exact ⟨t, u, v, k _ _ (.inl rfl) e⟩
  | frz ob u ih => obtain ⟨e, q⟩ := x; exact ⟨k _ _ (.inl rfl) e, ih q⟩
  | tbl ps =>
    have e : h.get? a = some { cls := .none, data := .fields ps } := x
    show h'.get? a = some { cls := .none, data := .fields ps }
    exact k a _ (.inl rfl) e
  | met f y =>
    have e : h.get? a = some (PySem.W.methodObj (.ref f) (.ref y)) := x
    show h'.get? a = some (PySem.W.methodObj (.ref f) (.ref y))
    exact k a _ (.inl rfl) e
  | ext φ => obtain ⟨p, ⟨o, e⟩, st⟩ := x; exact ⟨st _ _ p fun o q => k _ _ (.inl rfl) q, ⟨o, k _ _ (.inl rfl) e⟩, st⟩
theorem HOk.lt (x : HOk P w H h) (e : H a = some o) : a < h.objs.size := (x a o e).lt
theorem HOk.fresh (x : HOk P w H h) (e : h.objs.size ≤ a) : H a = none := by
  cases q : H a with
  | none => rfl
  | some u => exact absurd (Nat.lt_of_lt_of_le (x.lt q) e) (Nat.lt_irrefl _)
/-- every object of the heap is kept -/
theorem HOk.kept (x : HOk P w H h) (k : ∀ b u, h.get? b = some u → h'.get? b = some u) : HOk P w H h' := fun a o e =>
  (x a o e).stay (fun b u _ q => k b u q) (fun _ q => q) fun _ _ q => q
/-- a new object is laid and tracked -/
theorem HOk.laid (x : HOk P w H h) (k : ∀ b u, h.get? b = some u → h'.get? b = some u) (hp : h.objs.size ≤ a) (new : ObjOk P w (upd H a o) h' a o) : HOk P w (upd H a o) h' := fun b u e => by
  have hn := x.fresh hp
  by_cases hb : b = a
  · subst hb; rw [upd_same] at e; cases e; exact new
  · rw [upd_ne hb] at e
    exact (x b u e).stay (fun c v _ q => k c v q) (fun c q => by rw [upd_ne (ne_of_none q hn)]; exact q) fun c xs q => by rw [upd_ne (ne_of_none q hn)]; exact q
end

/-- what may be read as u: it is u, or a known u -/
def Rd (H : Hp) (a : Addr) (u : HO) : Prop := H a = some u ∨ ∃ o, H a = some (.frz o u)
theorem Rd.ok {P : Program} {w : World} {H : Hp} {h : Heap} {a : Addr} {u : HO} (r : Rd H a u) (x : HOk P w H h) : ObjOk P w H h a u := by
  rcases r with r | ⟨o, r⟩
  · exact x a u r
  · obtain ⟨_, q⟩ := x a _ r
    exact q
/-- what may be written -/
def Mut : Option HO → Prop
  | some (.lst _) => True
  | some (.dK _) => True
  | some (.dT _) => True
  | some (.set _ _) => True
  | some (.ins _ _ _) => True
  | some (.ext _) => True
  | _ => False
section
variable {P : Program} {w : World} {H : Hp} {h h' : Heap} {x e : Addr} {o' : HO}
/-- the object at e is changed: x itself, or the dict of the instance x -/
theorem HOk.write (ok : HOk P w H h) (mu : Mut (H x)) (he : e = x ∨ H e = some (.own x)) (k : ∀ b u, b ≠ e → h.get? b = some u → h'.get? b = some u) (heo : ∃ u, h'.get? e = some u)
    (new : ObjOk P w (upd H x o') h' x o') : HOk P w (upd H x o') h' := fun b u q => by
  have nown : ∀ c y, H c = some (.own y) → c ≠ x := fun c y r z => by subst z; rw [r] at mu; exact mu
  have ntup : ∀ c xs, H c = some (.tup xs) → c ≠ x := fun c xs r z => by subst z; rw [r] at mu; exact mu
  by_cases hb : b = x
  · subst hb; rw [upd_same] at q; cases q; exact new
  · rw [upd_ne hb] at q
    by_cases hbe : b = e
    · have q' : H b = some (.own x) := by
        rcases he with z | z
        · exact absurd (hbe.trans z) hb
        · rw [hbe]; exact z
      rw [q] at q'; cases q'
      obtain ⟨v, hv⟩ := heo
      exact ⟨v, by rw [hbe]; exact hv⟩
    · refine (ok b u q).stay (fun c v hc r => k c v ?_ r) (fun c r => by rw [upd_ne (nown c b r)]; exact r) fun c xs r => by rw [upd_ne (ntup c xs r)]; exact r
      rcases hc with rfl | hc
      · exact hbe
      · rintro rfl
        rcases he with z | z
        · exact nown c b hc z
        · rw [hc] at z; cases z; exact hb rfl
end

/-! ### kept unless tracked; of the frames at fs (the callers') the slots may change (an exception that passes writes there); of the records at ex (iterators) nothing is said -/
structure Un (fs ex : List Addr) (H H' : Hp) (h h' : Heap) : Prop where
  keep : ∀ b o, h.get? b = some o → H b = none → b ∉ fs → b ∉ ex → h'.get? b = some o
  slot : ∀ b o, h.get? b = some o → H b = none → b ∈ fs → b ∉ ex → ∃ sl, h'.get? b = some { o with slots := sl }
  free : ∀ b o, h.get? b = some o → H b = none → b ∉ ex → H' b = none
  there : ∀ b o, h.get? b = some o → b ∉ ex → ∃ o', h'.get? b = some o'
  tups : ∀ b xs, H b = some (.tup xs) → H' b = some (.tup xs)
  frzs : ∀ b o u, H b = some (.frz o u) → H' b = some (.frz o u)
  tbls : ∀ b ps, H b = some (.tbl ps) → ∃ more, H' b = some (.tbl (ps ++ more))
section
variable {fs fs' ex ex' : List Addr} {H H1 H2 : Hp} {h h1 h2 h' : Heap} {a x e : Addr} {o : HO}
theorem Un.any (u : Un fs ex H H1 h h1) {b : Addr} {ob : Obj} (q : h.get? b = some ob) (n : H b = none) (hx : b ∉ ex) : ∃ sl, h1.get? b = some { ob with slots := sl } := by
  by_cases hb : b ∈ fs
  · exact u.slot b ob q n hb hx
  · exact ⟨ob.slots, u.keep b ob q n hb hx⟩
theorem Un.kept (k : ∀ b u, h.get? b = some u → h'.get? b = some u) : Un fs ex H H h h' :=
  ⟨fun b ob q _ _ _ => k b ob q, fun b ob q _ _ _ => ⟨ob.slots, k b ob q⟩, fun _ _ _ n _ => n, fun b ob q _ => ⟨ob, k b ob q⟩, fun _ _ q => q, fun _ _ _ q => q, fun _ ps q => ⟨#[], by rw [q]; simp⟩⟩
theorem Un.refl : Un fs ex H H h h := Un.kept fun _ _ q => q
theorem Un.laid (k : ∀ b u, h.get? b = some u → h'.get? b = some u) (hp : h.objs.size ≤ a) (hn : H a = none) : Un fs ex H (upd H a o) h h' where
  keep := fun b u q _ _ _ => k b u q
  slot := fun b u q _ _ _ => ⟨u.slots, k b u q⟩
  free := fun b u q n _ => by rw [upd_ne (Nat.ne_of_lt (Nat.lt_of_lt_of_le (Heap.lt_size q) hp))]; exact n
  there := fun b u q _ => ⟨u, k b u q⟩
  tups := fun b xs q => by rw [upd_ne (ne_of_none q hn)]; exact q
  frzs := fun b u xs q => by rw [upd_ne (ne_of_none q hn)]; exact q
  tbls := fun b ps q => ⟨#[], by rw [upd_ne (ne_of_none q hn), q]; simp⟩
theorem Un.write (mu : Mut (H x)) (he : e = x ∨ H e = some (.own x)) (k : ∀ b u, b ≠ e → h.get? b = some u → h'.get? b = some u) (heo : ∃ u, h'.get? e = some u) : Un fs ex H (upd H x o) h h' := by
  have hx : ∀ b, H b = none → b ≠ x := fun b n z => by subst z; rw [n] at mu; exact mu
  have hb : ∀ b, H b = none → b ≠ e := fun b n z => by
    subst z
    rcases he with r | r
    · exact hx b n r
    · rw [n] at r; cases r
  have hm : ∀ b u, H b = some u → ¬ Mut (some u) → b ≠ x := fun b u q nm z => by subst z; rw [q] at mu; exact nm mu
  refine ⟨fun b u q n _ _ => k b u (hb b n) q, fun b u q n _ _ => ⟨u.slots, k b u (hb b n) q⟩, fun b u q n _ => by rw [upd_ne (hx b n)]; exact n, fun b u q _ => ?_,
    fun b xs q => by rw [upd_ne (hm b _ q fun z => z)]; exact q, fun b u xs q => by rw [upd_ne (hm b _ q fun z => z)]; exact q, fun b ps q => ⟨#[], by rw [upd_ne (hm b _ q fun z => z), q]; simp⟩⟩
  by_cases hbe : b = e
  · subst hbe; exact heo
  · exact ⟨u, k b u hbe q⟩
end

/-! ### the heap without what is tracked -/
def trk (h : Heap) (H : Hp) : List Addr := (List.range h.objs.size).filter fun a => (H a).isSome
def hidT (h : Heap) (H : Hp) : Heap := PySem.W.hideAll h (trk h H)
theorem hidT_size (h : Heap) (H : Hp) : (hidT h H).objs.size = h.objs.size := PySem.W.hideAll_size _ _
theorem hidT_get {h : Heap} {H : Hp} {b : Addr} {o : Obj} (e : h.get? b = some o) (n : H b = none) : (hidT h H).get? b = some o :=
  PySem.W.hideAll_get _ e fun hm => by
    have q : (H b).isSome = true := (List.mem_filter.mp hm).2
    rw [n] at q; simp at q
theorem of_hidT {h : Heap} {H : Hp} {b : Addr} {o : Obj} (e : (hidT h H).get? b = some o) : h.get? b = some o ∧ H b = none := by
  have e' : h.get? b = some o := PySem.W.of_hideAll (trk h H) e
  refine ⟨e', ?_⟩
  cases q : H b with
  | none => rfl
  | some x =>
    have hm : b ∈ trk h H := List.mem_filter.mpr ⟨List.mem_range.mpr (Heap.lt_size e'), by simp [q]⟩
    have z : (hidT h H).get? b = none := PySem.W.hideAll_none (trk h H) hm
    rw [z] at e; cases e

/-! ### OpenK's ledger, filled with every new object but one -/
end L2

namespace L2
open PySem PySem.Spec PyProof.Rows

/-- the module's facts, over the base: the heap at the law's entry without what is tracked there -/
structure Mod (K : PySem.W.Frag) (mg : Str → Option Value) (base : Heap) : Prop where
  kin : K.In base
  glob : base.Ns mainGlobals mg
  blt : ∃ mb, base.Ns builtinsNs mb ∧ ∀ x : Str, x ≠ "__name__" → mb x = bootBuiltins x
  nolimit : base.NoLimit

/-- the context: a def's body (or a comprehension's block) running. base: fixed through the whole law; s₀, H₀: the entry; outer: the frames whose slots others may change (a def's callers); stack: all frames that run;
   ex: iterators that were made ahead of the entry and are walked here (a comprehension's); fn: the names whose cells were made at the entry (a def: all; a comprehension's block: its own); calm: not within an except suite; pn: pins that every state bears; xe: what is wanted of an exception that leaves the code -/
structure Cx where
  prog : Program
  w : World
  K : PySem.W.Frag
  mg : Str → Option Value
  base : Heap
  A : Around
  N : List Str
  s_0 : Shared
  H_0 : Hp
  env : Env
  outer : List Env
  stack : List Env
  ex : List Addr
  fn : Str → Bool
  calm : Bool
  pn : List (Addr × Obj)
  xe : Value → Shared → Prop
/-- the callers' frames -/
def frs (l : List Env) : List Addr := l.filterMap (·.frame)
abbrev Cx.fs (X : Cx) : List Addr := frs X.outer

def Vis (sc : Scope) (x : Str) : Prop := sc.names.lookup x = some .local ∨ sc.names.lookup x = some .cell ∨ sc.names.lookup x = some .free
def Loc (sc : Scope) (x : Str) : Prop := sc.names.lookup x = some .local ∨ sc.names.lookup x = some .cell
def Look (env : Env) (h : Heap) (m : Str → Option Value) (x : Str) (u : Value) : Prop :=
  (env.kindOf x = some .local ∧ m x = some u) ∨ ((env.kindOf x = some .cell ∨ env.kindOf x = some .free) ∧ ∃ c, env.cells.lookup x = some c ∧ h.IsCell c (some u))

structure Cx.Ok (X : Cx) : Prop where
  mod : Mod X.K X.mg X.base
  kind : X.env.scope.kind = .function
  glob : X.env.globals = mainGlobals
  blt : X.env.builtins = builtinsNs
  above : X.s_0.heap.objs.size ≤ X.env.locals
  inj : ∀ x y c, X.env.cells.lookup x = some c → X.env.cells.lookup y = some c → x = y
  has : ∀ x, (X.env.kindOf x = some .cell ∨ X.env.kindOf x = some .free) → ∃ c, X.env.cells.lookup x = some c
  cab : ∀ x c, X.fn x = true → X.env.cells.lookup x = some c → X.s_0.heap.objs.size ≤ c
  hd : X.calm = true → X.A.handled = none
  frames : X.A.frames = some X.stack
  stk : X.stack = X.outer ∨ (X.stack = X.env :: X.outer ∧ X.env.frame = some X.env.locals)
  exf : ∀ b ∈ X.ex, b ≠ X.env.locals ∧ ∀ x c, X.env.cells.lookup x = some c → c ≠ b
  bs : ∀ b o, X.base.get? b = some o → X.s_0.heap.get? b = some o ∧ X.H_0 b = none
  bsz : X.base.objs.size ≤ X.s_0.heap.objs.size
  noex : ∀ b o, X.base.get? b = some o → b ∉ X.ex
  exfs : ∀ b ∈ X.ex, b ∉ X.fs
  funs : X.s_0.heap.FunFrames X.base X.outer
  frf : ∀ b ∈ X.fs, X.H_0 b = none

structure Inv (X : Cx) (pins : List (Addr × Obj)) (σ : List (Option V)) (H : Hp) (s : Shared) : Prop where
  ok : X.Ok
  os : s.os = X.s_0.os
  bare : AllBare s.gens
  base : Un X.fs X.ex X.H_0 H X.s_0.heap s.heap
  loc : ∃ m, s.heap.Ns X.env.locals m ∧ ∀ (i : Nat) (x : Str) (v : V), X.N[i]? = some x → σ[i]? = some (some v) → Vis X.env.scope x → ∃ u, RelV v u ∧ Look X.env s.heap m x u
  cell : ∀ x c, X.env.cells.lookup x = some c → ∃ v, s.heap.IsCell c v
  free : H X.env.locals = none
  freeC : ∀ x c, X.env.cells.lookup x = some c → H c = none
  pin : ∀ p ∈ X.pn ++ pins, s.heap.get? p.1 = some p.2 ∧ H p.1 = none ∧ p.1 ≠ X.env.locals ∧ p.1 ∉ X.fs ∧ ∀ v, p.2.data ≠ .cell v
  hok : HOk X.prog X.w H s.heap
  len : σ.length = X.N.length

section
variable {X : Cx} {pins : List (Addr × Obj)} {σ : List (Option V)} {H H' : Hp} {s : Shared} {h' : Heap}

theorem Cx.Ok.nofr (ok : X.Ok) {b : Addr} {o : Obj} (e : X.base.get? b = some o) : b ∉ X.fs := fun hb => by
  have := (ok.funs.mem hb).1
  rw [e] at this; cases this
theorem Inv.bs (I : Inv X pins σ H s) : ∀ b o, X.base.get? b = some o → s.heap.get? b = some o ∧ H b = none := fun b o e =>
  ⟨I.base.keep b o (I.ok.bs b o e).1 (I.ok.bs b o e).2 (I.ok.nofr e) (I.ok.noex b o e), I.base.free b o (I.ok.bs b o e).1 (I.ok.bs b o e).2 (I.ok.noex b o e)⟩
theorem Inv.bk (I : Inv X pins σ H s) : ∀ b o, X.base.get? b = some o → s.heap.get? b = some o := fun b o e => (I.bs b o e).1
theorem Inv.mod (I : Inv X pins σ H s) : Mod X.K X.mg X.base := I.ok.mod
theorem Inv.kIn (I : Inv X pins σ H s) : X.K.In s.heap := I.ok.mod.kin.keeps I.bk
theorem Inv.lt (I : Inv X pins σ H s) : X.env.locals < s.heap.objs.size := let ⟨_, hn, _⟩ := I.loc; hn.lt
theorem Inv.sz (I : Inv X pins σ H s) : X.s_0.heap.objs.size ≤ s.heap.objs.size := Nat.le_trans I.ok.above (Nat.le_of_lt I.lt)
theorem Inv.nofs (I : Inv X pins σ H s) {a : Addr} (h : s.heap.objs.size ≤ a) : a ∉ X.fs := fun hb => by
  obtain ⟨_, o, ho, _⟩ := I.ok.funs.mem hb
  exact absurd (Nat.lt_of_lt_of_le (Heap.lt_size ho) (Nat.le_trans I.sz h)) (Nat.lt_irrefl _)
theorem Inv.cne (I : Inv X pins σ H s) : ∀ x c, X.env.cells.lookup x = some c → c ≠ X.env.locals := fun x c e z => by
  obtain ⟨v, o, ho, hd⟩ := I.cell x c e
  obtain ⟨m, ⟨o', es, ep, ho', hd', _⟩, _⟩ := I.loc
  rw [z, ho'] at ho; cases ho; rw [hd'] at hd; cases hd
theorem Inv.funs (I : Inv X pins σ H s) : s.heap.FunFrames X.base X.outer := by
  have all : ∀ (l : List Env), (∀ b ∈ frs l, b ∈ X.fs) → X.s_0.heap.FunFrames X.base l → s.heap.FunFrames X.base l := by
    intro l
    induction l with
    | nil => intro _ _; trivial
    | cons env r ih =>
      intro hs hl
      obtain ⟨hk, ⟨L, o, hf, hn, ho, hd⟩, hr⟩ := hl
      have hL : L ∈ X.fs := hs L (by unfold frs; rw [List.filterMap_cons, hf]; exact List.mem_cons_self)
      obtain ⟨sl, e⟩ := I.base.slot L o ho (I.ok.frf L hL) hL fun z => I.ok.exfs L z hL
      exact ⟨hk, ⟨L, _, hf, hn, e, hd⟩, ih (fun b hb => hs b (by unfold frs; rw [List.filterMap_cons, hf]; exact List.mem_cons_of_mem _ hb)) hr⟩
  exact all X.outer (fun _ hb => hb) I.ok.funs

/-- the frames that run, for a call -/
theorem Inv.stack (I : Inv X pins σ H s) : s.heap.FunFrames X.base X.stack := by
  rcases I.ok.stk with e | ⟨e, hf⟩
  · rw [e]; exact I.funs
  · rw [e]
    obtain ⟨m, hn, _⟩ := I.loc
    refine .cons (by rw [I.ok.kind]; decide) hf hn ?_ I.funs
    exact Heap.get?_none_of_le (Nat.le_trans I.ok.bsz I.ok.above)
theorem Inv.stkSub (I : Inv X pins σ H s) : ∀ b ∈ frs X.stack, b ∈ X.env.locals :: X.fs := fun b hb => by
  rcases I.ok.stk with e | ⟨e, hf⟩
  · rw [e] at hb; exact List.mem_cons_of_mem _ hb
  · rw [e] at hb
    unfold frs at hb
    rw [List.filterMap_cons, hf] at hb
    exact hb
theorem Inv.stkFree (I : Inv X pins σ H s) : ∀ b ∈ frs X.stack, H b = none := fun b hb => by
  rcases List.mem_cons.mp (I.stkSub b hb) with e | hb
  · rw [e]; exact I.free
  · obtain ⟨_, o, ho, _⟩ := I.ok.funs.mem hb
    exact I.base.free b o ho (I.ok.frf b hb) fun z => I.ok.exfs b z hb

/-- THE STEP: the untracked objects but the frame and the records at ch are kept (the callers' frames up to slots), the frame's map is kept, the new abstract heap is held -/
theorem Inv.step {g' : Array GenState} {t' : Nat} {d' : Drawn} {ch : List Addr} (I : Inv X pins σ H s)
    (hch : ∀ b ∈ ch, (b ∈ X.ex ∨ X.s_0.heap.objs.size ≤ b) ∧ b ≠ X.env.locals ∧ (∀ x c, X.env.cells.lookup x = some c → c ≠ b) ∧ ∀ p ∈ X.pn ++ pins, p.1 ≠ b)
    (keep : ∀ b o, b ≠ X.env.locals → b ∉ X.fs → b ∉ ch → s.heap.get? b = some o → H b = none → h'.get? b = some o)
    (slot : ∀ b o, b ≠ X.env.locals → b ∈ X.fs → b ∉ ch → s.heap.get? b = some o → H b = none → ∃ sl, h'.get? b = some { o with slots := sl }) (free : ∀ b o, b ∉ ch → s.heap.get? b = some o → H b = none → H' b = none)
    (there : ∀ b o, b ∉ ch → s.heap.get? b = some o → ∃ o', h'.get? b = some o')
    (tups : ∀ b xs, H b = some (.tup xs) → H' b = some (.tup xs)) (frzs : ∀ b o u, H b = some (.frz o u) → H' b = some (.frz o u)) (tbls : ∀ b ps, H b = some (.tbl ps) → ∃ more, H' b = some (.tbl (ps ++ more)))
    (ns : ∀ m, s.heap.Ns X.env.locals m → h'.Ns X.env.locals m) (hok : HOk X.prog X.w H' h') (hg : AllBare g') :
    Inv X pins σ H' { s with heap := h', gens := g', drawn := d', toks := t' } := by
  have neL : ∀ b o, X.s_0.heap.get? b = some o → b ≠ X.env.locals := fun b o e => Nat.ne_of_lt (Nat.lt_of_lt_of_le (Heap.lt_size e) I.ok.above)
  have neC : ∀ b o, X.s_0.heap.get? b = some o → b ∉ X.ex → b ∉ ch := fun b o e hx hb => by
    rcases (hch b hb).1 with z | z
    · exact hx z
    · exact absurd (Nat.lt_of_lt_of_le (Heap.lt_size e) z) (Nat.lt_irrefl _)
  have cellK : ∀ x c, X.env.cells.lookup x = some c → ∀ v, s.heap.IsCell c v → h'.IsCell c v := fun x c e v ⟨o, ho, hd⟩ => by
    have nch : c ∉ ch := fun z => (hch c z).2.2.1 x c e rfl
    by_cases hc : c ∈ X.fs
    · obtain ⟨sl, q⟩ := slot c o (I.cne x c e) hc nch ho (I.freeC x c e)
      exact ⟨_, q, hd⟩
    · exact ⟨o, keep c o (I.cne x c e) hc nch ho (I.freeC x c e), hd⟩
  refine ⟨I.ok, I.os, hg, ⟨fun b o e n hb hx => ?_, fun b o e n hb hx => ?_, fun b o e n hx => ?_, fun b o e hx => ?_, fun b xs e => tups b xs (I.base.tups b xs e), fun b o xs e => frzs b o xs (I.base.frzs b o xs e), fun b ps e => ?_⟩, ?_, fun x c e => ?_, ?_, fun x c e => ?_, fun p hp => ?_, hok, I.len⟩
  · exact keep b o (neL b o e) hb (neC b o e hx) (I.base.keep b o e n hb hx) (I.base.free b o e n hx)
  · obtain ⟨sl, e1⟩ := I.base.slot b o e n hb hx
    obtain ⟨sl', e2⟩ := slot b _ (neL b o e) hb (neC b o e hx) e1 (I.base.free b o e n hx)
    exact ⟨sl', e2⟩
  · obtain ⟨o', e1⟩ := I.base.there b o e hx
    exact free b o' (neC b o e hx) e1 (I.base.free b o e n hx)
  · obtain ⟨o', e1⟩ := I.base.there b o e hx
    exact there b o' (neC b o e hx) e1
  · obtain ⟨m1, e1⟩ := I.base.tbls b ps e
    obtain ⟨m2, e2⟩ := tbls b _ e1
    exact ⟨m1 ++ m2, by rw [e2, Array.append_assoc]⟩
  · obtain ⟨m, hn, hl⟩ := I.loc
    refine ⟨m, ns m hn, fun i x v e1 e2 e3 => ?_⟩
    obtain ⟨u, r, l⟩ := hl i x v e1 e2 e3
    refine ⟨u, r, ?_⟩
    rcases l with l | ⟨k, c, e, z⟩
    · exact .inl l
    · exact .inr ⟨k, c, e, cellK x c e _ z⟩
  · obtain ⟨v, z⟩ := I.cell x c e
    exact ⟨v, cellK x c e v z⟩
  · obtain ⟨m, ⟨o, _, _, ho, _⟩, _⟩ := I.loc
    exact free _ o (fun z => (hch _ z).2.1 rfl) ho I.free
  · obtain ⟨v, o, ho, hd⟩ := I.cell x c e
    exact free c o (fun z => (hch c z).2.2.1 x c e rfl) ho (I.freeC x c e)
  · obtain ⟨e, n, ne, nf, d⟩ := I.pin p hp
    have nch : p.1 ∉ ch := fun z => (hch p.1 z).2.2.2 p hp rfl
    exact ⟨keep p.1 p.2 ne nf nch e n, free p.1 p.2 nch e n, ne, nf, d⟩
/-- .. where the frame's own object is kept too -/
theorem Inv.un {t' : Nat} (I : Inv X pins σ H s) (u : Un X.fs [] H H' s.heap h') (hok : HOk X.prog X.w H' h') : Inv X pins σ H' { s with heap := h', toks := t' } := by
  obtain ⟨m, ⟨o, es, ep, ho, r⟩, _⟩ := id I.loc
  obtain ⟨sl, hL⟩ := u.any ho I.free (by simp)
  exact I.step (g' := s.gens) (d' := s.drawn) (ch := []) (fun _ z => nomatch z) (fun b o _ hb _ e n => u.keep b o e n hb (by simp)) (fun b o _ hb _ e n => u.slot b o e n hb (by simp)) (fun b o _ e n => u.free b o e n (by simp)) (fun b o _ e => u.there b o e (by simp)) u.tups u.frzs u.tbls (fun m' hm => by
    obtain ⟨o', es', ep', ho', r'⟩ := hm
    rw [ho] at ho'; cases ho'
    exact ⟨_, es', ep', hL, r'⟩) hok I.bare
/-- behind a call (or a comprehension's block): the slots of this frame may have changed too, the records at ch may have turned -/
theorem Inv.call {g' : Array GenState} {t' : Nat} {d' : Drawn} {ch : List Addr} (I : Inv X pins σ H s) (u : Un (frs X.stack) ch H H' s.heap h') (hok : HOk X.prog X.w H' h') (hg : AllBare g')
    (hch : ∀ b ∈ ch, (b ∈ X.ex ∨ X.s_0.heap.objs.size ≤ b) ∧ b ≠ X.env.locals ∧ (∀ x c, X.env.cells.lookup x = some c → c ≠ b) ∧ ∀ p ∈ X.pn ++ pins, p.1 ≠ b) :
    Inv X pins σ H' { s with heap := h', gens := g', drawn := d', toks := t' } := by
  obtain ⟨m, ⟨o, es, ep, ho, r⟩, _⟩ := id I.loc
  obtain ⟨sl, hL⟩ := u.any ho I.free fun z => (hch _ z).2.1 rfl
  exact I.step (ch := ch) hch (fun b o hL hb hc e n => u.keep b o e n (fun z => (List.mem_cons.mp (I.stkSub b z)).elim hL hb) hc) (fun b o _ _ hc e n => u.any e n hc) (fun b o hc e n => u.free b o e n hc) (fun b o hc e => u.there b o e hc) u.tups u.frzs u.tbls (fun m' hm => by
    obtain ⟨o', es', ep', ho', r'⟩ := hm
    rw [ho] at ho'; cases ho'
    exact ⟨_, es', ep', hL, r'⟩) hok hg
/-- an untracked record of ours (an iterator) has turned -/
theorem Inv.turned {t' : Nat} {it : Addr} (I : Inv X pins σ H s) (k : ∀ b o, b ≠ it → s.heap.get? b = some o → h'.get? b = some o) (hn : H it = none) (hL : it ≠ X.env.locals)
    (h1 : it ∈ X.ex ∨ X.s_0.heap.objs.size ≤ it) (h2 : ∀ x c, X.env.cells.lookup x = some c → c ≠ it) (h3 : ∀ p ∈ X.pn ++ pins, p.1 ≠ it) : Inv X pins σ H { s with heap := h', toks := t' } := by
  have nit : ∀ b u, H b = some u → b ≠ it := fun b u e z => by rw [z, hn] at e; cases e
  refine I.step (g' := s.gens) (d' := s.drawn) (ch := [it]) (fun b hb => ?_) (fun b o _ _ hc e _ => k b o (fun z => hc (by simp [z])) e) (fun b o _ _ hc e _ => ⟨o.slots, k b o (fun z => hc (by simp [z])) e⟩) (fun _ _ _ _ n => n)
    (fun b o hc e => ⟨o, k b o (fun z => hc (by simp [z])) e⟩) (fun _ _ e => e) (fun _ _ _ e => e) (fun b ps e => ⟨#[], by rw [e]; simp⟩) (fun m hm => ?_) (fun b u e => ?_) I.bare
  · have e : b = it := by simpa using hb
    subst e
    exact ⟨h1, hL, h2, h3⟩
  · obtain ⟨o, es, ep, ho, r⟩ := hm
    exact ⟨o, es, ep, k _ o (Ne.symm hL) ho, r⟩
  · refine (I.hok b u e).stay (fun c v hc q => k c v ?_ q) (fun _ q => q) fun _ _ q => q
    rcases hc with z | z
    · rw [z]; exact nit b u e
    · exact nit c _ z
theorem Inv.tok (I : Inv X pins σ H s) (t : Nat) : Inv X pins σ H { s with toks := t } := I.un (h' := s.heap) (t' := t) Un.refl I.hok
/-- all objects kept -/
theorem Inv.kept {t' : Nat} (I : Inv X pins σ H s) (k : ∀ b u, s.heap.get? b = some u → h'.get? b = some u) : Inv X pins σ H { s with heap := h', toks := t' } := I.un (Un.kept k) (I.hok.kept k)
/-- a new object laid and tracked -/
theorem Inv.laid {a : Addr} {o : HO} {t' : Nat} (I : Inv X pins σ H s) (k : ∀ b u, s.heap.get? b = some u → h'.get? b = some u) (hp : s.heap.objs.size ≤ a) (new : ObjOk X.prog X.w (upd H a o) h' a o) :
    Inv X pins σ (upd H a o) { s with heap := h', toks := t' } := I.un (Un.laid k hp (I.hok.fresh hp)) (I.hok.laid k hp new)
/-- an object written -/
theorem Inv.write {x e : Addr} {o : HO} {t' : Nat} (I : Inv X pins σ H s) (mu : Mut (H x)) (he : e = x ∨ H e = some (.own x)) (k : ∀ b u, b ≠ e → s.heap.get? b = some u → h'.get? b = some u) (heo : ∃ u, h'.get? e = some u)
    (new : ObjOk X.prog X.w (upd H x o) h' x o) : Inv X pins σ (upd H x o) { s with heap := h', toks := t' } := I.un (Un.write mu he k heo) (I.hok.write mu he k heo new)
/-- forgetting slots, pins -/
theorem Inv.weak {σ' : List (Option V)} (I : Inv X pins σ H s) (hl : σ'.length = σ.length) (w : ∀ (i : Nat) v, σ'[i]? = some (some v) → σ[i]? = some (some v)) : Inv X pins σ' H s :=
  ⟨I.ok, I.os, I.bare, I.base, let ⟨m, hn, hl'⟩ := I.loc; ⟨m, hn, fun i x v e1 e2 e3 => hl' i x v e1 (w i v e2) e3⟩, I.cell, I.free, I.freeC, I.pin, I.hok, hl.trans I.len⟩
theorem Inv.pins_of {pins' : List (Addr × Obj)} (I : Inv X pins σ H s) (h : ∀ p ∈ pins', s.heap.get? p.1 = some p.2 ∧ H p.1 = none ∧ p.1 ≠ X.env.locals ∧ p.1 ∉ X.fs ∧ ∀ v, p.2.data ≠ .cell v) : Inv X pins' σ H s :=
  ⟨I.ok, I.os, I.bare, I.base, I.loc, I.cell, I.free, I.freeC, fun p hp => (List.mem_append.mp hp).elim (fun z => I.pin p (List.mem_append_left _ z)) (h p), I.hok, I.len⟩

theorem nodup_ix {N : List Str} (hN : N.Nodup) {i j : Nat} {x : Str} (a : N[i]? = some x) (b : N[j]? = some x) : i = j := by
  obtain ⟨h1, e1⟩ := List.getElem?_eq_some_iff.mp a
  obtain ⟨h2, e2⟩ := List.getElem?_eq_some_iff.mp b
  exact (List.getElem_inj hN).mp (e1.trans e2.symm)

/-- a name is stored; what changed -/
theorem store_ok2 {M : Model} {A : Around} {E : Value → Shared → Prop} {i : Nat} {x : Str} {v : V} {u : Value} {Q : Unit → Shared → Prop} (I : Inv X pins σ H s) (hN : X.N.Nodup) (hi : X.N[i]? = some x) (hx : Loc X.env.scope x) (r : RelV v u)
    (h : ∀ s', Inv X pins (σ.set i (some v)) H s' → (∃ a, Heap.SameBut a s.heap s'.heap ∧ (a = X.env.locals ∨ X.env.cells.lookup x = some a)) → Q () s') (hf : X.fn x = true ∨ X.env.scope.names.lookup x = some .local := by first | exact .inl rfl | exact .inr rfl | assumption) : wpAny M A (storeName X.env x u) Q E s := by
  obtain ⟨m, hn, hl⟩ := id I.loc
  have hcls : (X.env.scope.kind == .class || (X.env.scope.kind == .module && X.env.locals != X.env.globals)) = false := by rw [I.ok.kind]; rfl
  have hiσ : i < σ.length := by rw [I.len]; exact (List.getElem?_eq_some_iff.mp hi).1
  have cne := I.cne
  have tracked : ∀ {a : Addr} {h' : Heap}, (∃ o, s.heap.get? a = some o ∧ H a = none) → Heap.SameBut a s.heap h' → HOk X.prog X.w H h' := fun {a h'} ha hs b ob e => by
    obtain ⟨_, _, hfree⟩ := ha
    refine (I.hok b ob e).stay (fun c w' hc q => (hs.2 c ?_).trans q) (fun _ q => q) fun _ _ q => q
    rintro rfl
    rcases hc with rfl | hc
    · rw [hfree] at e; cases e
    · rw [hfree] at hc; cases hc
  rcases hx with hk | hk
  · refine wpAny_storeName_local hk hn (fun h' hn' hs => ?_) hcls
    obtain ⟨oL, _, _, hoL, _⟩ := id hn
    refine h _ ⟨I.ok, I.os, I.bare, ⟨fun b o e n hb hx => ?_, fun b o e n hb hx => ?_, I.base.free, fun b o e hx => ?_, I.base.tups, I.base.frzs, I.base.tbls⟩, ⟨_, hn', fun j y v' e1 e2 e3 => ?_⟩, fun y c e => ?_, I.free, I.freeC, fun p hp => ?_, tracked ⟨oL, hoL, I.free⟩ hs, by simpa using I.len⟩ ⟨_, hs, .inl rfl⟩
    · exact (hs.2 b (Nat.ne_of_lt (Nat.lt_of_lt_of_le (Heap.lt_size e) I.ok.above))).trans (I.base.keep b o e n hb hx)
    · obtain ⟨sl, e1⟩ := I.base.slot b o e n hb hx
      exact ⟨sl, (hs.2 b (Nat.ne_of_lt (Nat.lt_of_lt_of_le (Heap.lt_size e) I.ok.above))).trans e1⟩
    · obtain ⟨o', e1⟩ := I.base.there b o e hx
      exact ⟨o', (hs.2 b (Nat.ne_of_lt (Nat.lt_of_lt_of_le (Heap.lt_size e) I.ok.above))).trans e1⟩
    · by_cases hj : j = i
      · subst hj
        rw [hi] at e1; cases e1
        rw [List.getElem?_set_self hiσ] at e2
        cases e2
        exact ⟨u, r, .inl ⟨hk, by simp⟩⟩
      · rw [List.getElem?_set_ne (Ne.symm hj)] at e2
        obtain ⟨u', r', q⟩ := hl j y v' e1 e2 e3
        refine ⟨u', r', ?_⟩
        rcases q with ⟨k, e⟩ | ⟨k, c, e, z⟩
        · refine .inl ⟨k, ?_⟩
          have : y ≠ x := fun e => hj (nodup_ix hN e1 (e ▸ hi))
          simp [this, e]
        · exact .inr ⟨k, c, e, z.sameBut hs (cne y c e)⟩
    · obtain ⟨w', z⟩ := I.cell y c e
      exact ⟨w', z.sameBut hs (cne y c e)⟩
    · obtain ⟨e, n, ne, nf, d⟩ := I.pin p hp
      exact ⟨(hs.2 p.1 ne).trans e, n, ne, nf, d⟩
  · have hfn : X.fn x = true := by
      rcases hf with z | z
      · exact z
      · rw [z] at hk; cases hk
    obtain ⟨c, hc⟩ := I.ok.has x (.inl hk)
    obtain ⟨w', z⟩ := I.cell x c hc
    refine wpAny_storeName_cell I.ok.kind hk hc z (fun h' hc' hs => ?_)
    obtain ⟨oc, hoc, hocd⟩ := id z
    refine h { s with heap := h' } ⟨I.ok, I.os, I.bare, ⟨fun b o e n hb hx => ?_, fun b o e n hb hx => ?_, I.base.free, fun b o e hx => ?_, I.base.tups, I.base.frzs, I.base.tbls⟩, ⟨m, hn.sameBut hs (Ne.symm (cne x c hc)), fun j y v' e1 e2 e3 => ?_⟩, fun y c' e => ?_, I.free, I.freeC, fun p hp => ?_, tracked ⟨oc, hoc, I.freeC x c hc⟩ hs, by simpa using I.len⟩ ⟨c, hs, .inr hc⟩
    · exact (hs.2 b (Nat.ne_of_lt (Nat.lt_of_lt_of_le (Heap.lt_size e) (I.ok.cab x c hfn hc)))).trans (I.base.keep b o e n hb hx)
    · obtain ⟨sl, e1⟩ := I.base.slot b o e n hb hx
      exact ⟨sl, (hs.2 b (Nat.ne_of_lt (Nat.lt_of_lt_of_le (Heap.lt_size e) (I.ok.cab x c hfn hc)))).trans e1⟩
    · obtain ⟨o', e1⟩ := I.base.there b o e hx
      exact ⟨o', (hs.2 b (Nat.ne_of_lt (Nat.lt_of_lt_of_le (Heap.lt_size e) (I.ok.cab x c hfn hc)))).trans e1⟩
    · by_cases hj : j = i
      · subst hj
        rw [hi] at e1; cases e1
        rw [List.getElem?_set_self hiσ] at e2
        cases e2
        exact ⟨u, r, .inr ⟨.inl hk, c, hc, hc'⟩⟩
      · rw [List.getElem?_set_ne (Ne.symm hj)] at e2
        obtain ⟨u', r', q⟩ := hl j y v' e1 e2 e3
        refine ⟨u', r', ?_⟩
        rcases q with q | ⟨k, c', e, z'⟩
        · exact .inl q
        · refine .inr ⟨k, c', e, z'.sameBut hs ?_⟩
          rintro rfl
          exact hj (nodup_ix hN e1 (I.ok.inj _ _ _ e hc ▸ hi))
    · by_cases hcc : c' = c
      · subst hcc; exact ⟨_, hc'⟩
      · obtain ⟨w2, z2⟩ := I.cell y c' e
        exact ⟨w2, z2.sameBut hs hcc⟩
    · obtain ⟨e, n, ne, nf, d⟩ := I.pin p hp
      refine ⟨(hs.2 p.1 ?_).trans e, n, ne, nf, d⟩
      intro q
      rw [q, hoc] at e
      have q' : oc = p.2 := Option.some.inj e
      exact d w' (by rw [← q']; exact hocd)
theorem store_ok {M : Model} {A : Around} {E : Value → Shared → Prop} {i : Nat} {x : Str} {v : V} {u : Value} {Q : Unit → Shared → Prop} (I : Inv X pins σ H s) (hN : X.N.Nodup) (hi : X.N[i]? = some x) (hx : Loc X.env.scope x) (r : RelV v u)
    (h : ∀ s', Inv X pins (σ.set i (some v)) H s' → Q () s') (hf : X.fn x = true ∨ X.env.scope.names.lookup x = some .local := by first | exact .inl rfl | exact .inr rfl | assumption) : wpAny M A (storeName X.env x u) Q E s :=
  store_ok2 I hN hi hx r (fun s' I' _ => h s' I') hf
/-- behind a call or a block, the state as it is -/
theorem Inv.call' {s' : Shared} {ch : List Addr} (I : Inv X pins σ H s) (ho : s'.os = s.os) (u : Un (frs X.stack) ch H H' s.heap s'.heap) (hok : HOk X.prog X.w H' s'.heap) (hg : AllBare s'.gens)
    (hch : ∀ b ∈ ch, (b ∈ X.ex ∨ X.s_0.heap.objs.size ≤ b) ∧ b ≠ X.env.locals ∧ (∀ x c, X.env.cells.lookup x = some c → c ≠ b) ∧ ∀ p ∈ X.pn ++ pins, p.1 ≠ b) : Inv X pins σ H' s' := by
  obtain ⟨h', g', d', t', o'⟩ := s'
  have e : o' = s.os := ho
  subst e
  exact I.call (g' := g') (t' := t') (d' := d') u hok hg hch
end

/-! ### the judgements -/
/-- an exception: its class, its own dict's address (where it has one), the abstract heap behind it -/
abbrev XK := Value → Option Addr → Hp → Prop
abbrev St := List (Option V)
abbrev VK := V → Hp → Prop
/-- an expression's reading; a test's; an argument list's -/
abbrev TE := St → Hp → VK → Prop
abbrev TT := St → Hp → (Bool → Hp → Prop) → Prop
abbrev TA := St → Hp → (List V → Hp → Prop) → Prop
/-- what is wanted behind a statement -/
structure Ends where
  nx : St → Hp → Prop
  rt : VK
  bk : St → Hp → Prop := fun _ _ => False
  ct : St → Hp → Prop := fun _ _ => False
abbrev TS := Ends → St → Hp → Prop

def EP (X : Cx) (pins : List (Addr × Obj)) (σ : St) (Q : VK) (u : Value) (s' : Shared) : Prop := ∃ v H', Inv X pins σ H' s' ∧ RelV v u ∧ Q v H'
def TP (X : Cx) (pins : List (Addr × Obj)) (σ : St) (Q : Bool → Hp → Prop) (b : Bool) (s' : Shared) : Prop := ∃ H', Inv X pins σ H' s' ∧ Q b H'
def AP (X : Cx) (pins : List (Addr × Obj)) (σ : St) (Q : List V → Hp → Prop) (us : List Value) (s' : Shared) : Prop := ∃ vs H', Inv X pins σ H' s' ∧ Vals vs us ∧ Q vs H'
def SP (X : Cx) (pins : List (Addr × Obj)) (D : Ends) (f : Flow) (s' : Shared) : Prop :=
  match f with
  | .next => ∃ σ' H', Inv X pins σ' H' s' ∧ D.nx σ' H'
  | .brk => ∃ σ' H', Inv X pins σ' H' s' ∧ D.bk σ' H'
  | .cont => ∃ σ' H', Inv X pins σ' H' s' ∧ D.ct σ' H'
  | .ret u => ∃ v σ' H', Inv X pins σ' H' s' ∧ RelV v u ∧ D.rt v H'

def PE (X : Cx) (e : Expr) (t : TE) : Prop :=
  ∀ (pins : List (Addr × Obj)) (s : Shared) (σ : St) (H : Hp) (Q : VK), Inv X pins σ H s → t σ H Q → wpAny (model X.prog X.w) X.A (eval e X.env) (EP X pins σ Q) X.xe s
def PT (X : Cx) (e : Expr) (t : TT) : Prop :=
  ∀ (pins : List (Addr × Obj)) (s : Shared) (σ : St) (H : Hp) (Q : Bool → Hp → Prop), Inv X pins σ H s → t σ H Q → wpAny (model X.prog X.w) X.A (isTrue e X.env (eval e X.env)) (TP X pins σ Q) X.xe s
/-- a test whatever its 'whole' is (and, or) -/
def PW (X : Cx) (e : Expr) (t : TT) : Prop :=
  ∀ (whole : Sem Value) (pins : List (Addr × Obj)) (s : Shared) (σ : St) (H : Hp) (Q : Bool → Hp → Prop), Inv X pins σ H s → t σ H Q → wpAny (model X.prog X.w) X.A (isTrue e X.env whole) (TP X pins σ Q) X.xe s
theorem PW.pt {X : Cx} {e : Expr} {t : TT} (h : PW X e t) : PT X e t := h _
/-- an argument list (no star), from the left -/
def PA (X : Cx) (es : List Expr) (t : TA) : Prop :=
  ∀ (pos : Pos) (pins : List (Addr × Obj)) (s : Shared) (σ : St) (H : Hp) (Q : List V → Hp → Prop), Inv X pins σ H s → t σ H Q → wpAny (model X.prog X.w) X.A (spliced (backTo pos (starEach es X.env))) (AP X pins σ Q) X.xe s
def PS (X : Cx) (st : Stmt) (t : TS) : Prop :=
  ∀ (pins : List (Addr × Obj)) (s : Shared) (σ : St) (H : Hp) (D : Ends), Inv X pins σ H s → t D σ H → wpAny (model X.prog X.w) X.A (exec st X.env) (SP X pins D) X.xe s
def PSs (X : Cx) (st : List Stmt) (t : TS) : Prop :=
  ∀ (pins : List (Addr × Obj)) (s : Shared) (σ : St) (H : Hp) (D : Ends), Inv X pins σ H s → t D σ H → wpAny (model X.prog X.w) X.A (execs st X.env) (SP X pins D) X.xe s
/-- weaken the end -/
theorem thn {α : Type} {t : Sem α} {Q Q' : α → Shared → Prop} {M : Model} {A : Around} {E : Value → Shared → Prop} {s : Shared} (h : wpAny M A t Q E s) (hQ : ∀ a s, Q a s → Q' a s) : wpAny M A t Q' E s := wpAny_mono h hQ fun _ _ x => x
end L2

namespace L2
open PySem PySem.Spec PyProof.Rows
section
variable {X : Cx}

/-- two expressions in a row -/
theorem bin {a b : Expr} {ta tb : TE} (ha : PE X a ta) (hb : PE X b tb) {pins : List (Addr × Obj)} {s : Shared} {σ : St} {H : Hp} {R : V → V → Hp → Prop} (I : Inv X pins σ H s) (h : ta σ H fun x H1 => tb σ H1 fun y H2 => R x y H2)
    {α : Type} {Q : α → Shared → Prop} {f : Value → Value → Sem α}
    (hf : ∀ v u s2 x y H2, Inv X pins σ H2 s2 → RelV x v → RelV y u → R x y H2 → wpAny (model X.prog X.w) X.A (f v u) Q X.xe s2) :
    wpAny (model X.prog X.w) X.A (eval a X.env) (fun v s₁ => wpAny (model X.prog X.w) X.A (eval b X.env) (fun u s₂ => wpAny (model X.prog X.w) X.A (f v u) Q X.xe s₂) X.xe s₁) X.xe s := by
  refine thn (ha pins s σ H _ I h) fun v s1 ⟨x, H1, I1, r1, q1⟩ => ?_
  refine thn (hb pins s1 σ H1 _ I1 q1) fun u s2 ⟨y, H2, I2, r2, q2⟩ => ?_
  exact hf v u s2 x y H2 I2 r1 r2 q2

/-! ### names and constants -/
def tVar (i : Nat) : TE := fun σ H Q => ∃ v, σ[i]? = some (some v) ∧ Q v H
def tC (v : V) : TE := fun _ H Q => Q v H
theorem pe_var {i : Nat} {x : Str} {pos : Pos} (hN : X.N[i]? = some x) (hv : Vis X.env.scope x) (hd : (x == ("__debug__" : Str)) = false := by decide) (hcd : (x == ("__classdict__" : Str)) = false := by decide) : PE X (.Name x pos) (tVar i) := by
  intro pins s σ H Q I h
  obtain ⟨v, e, h⟩ := h
  obtain ⟨m, hn, hl⟩ := I.loc
  obtain ⟨u, r, l⟩ := hl i x v hN e hv
  have fin : EP X pins σ Q u s := ⟨v, H, I, r, h⟩
  rcases l with ⟨hk, hm⟩ | ⟨hk, c, hc, hcell⟩
  · exact wpAny_Name (wpAny_loadName_local I.ok.kind hk hn hm fin) hd
  · rcases hk with hk | hk
    · exact wpAny_Name (wpAny_loadName_cell I.ok.kind hk hc hcell fin) hd
    · exact wpAny_Name (wpAny_loadName_free I.ok.kind hk hc hcell fin hcd) hd
theorem pe_int {i j pos} : PE X (.Constant (.int i) j pos) (tC (.int i)) := fun _ _ _ H _ I h => wpAny_Constant_int ⟨.int i, H, I.tok _, ⟨_, rfl⟩, h⟩
theorem pe_bl {b j pos} : PE X (.Constant (.bool b) j pos) (tC (.bl b)) := fun _ _ _ H _ I h => Constant_bool ⟨.bl b, H, I, rfl, h⟩

/-- a global name of the def -/
def Gl (X : Cx) (x : Str) : Prop := X.env.kindOf x = some .globalImplicit
theorem ld_glob {E : Value → Shared → Prop} {pins : List (Addr × Obj)} {s : Shared} {σ : St} {H : Hp} {x : Str} {u : Value} {pos : Pos} {Q : Value → Shared → Prop} (I : Inv X pins σ H s) (hg : Gl X x) (hm : X.mg x = some u) (h : Q u s)
    (hd : (x == ("__debug__" : Str)) = false := by decide) : wpAny (model X.prog X.w) X.A (eval (.Name x pos) X.env) Q E s :=
  Calls.Name_function_global I.ok.kind hg (Calls.loadGlobal_global (by rw [I.ok.glob]; exact I.mod.glob.keeps I.bk) hm h) hd
theorem ld_blt {E : Value → Shared → Prop} {pins : List (Addr × Obj)} {s : Shared} {σ : St} {H : Hp} {x : Str} {u : Value} {pos : Pos} {Q : Value → Shared → Prop} (I : Inv X pins σ H s) (hg : Gl X x) (hm : X.mg x = none) (hv : bootBuiltins x = some u) (h : Q u s)
    (hn : x ≠ "__name__" := by decide) (hd : (x == ("__debug__" : Str)) = false := by decide) : wpAny (model X.prog X.w) X.A (eval (.Name x pos) X.env) Q E s := by
  obtain ⟨mb, h1, h2⟩ := I.mod.blt
  exact Calls.Name_function_global I.ok.kind hg (Calls.loadGlobal_builtin (by rw [I.ok.glob]; exact I.mod.glob.keeps I.bk) hm (by rw [I.ok.blt]; exact h1.keeps I.bk) ((h2 x hn).trans hv) h) hd
/-- a module's constant, a class, a function, as a value -/
theorem pe_glob {x : Str} {v : V} {u : Value} {pos : Pos} (hg : Gl X x) (hm : X.mg x = some u) (r : RelV v u) (hd : (x == ("__debug__" : Str)) = false := by decide) : PE X (.Name x pos) (tC v) :=
  fun _ _ _ H _ I h => ld_glob I hg hm ⟨v, H, I, r, h⟩ hd

/-! ### arithmetic -/
/-- two ints -/
def t2I (ta tb : TE) (k : Int → Int → Hp → Prop) : St → Hp → Prop := fun σ H => ta σ H fun x H1 => tb σ H1 fun y H2 => ∃ i j, x = .int i ∧ y = .int j ∧ k i j H2
variable {a b : Expr} {ta tb : TE} {pos : Pos}

/-! ### comparisons -/
def PC (X : Cx) (op : CmpOp) (a b : Expr) (t : TE) : Prop :=
  ∀ (pins : List (Addr × Obj)) (s : Shared) (σ : St) (H : Hp) (Q : VK), Inv X pins σ H s → t σ H Q →
    wpAny (model X.prog X.w) X.A (eval a X.env) (fun v s₁ => wpAny (model X.prog X.w) X.A (eval b X.env) (fun u s₂ => wpAny (model X.prog X.w) X.A (compareOp op v u) (EP X pins σ Q) X.xe s₂) X.xe s₁) X.xe s
theorem nobehind (b : Expr) {op : CmpOp} (h : op ≠ .In) (h2 : op ≠ .NotIn) : behindInMarks op b = false := by
  have e1 : (op == CmpOp.In) = false := by cases op <;> first | rfl | exact absurd rfl h
  have e2 : (op == CmpOp.NotIn) = false := by cases op <;> first | rfl | exact absurd rfl h2
  cases b <;> simp [behindInMarks, e1, e2]
def tCmp (p : Int → Int → Bool) (ta tb : TE) : TE := fun σ H Q => t2I ta tb (fun i j H2 => Q (.bl (p i j)) H2) σ H
abbrev tLt : TE → TE → TE := tCmp fun i j => decide (i < j)
abbrev tLe : TE → TE → TE := tCmp fun i j => decide (i ≤ j)
abbrev tGt : TE → TE → TE := tCmp fun i j => decide (j < i)
abbrev tGe : TE → TE → TE := tCmp fun i j => decide (j ≤ i)
abbrev tNeI : TE → TE → TE := tCmp fun i j => !decide (i = j)
/-- a comparison of two ints, by its rule -/
theorem pc_int {op : CmpOp} {p : Int → Int → Bool} (ha : PE X a ta) (hb : PE X b tb)
    (rule : ∀ (i j : Int) (t u : Tok) (Q : Value → Shared → Prop) (s : Shared), Q (.bool (p i j)) s → wpAny (model X.prog X.w) X.A (compareOp op (.int i t) (.int j u)) Q X.xe s) : PC X op a b (tCmp p ta tb) := by
  intro pins s σ H Q I h
  refine bin ha hb I h fun v u s2 x y H2 I2 rx ry q => ?_
  obtain ⟨i, j, rfl, rfl, q⟩ := q
  obtain ⟨t, rfl⟩ := rx
  obtain ⟨t', rfl⟩ := ry
  exact rule i j t t' _ s2 ⟨.bl _, H2, I2, rfl, q⟩
theorem pc_lt (ha : PE X a ta) (hb : PE X b tb) : PC X .Lt a b (tLt ta tb) := pc_int ha hb fun _ _ _ _ _ _ h => lt_int h
theorem pc_le (ha : PE X a ta) (hb : PE X b tb) : PC X .LtE a b (tLe ta tb) := pc_int ha hb fun _ _ _ _ _ _ h => le_int h
theorem pc_gt (ha : PE X a ta) (hb : PE X b tb) : PC X .Gt a b (tGt ta tb) := pc_int ha hb fun _ _ _ _ _ _ h => gt_int h
theorem pc_ge (ha : PE X a ta) (hb : PE X b tb) : PC X .GtE a b (tGe ta tb) := pc_int ha hb fun _ _ _ _ _ _ h => ge_int h
theorem pc_neI (ha : PE X a ta) (hb : PE X b tb) : PC X .NotEq a b (tNeI ta tb) := pc_int ha hb fun _ _ _ _ _ _ h => ne_int (by rw [bne, Bool.beq_eq_decide_eq]; exact h)
/-- a comparison as a value, as a test -/
def tB (t : TE) : TT := fun σ H Q => t σ H fun x H1 => ∃ c, x = .bl c ∧ Q c H1
theorem pe_cmp {op : CmpOp} {t : TE} (h : PC X op a b t) (h1 : behindInMarks op b = false := by first | exact nobehind _ (by decide) (by decide) | rfl) : PE X (.Compare a [op] [b] pos) t := fun pins s σ H Q I hw => wpAny_Compare1 (h pins s σ H Q I hw) h1
theorem pt_cmp {op : CmpOp} {t : TE} (h : PC X op a b t) (h1 : behindInMarks op b = false := by first | exact nobehind _ (by decide) (by decide) | rfl) : PT X (.Compare a [op] [b] pos) (tB t) := by
  intro pins s σ H Q I hw
  refine wpAny_isTrue_Compare1 (thn (h pins s σ H _ I hw) fun v s1 h1 => thn h1 fun u s2 h2 => thn h2 fun c s3 ⟨x, H1, I1, r1, q1⟩ => ?_) h1
  obtain ⟨d, rfl, q⟩ := q1
  cases r1
  exact wpAny_truthy_bool ⟨H1, I1, q⟩
/-- an expression whose value is a bool, as a test -/
theorem pt_val {e : Expr} {t : TE} (h : PE X e t) (he : ∀ whole, isTrue e X.env whole = (do let v ← whole; standAt e.pos; holding [v] (truthy v)) := by intro _; rfl) : PT X e (tB t) := by
  intro pins s σ H Q I hw
  refine isTrue_plain (thn (h pins s σ H _ I hw) fun v s1 ⟨x, H1, I1, r1, q1⟩ => ?_) (he _)
  obtain ⟨d, rfl, q⟩ := q1
  cases r1
  exact wpAny_truthy_bool ⟨H1, I1, q⟩

/-! ### and, or, not -/
variable {tA tB' : TT} {rest : List Expr}
def tOr (t u : TT) : TT := fun σ H Q => t σ H fun c H1 => if c = true then Q true H1 else u σ H1 Q
def tNot (t : TT) : TT := fun σ H Q => t σ H fun c H1 => Q (!c) H1
theorem pw_or1 (ha : PT X a tA) : PW X (.BoolOp .Or [a] pos) tA := by
  intro wh pins s σ H Q I h
  refine isTrue_or (thn (ha pins s σ H Q I h) fun c s1 e => ?_)
  cases c with
  | false => exact isTrue_or_nil e
  | true => exact e
theorem pw_or (ha : PT X a tA) (hb : PW X (.BoolOp .Or (b :: rest) pos) tB') : PW X (.BoolOp .Or (a :: b :: rest) pos) (tOr tA tB') := by
  intro wh pins s σ H Q I h
  refine isTrue_or (thn (ha pins s σ H _ I h) fun c s1 ⟨H1, I1, q1⟩ => ?_)
  cases c with
  | true => exact ⟨H1, I1, q1⟩
  | false => exact hb wh pins s1 σ H1 Q I1 q1
theorem pt_not (ha : PT X a tA) : PT X (.UnaryOp .Not a pos) (tNot tA) := by
  intro pins s σ H Q I h
  exact isTrue_not (ha pins s σ H (fun c H1 => Q (!c) H1) I h)
/-- .. as values (bools) -/
def tAndV (ta tb : TE) : TE := fun σ H Q => ta σ H fun x H1 => ∃ c, x = .bl c ∧ if c = true then tb σ H1 Q else Q (.bl false) H1
theorem pe_one {op} {t : TE} (h : PE X a t) : PE X (.BoolOp op [a] pos) t := fun pins s σ H Q I hw => BoolOp_one (h pins s σ H Q I hw)
theorem pe_and (ha : PE X a ta) (hb : PE X (.BoolOp .And (b :: rest) pos) tb) : PE X (.BoolOp .And (a :: b :: rest) pos) (tAndV ta tb) := by
  intro pins s σ H Q I h
  refine BoolOp_and (thn (ha pins s σ H _ I h) fun v s1 ⟨x, H1, I1, r1, q1⟩ => ?_)
  obtain ⟨c, rfl, q1⟩ := q1
  cases r1
  refine wpAny_truthy_bool ?_
  cases c with
  | true => exact hb pins s1 σ H1 Q I1 q1
  | false => exact ⟨.bl false, H1, I1, rfl, q1⟩
end
end L2

namespace L2
open PySem PySem.Spec PyProof.Rows

/-! ### a list, a tuple that is read: tracked, frozen, or an object of the module -/
def SqL (K : PySem.W.Frag) (H : Hp) (a : Addr) (xs : List V) : Prop :=
  Rd H a (.lst xs) ∨
    ∃ (o : Obj) (its : Array Value) (n : Nat), K.lookup a = some o ∧ o.cls = .type "list" ∧ o.dict = none ∧ o.data = .seq its n ∧ its.size ≤ sizeLine ∧ Vals xs its.toList
def SqT (K : PySem.W.Frag) (H : Hp) (a : Addr) (xs : List V) : Prop :=
  Rd H a (.tup xs) ∨
    ∃ (o : Obj) (its : Array Value) (n : Nat), K.lookup a = some o ∧ o.cls = .type "tuple" ∧ o.data = .seq its n ∧ its.size ≤ sizeLine ∧ Vals xs its.toList
def absV : Value → Option V
  | .none => some .non
  | .bool b => some (.bl b)
  | .int i _ => some (.int i)
  | .str x _ => some (.str x)
  | .bytes b _ => some (.byt b)
  | .float b _ => some (.flt b)
  | .ref a => some (.ref a)
  | .type n => some (.ty n)
  | _ => none
theorem RelV.abs {x : V} {u : Value} (r : RelV x u) : absV u = some x := by
  cases x with
  | non => cases r; rfl
  | bl _ => cases r; rfl
  | int _ => obtain ⟨t, rfl⟩ := r; rfl
  | str _ => obtain ⟨t, rfl⟩ := r; rfl
  | byt _ => obtain ⟨t, rfl⟩ := r; rfl
  | flt _ => obtain ⟨t, rfl⟩ := r; rfl
  | ref _ => cases r; rfl
  | ty _ => cases r; rfl
theorem RelV.inj {x y : V} {u : Value} (r : RelV x u) (q : RelV y u) : x = y := Option.some.inj (r.abs.symm.trans q.abs)
theorem Vals.inj : ∀ {xs ys : List V} {us : List Value}, Vals xs us → Vals ys us → xs = ys
  | _, _, _, .nil, .nil => rfl
  | _, _, _, .cons r t, .cons r' t' => by rw [r.inj r', Vals.inj t t']
section
variable {X : Cx} {pins : List (Addr × Obj)} {σ : St} {H : Hp} {s : Shared} {a : Addr} {xs ys : List V}
theorem SqL.of {K : PySem.W.Frag} (h : H a = some (.lst xs)) : SqL K H a xs := .inl (.inl h)
theorem SqT.of {K : PySem.W.Frag} (h : H a = some (.tup xs)) : SqT K H a xs := .inl (.inl h)
theorem Inv.list (I : Inv X pins σ H s) (h : SqL X.K H a xs) : ∃ its : List Value, Vals xs its ∧ PlainL s.heap a its.toArray ∧ xs.length ≤ sizeLine := by
  rcases h with h | ⟨o, its, n, hk, hc, hd, hs, hz, r⟩
  · obtain ⟨z, its, n, r, e⟩ := h.ok I.hok
    exact ⟨its, r, ⟨_, n, e, rfl, rfl, rfl⟩, z⟩
  · refine ⟨its.toList, r, ⟨o, n, I.kIn a o hk, hc, hd, by simpa using hs⟩, ?_⟩
    have e := r.length
    simp only [Array.length_toList] at e
    omega
theorem Inv.tuple (I : Inv X pins σ H s) (h : SqT X.K H a xs) : ∃ its : List Value, Vals xs its ∧ IsTup s.heap a its.toArray ∧ xs.length ≤ sizeLine := by
  rcases h with h | ⟨o, its, n, hk, hc, hs, hz, r⟩
  · obtain ⟨z, its, r, p⟩ := h.ok I.hok
    exact ⟨its, r, p, z⟩
  · refine ⟨its.toList, r, ⟨o, I.kIn a o hk, hc, n, by simpa using hs⟩, ?_⟩
    have e := r.length
    simp only [Array.length_toList] at e
    omega
theorem Inv.list_inj (I : Inv X pins σ H s) (h : SqL X.K H a xs) (h' : SqL X.K H a ys) : xs = ys := by
  obtain ⟨its, r, ⟨o, n, e, _, _, d⟩, _⟩ := I.list h
  obtain ⟨its', r', ⟨o', n', e', _, _, d'⟩, _⟩ := I.list h'
  rw [e] at e'; cases e'
  rw [d] at d'
  injection d' with d1 _
  have : its = its' := by simpa using congrArg Array.toList d1
  subst this
  exact r.inj r'
end

/-! ### another wish about exceptions -/
abbrev Cx.wish (X : Cx) (E : Value → Shared → Prop) : Cx := { X with xe := E }
/-- no exception leaves -/
abbrev Cx.nox (X : Cx) : Cx := X.wish fun _ _ => False
theorem Cx.Ok.wish {X : Cx} (ok : X.Ok) (E : Value → Shared → Prop) : (X.wish E).Ok :=
  ⟨ok.mod, ok.kind, ok.glob, ok.blt, ok.above, ok.inj, ok.has, ok.cab, ok.hd, ok.frames, ok.stk, ok.exf, ok.bs, ok.bsz, ok.noex, ok.exfs, ok.funs, ok.frf⟩
theorem Cx.Ok.unwish {X : Cx} {E : Value → Shared → Prop} (ok : (X.wish E).Ok) : X.Ok :=
  ⟨ok.mod, ok.kind, ok.glob, ok.blt, ok.above, ok.inj, ok.has, ok.cab, ok.hd, ok.frames, ok.stk, ok.exf, ok.bs, ok.bsz, ok.noex, ok.exfs, ok.funs, ok.frf⟩
section
variable {X : Cx} {pins : List (Addr × Obj)} {σ : St} {H : Hp} {s : Shared} {E : Value → Shared → Prop}
theorem Inv.wish (I : Inv X pins σ H s) (E : Value → Shared → Prop) : Inv (X.wish E) pins σ H s := ⟨I.ok.wish E, I.os, I.bare, I.base, I.loc, I.cell, I.free, I.freeC, I.pin, I.hok, I.len⟩
theorem Inv.unwish (I : Inv (X.wish E) pins σ H s) : Inv X pins σ H s := ⟨I.ok.unwish, I.os, I.bare, I.base, I.loc, I.cell, I.free, I.freeC, I.pin, I.hok, I.len⟩
theorem SP.unwish {D : Ends} {f : Flow} {s' : Shared} (h : SP (X.wish E) pins D f s') : SP X pins D f s' := by
  cases f with
  | next => obtain ⟨σ', H', I, q⟩ := h; exact ⟨σ', H', I.unwish, q⟩
  | brk => obtain ⟨σ', H', I, q⟩ := h; exact ⟨σ', H', I.unwish, q⟩
  | cont => obtain ⟨σ', H', I, q⟩ := h; exact ⟨σ', H', I.unwish, q⟩
  | ret u => obtain ⟨v, σ', H', I, r, q⟩ := h; exact ⟨v, σ', H', I.unwish, r, q⟩
theorem PSs.nox {st : List Stmt} {t : TS} (h : PSs X.nox st t) : PSs X st t := fun pins s σ H D I hw =>
  wpAny_mono (h pins s σ H D (I.wish _) hw) (fun _ _ q => q.unwish) fun _ _ z => False.elim z
end

/-! ### blocks and small statements -/
section
variable {X : Cx} {st : Stmt} {rest : List Stmt} {t u : TS} {e : Expr} {te : TE} {pos : Pos}
def tNext : TS := fun D σ H => D.nx σ H
def tSeq (t u : TS) : TS := fun D σ H => t { D with nx := u D } σ H
theorem pss_nil : PSs X [] tNext := fun _ _ σ H _ I h => wpAny_execs_nil ⟨σ, H, I, h⟩
theorem pss_cons (h1 : PS X st t) (h2 : PSs X rest u) : PSs X (st :: rest) (tSeq t u) := by
  intro pins s σ H D I h
  refine wpAny_execs_cons (thn (h1 pins s σ H { D with nx := u D } I h) fun f s1 q => ?_)
  cases f with
  | next =>
    obtain ⟨σ', H', I', q⟩ := q
    exact h2 pins s1 σ' H' D I' q
  | ret v => exact q
  | brk => exact q
  | cont => exact q
theorem pss_one (h1 : PS X st t) : PSs X [st] t := by
  intro pins s σ H D I h
  refine wpAny_execs_cons (thn (h1 pins s σ H D I h) fun f s1 q => ?_)
  cases f with
  | next => exact wpAny_execs_nil q
  | ret v => exact q
  | brk => exact q
  | cont => exact q
/-- in a def's body nothing is shown -/
theorem Inv.quiet {pins : List (Addr × Obj)} {σ : St} {H : Hp} {s : Shared} (I : Inv X pins σ H s) : interactive X.env = false := by simp [interactive, I.ok.kind]
/-- an expression whose value is dropped -/
def tDrop (te : TE) : TS := fun D σ H => te σ H fun _ H1 => D.nx σ H1
theorem ps_expr (he : PE X e te) (hs : swapsWith e none pos.line X.env = pure false := by rfl) : PS X (.Expr e pos) (tDrop te) := by
  intro pins s σ H D I h
  exact wpAny_Expr_any (thn (he pins s σ H _ I h) fun v s1 ⟨x, H1, I1, r1, q1⟩ => ⟨σ, H1, I1, q1⟩) I.quiet hs
def tRet (te : TE) : TS := fun D σ H => te σ H D.rt
theorem ps_ret (he : PE X e te) : PS X (.Return (some e) pos) (tRet te) := by
  intro pins s σ H D I h
  exact wpAny_Return_some (thn (he pins s σ H _ I h) fun v s1 ⟨x, H1, I1, r1, q1⟩ => ⟨x, σ, H1, I1, r1, q1⟩)
def tIfS (c : TT) (t u : TS) : TS := fun D σ H => c σ H fun b H1 => if b = true then t D σ H1 else u D σ H1
theorem ps_if {c : Expr} {a b : List Stmt} {tc : TT} (hc : PT X c tc) (ha : PSs X a t) (hb : PSs X b u) : PS X (.If c a b pos) (tIfS tc t u) := by
  intro pins s σ H D I h
  refine wpAny_If (thn (hc pins s σ H _ I h) fun d s1 ⟨H1, I1, q1⟩ => ?_)
  cases d with
  | true => exact ha pins s1 σ H1 D I1 q1
  | false => exact hb pins s1 σ H1 D I1 q1
end

/-! ### targets -/
abbrev TG := V → St → Hp → (St → Hp → Prop) → Prop
abbrev TGs := List V → St → Hp → (St → Hp → Prop) → Prop
def PG (X : Cx) (target : Expr) (t : TG) : Prop :=
  ∀ (pins : List (Addr × Obj)) (s : Shared) (σ : St) (H : Hp) (v : V) (u : Value) (Q : St → Hp → Prop), Inv X pins σ H s → RelV v u → t v σ H Q →
    wpAny (model X.prog X.w) X.A (assign target X.env u) (fun _ s' => ∃ σ' H', Inv X pins σ' H' s' ∧ Q σ' H') X.xe s
/-- several targets, one after another -/
def PGs (X : Cx) (ts : List Expr) (t : TGs) : Prop :=
  ∀ (pins : List (Addr × Obj)) (s : Shared) (σ : St) (H : Hp) (vs : List V) (us : List Value) (Q : St → Hp → Prop), Inv X pins σ H s → Vals vs us → t vs σ H Q →
    wpAny (model X.prog X.w) X.A (assignInOrder ((assignEach ts X.env).map (·.2)) us) (fun _ s' => ∃ σ' H', Inv X pins σ' H' s' ∧ Q σ' H') X.xe s
section
variable {X : Cx} {pos : Pos}
def gName (i : Nat) : TG := fun v σ H Q => Q (σ.set i (some v)) H
theorem pg_name {i : Nat} {x : Str} (hN : X.N.Nodup) (hi : X.N[i]? = some x) (hx : Loc X.env.scope x) (hf : X.fn x = true ∨ X.env.scope.names.lookup x = some .local := by first | exact .inl rfl | exact .inr rfl | assumption) : PG X (.Name x pos) (gName i) := by
  intro pins s σ H v u Q I r h
  exact wpAny_assign_Name (store_ok I hN hi hx r (fun s' I' => ⟨_, H, I', h⟩) hf)
def gNil : TGs := fun vs σ H Q => vs = [] ∧ Q σ H
def gCons (t : TG) (u : TGs) : TGs := fun vs σ H Q => ∃ v r, vs = v :: r ∧ t v σ H fun σ' H' => u r σ' H' Q
theorem pgs_nil : PGs X [] gNil := by
  intro pins s σ H vs us Q I r h
  obtain ⟨e, h⟩ := h
  subst e
  cases r
  exact assignInOrder_nil ⟨σ, H, I, h⟩
theorem pgs_cons {e : Expr} {es : List Expr} {t : TG} {u : TGs} (h1 : PG X e t) (h2 : PGs X es u)
    (hs : (assignEach (e :: es) X.env).map (·.2) = assign e X.env :: (assignEach es X.env).map (·.2) := by rfl) : PGs X (e :: es) (gCons t u) := by
  intro pins s σ H vs us Q I r h
  obtain ⟨v, vr, e1, h⟩ := h
  subst e1
  cases r with
  | cons r rr =>
    rw [hs]
    refine assignInOrder_cons (thn (h1 pins s σ H _ _ _ I r h) fun _ s1 ⟨σ1, H1, I1, q1⟩ => ?_)
    exact h2 pins s1 σ1 H1 _ _ Q I1 rr q1
/-- (a, b, ..) = a tuple of that length -/
def gTup (K : PySem.W.Frag) (n : Nat) (t : TGs) : TG := fun v σ H Q => ∃ a xs, v = .ref a ∧ SqT K H a xs ∧ xs.length = n ∧ t xs σ H Q
theorem pg_tup {es : List Expr} {k : Nat} {t : TGs} {n : Nat} (hc : X.calm = true) (h : PGs X es t)
    (hn : (assignEach es X.env).length = n := by rfl) (hst : (assignEach es X.env).findIdx? (·.1) = none := by rfl) : PG X (.Tuple es k pos) (gTup X.K n t) := by
  intro pins s σ H v u Q I r hw
  obtain ⟨a, xs, e1, hq, hl, hw⟩ := hw
  subst e1
  cases r
  obtain ⟨its, rv, ht, hz⟩ := I.tuple hq
  refine assign_Tuple_tuple (I.ok.hd hc) ht (by simp [hn, ← hl, rv.length]) hst fun h' hx => ?_
  have I1 : Inv X pins σ H { s with heap := h' } := I.kept (t' := s.toks) fun b o e => hx b o (Nat.ne_of_lt (Heap.lt_size e)) e
  exact h pins _ σ H xs _ Q I1 (by simpa using rv) hw
/-- target = value -/
def tAsg (te : TE) (g : TG) : TS := fun D σ H => te σ H fun x H1 => g x σ H1 D.nx
/-- name = value -/
theorem ps_set {i : Nat} {x : Str} {e : Expr} {te : TE} {pos' : Pos} (hN : X.N.Nodup) (hi : X.N[i]? = some x) (hx : Loc X.env.scope x) (he : PE X e te) (hs : swapsWith e (some (.Name x pos')) pos.line X.env = pure false := by rfl) (hf : X.fn x = true ∨ X.env.scope.names.lookup x = some .local := by first | exact .inl rfl | exact .inr rfl | assumption) :
    PS X (.Assign [.Name x pos'] e pos) (tAsg te (gName i)) := by
  intro pins s σ H D I h
  refine wpAny_Assign_Name (thn (he pins s σ H _ I h) fun v s1 ⟨y, H1, I1, r1, q1⟩ => ?_) hs
  exact store_ok I1 hN hi hx r1 (fun s2 I2 => ⟨_, H1, I2, q1⟩) hf
end

/-! ### while -/
section
variable {X : Cx} {pos : Pos}
/-- the invariant W with its measure -/
def tWhile (c : TT) (tb : TS) : TS := fun D σ H => ∃ W : Nat → St → Hp → Prop, (∃ m, W m σ H) ∧ ∀ m σ H, W m σ H →
  c σ H fun b H1 => if b = true then ∃ N : St → Hp → Prop, (∀ σ' H', N σ' H' → ∃ m', m' < m ∧ W m' σ' H') ∧ tb { D with nx := N, ct := N, bk := D.nx } σ H1 else D.nx σ H1
theorem ps_while {c : Expr} {body : List Stmt} {tc : TT} {tb : TS} (hp : PassesOwn (model X.prog X.w) X.A X.env X.xe) (hc : PT X c tc) (hb : PSs X body tb) : PS X (.While c body [] pos) (tWhile tc tb) := by
  intro pins s σ H D I h
  obtain ⟨W, ⟨m0, w0⟩, turn⟩ := h
  refine wpAny_While (codeAny_whileLoop (fun n s' => ∃ σ' H', Inv X pins σ' H' s' ∧ W n σ' H') ?_ m0 ⟨σ, H, I, w0⟩)
  rintro n s1 ⟨σ1, H1, I1, w1⟩
  refine wpAny_passesOwn hp (thn (hc pins s1 σ1 H1 _ I1 (turn n σ1 H1 w1)) fun b s2 ⟨H2, I2, q2⟩ => ?_)
  cases b with
  | true =>
    obtain ⟨N, hN, q2⟩ := q2
    rw [if_pos rfl]
    refine wpAny_passesOwn hp (thn (hb pins s2 σ1 H2 _ I2 q2) fun f s3 q3 => ?_)
    cases f with
    | next =>
      obtain ⟨σ3, H3, I3, n3⟩ := q3
      obtain ⟨m', hm, w3⟩ := hN σ3 H3 n3
      exact ⟨m', hm, σ3, H3, I3, w3⟩
    | cont =>
      obtain ⟨σ3, H3, I3, n3⟩ := q3
      obtain ⟨m', hm, w3⟩ := hN σ3 H3 n3
      exact ⟨m', hm, σ3, H3, I3, w3⟩
    | brk => exact q3
    | ret v => exact q3
  | false =>
    rw [if_neg Bool.false_ne_true]
    exact wpAny_execs_nil ⟨σ1, H2, I2, q2⟩
end

/-! ### what a loop or a comprehension walks -/
/-- at turn i: it yields x (the heap may grow), or it stops -/
structure It where
  go : Nat → Hp → Prop
  yld : Nat → Hp → V → Hp → Prop
  stop : Nat → Hp → Prop
/-- the iterator's own objects may turn: they are not the frame's, not pinned, younger than the entry (or a comprehension's own) -/
def FpOk (X : Cx) (pins : List (Addr × Obj)) (H : Hp) (b : Addr) : Prop :=
  H b = none ∧ b ≠ X.env.locals ∧ b ∉ X.fs ∧ (b ∈ X.ex ∨ X.s_0.heap.objs.size ≤ b) ∧ (∀ x c, X.env.cells.lookup x = some c → c ≠ b) ∧ ∀ p ∈ X.pn ++ pins, p.1 ≠ b
theorem Inv.fpOk {X : Cx} {pins : List (Addr × Obj)} {σ : St} {H H' : Hp} {s : Shared} {b : Addr} (I : Inv X pins σ H s) (hb : s.heap.objs.size ≤ b) (hn : H' b = none) : FpOk X pins H' b := by
  refine ⟨hn, Nat.ne_of_gt (Nat.lt_of_lt_of_le I.lt hb), I.nofs hb, .inr (Nat.le_trans I.sz hb), fun x c e z => ?_, fun p hp z => ?_⟩
  · obtain ⟨v, q⟩ := I.cell x c e
    exact absurd (Nat.lt_of_lt_of_le q.lt (by rw [z]; exact hb)) (Nat.lt_irrefl _)
  · exact absurd (Nat.lt_of_lt_of_le (Heap.lt_size (I.pin p hp).1) (by rw [z]; exact hb)) (Nat.lt_irrefl _)
structure Turn (P : Program) (w : World) (K : PySem.W.Frag) (tg : Expr) (J : It) (fp : List Addr) (it : Addr) (tn : Nat → Heap → Prop) : Prop where
  mem : it ∈ fp
  obj : ∀ i h, tn i h → ∀ b ∈ fp, ∃ o, h.get? b = some o ∧ ∀ v, o.data ≠ .cell v
  keep : ∀ i h h', tn i h → (∀ b ∈ fp, ∀ o, h.get? b = some o → h'.get? b = some o) → tn i h'
  item : ∀ (X : Cx), X.prog = P → X.w = w → X.K = K → X.calm = true → ∀ (i : Nat) (pins : List (Addr × Obj)) (s : Shared) (σ : St) (H : Hp) (E : Value → Shared → Prop), Inv X pins σ H s → (∀ b ∈ fp, FpOk X pins H b) → tn i s.heap → J.go i H →
    wpAny (model P w) X.A (pyNext (.ref it)) (fun r s1 => ∃ u, r = some u ∧
      wpAny (model P w) X.A (letOwnedTupleGo tg (.ref it) u) (fun _ s2 => ∃ x H', Inv X pins σ H' s2 ∧ RelV x u ∧ J.yld i H x H' ∧ tn (i + 1) s2.heap ∧ ∀ b ∈ fp, H' b = none) E s1) E s
  done : ∀ (X : Cx), X.prog = P → X.w = w → X.K = K → X.calm = true → ∀ (i : Nat) (pins : List (Addr × Obj)) (s : Shared) (σ : St) (H : Hp) (E : Value → Shared → Prop), Inv X pins σ H s → (∀ b ∈ fp, FpOk X pins H b) → tn i s.heap → J.stop i H →
    wpAny (model P w) X.A (pyNext (.ref it)) (fun r s1 => r = none ∧ Inv X pins σ H s1) E s
  self : ∀ (A : Around) (i : Nat) (s : Shared) (Q : Value → Shared → Prop) (E : Value → Shared → Prop), tn i s.heap → Q (.ref it) s → wpAny (model P w) A (pyIter (.ref it)) Q E s
abbrev TI := St → Hp → (It → Hp → Prop) → Prop
/-- an iterator has come -/
def PIE (X : Cx) (pins : List (Addr × Obj)) (σ : St) (tg : Expr) (R : It → Hp → Prop) (itv : Value) (s2 : Shared) : Prop :=
  ∃ (it : Addr) (fp : List Addr) (tn : Nat → Heap → Prop) (J : It) (H' : Hp), itv = .ref it ∧ Inv X pins σ H' s2 ∧ Turn X.prog X.w X.K tg J fp it tn ∧ tn 0 s2.heap ∧ (∀ b ∈ fp, FpOk X pins H' b) ∧ R J H'
def PI (X : Cx) (tg iter : Expr) (wi : TI) : Prop :=
  ∀ (pins : List (Addr × Obj)) (s : Shared) (σ : St) (H : Hp) (R : It → Hp → Prop), Inv X pins σ H s → wi σ H R →
    wpAny (model X.prog X.w) X.A (eval iter X.env) (fun v s1 => wpAny (model X.prog X.w) X.A (pyIter v) (PIE X pins σ tg R) X.xe s1) X.xe s

/-- the step ahead of the store is nothing for an iterator that keeps no tuple -/
theorem go_of {M : Model} {A : Around} {E : Value → Shared → Prop} {s : Shared} {tg : Expr} {it : Addr} {u : Value} {o : Obj} {n : String} {vs : Array Value} {Q : Unit → Shared → Prop} (ho : s.heap.get? it = some o) (hc : o.cls = .type n) (hd : o.data = .fields vs)
    (hn : ["enumerate", "zip", "dict_itemiterator", "dict_reverseitemiterator", "odict_iterator", "itertools.zip_longest", "itertools.pairwise"].contains n = false) (hQ : Q () s) : wpAny M A (letOwnedTupleGo tg (.ref it) u) Q E s := by
  unfold letOwnedTupleGo
  cases tg <;> first
    | exact wpAny_pure hQ
    | (cases u <;> first
        | exact wpAny_pure hQ
        | (refine wpAny_bind (wpAny_load ho ?_)
           rw [hc, hd]
           show wpAny M A (if (["enumerate", "zip", "dict_itemiterator", "dict_reverseitemiterator", "odict_iterator", "itertools.zip_longest", "itertools.pairwise"].contains n && vs[0]? == some (rawInt _)) = true then _ else _) Q E s
           rw [if_neg (by intro h; rw [hn, Bool.false_and] at h; cases h)]
           exact wpAny_pure hQ))

/-- the list at a, as it stands at each turn (a loop may append to it) -/
def Itl (K : PySem.W.Frag) (a : Addr) : It :=
  ⟨fun i H => ∃ xs x, SqL K H a xs ∧ xs[i]? = some x, fun i H x H' => H' = H ∧ ∀ xs, SqL K H a xs → xs[i]? = some x, fun i H => ∃ xs, SqL K H a xs ∧ xs.length ≤ i⟩
/-- lo, lo + 1, .. (n of them) -/
def Itr (lo : Int) (n : Nat) : It := ⟨fun i _ => i < n, fun i H x H' => H' = H ∧ x = .int (lo + i), fun i _ => n ≤ i⟩
theorem turn_list {P : Program} {w : World} {K : PySem.W.Frag} {tg : Expr} (a it : Addr) : Turn P w K tg (Itl K a) [it] it (fun i h => h.IsListIter it a i) where
  mem := by simp
  obj := fun i h st b hb => by
    have e : b = it := by simpa using hb
    subst e
    obtain ⟨o, e, c, d⟩ := st
    exact ⟨o, e, fun v z => by rw [d] at z; cases z⟩
  keep := fun i h h' st k => st.at fun o e => k it (by simp) o e
  item := by
    intro X hP hw hK hc i pins s σ H E I hf st hg
    subst hP hw hK
    obtain ⟨xs, x, hq, hx⟩ := hg
    obtain ⟨its, rv, p, hz⟩ := I.list hq
    obtain ⟨u, hu, ru⟩ := rv.get hx
    obtain ⟨f0, f1, f2, f3, f4, f5⟩ := hf it (by simp)
    refine wpAny_pyNext_list_item st p.isList (x := u) (by simpa using hu) fun h' st' sb => ?_
    have I1 : Inv X pins σ H { s with heap := h' } := I.turned (t' := s.toks) (fun b o hb e => (sb.2 b hb).trans e) f0 f1 f3 f4 f5
    obtain ⟨o, e, c, d⟩ := id st'
    exact ⟨u, rfl, go_of (s := { s with heap := h' }) e c d (by decide) ⟨x, H, I1, ru, ⟨rfl, fun ys hy => by rw [I.list_inj hy hq]; exact hx⟩, st', fun b hb => (hf b hb).1⟩⟩
  done := by
    intro X hP hw hK hc i pins s σ H E I hf st hg
    subst hP hw hK
    obtain ⟨xs, hq, hx⟩ := hg
    obtain ⟨its, rv, p, hz⟩ := I.list hq
    obtain ⟨f0, f1, f2, f3, f4, f5⟩ := hf it (by simp)
    have hl := rv.length
    exact wpAny_pyNext_list_end (I.ok.hd hc) st p.isList (by simp; omega) fun h' eb => ⟨rfl, I.turned (t' := s.toks) (fun b o hb e => eb b o hb e) f0 f1 f3 f4 f5⟩
  self := fun _ _ _ _ _ st h => wpAny_pyIter_listiter st h
theorem turn_range {P : Program} {w : World} {K : PySem.W.Frag} {tg : Expr} (it : Addr) (lo : Int) (n : Nat) : Turn P w K tg (Itr lo n) [it] it (fun i h => IsRangeIter h it (lo + (i : Nat) * 1) ((n : Int) - (i : Nat)) 1) where
  mem := by simp
  obj := fun i h st b hb => by
    have e : b = it := by simpa using hb
    subst e
    exact ⟨_, st, fun v z => by
      have z' : Data.fields _ = Data.cell v := z
      cases z'⟩
  keep := fun i h h' st k => k it (by simp) _ st
  item := by
    intro X hP hw hK hc i pins s σ H E I hf st hg
    subst hP hw hK
    obtain ⟨f0, f1, f2, f3, f4, f5⟩ := hf it (by simp)
    have W := Walks.range (prog := X.prog) (w := X.w) (I.ok.hd hc) it lo 1 n
    refine W.item i s _ _ hg st fun v h' tk hv st' kk => ?_
    obtain ⟨t, rfl⟩ := hv
    have I1 : Inv X pins σ H { s with heap := h', toks := tk } := I.turned (fun b o hb e => kk b o (by simpa using hb) e) f0 f1 f3 f4 f5
    refine ⟨_, rfl, go_of (s := { s with heap := h', toks := tk }) (n := "range_iterator") st' rfl rfl (by decide) ⟨.int (lo + i), H, I1, ⟨t, ?_⟩, ⟨rfl, rfl⟩, st', fun b hb => (hf b hb).1⟩⟩
    rw [Int.mul_one]
  done := by
    intro X hP hw hK hc i pins s σ H E I hf st hg
    subst hP hw hK
    obtain ⟨f0, f1, f2, f3, f4, f5⟩ := hf it (by simp)
    exact wpAny_pyNext_range_end (I.ok.hd hc) st (by have : n ≤ i := hg; omega) fun h' eb => ⟨rfl, I.turned (t' := s.toks) (fun b o hb e => eb b o hb e) f0 f1 f3 f4 f5⟩
  self := fun _ _ _ _ _ st h => wpAny_pyIter_rangeiter st h
end L2

namespace L2
open PySem PySem.Spec PyProof.Rows
section
variable {X : Cx} {tg : Expr}
def iList (K : PySem.W.Frag) (tl : TE) : TI := fun σ H R => tl σ H fun x H1 => ∃ a, x = .ref a ∧ (∃ xs, SqL K H1 a xs) ∧ R (Itl K a) H1
theorem pi_list {l : Expr} {tl : TE} (hl : PE X l tl) : PI X tg l (iList X.K tl) := by
  intro pins s σ H R I h
  refine thn (hl pins s σ H _ I h) fun v s1 ⟨x, H1, I1, r1, q1⟩ => ?_
  obtain ⟨a, e, ⟨xs, hq⟩, q⟩ := q1
  subst e
  cases r1
  obtain ⟨its, rv, p, hz⟩ := I1.list hq
  refine wpAny_pyIter_list p.isList ?_
  refine ⟨s1.heap.objs.size, [s1.heap.objs.size], _, _, H1, rfl, I1.kept (t' := s1.toks) fun b o e => Heap.get?_push_of_some _ e, turn_list a _, ⟨_, Heap.get?_push_size _ rfl, rfl, rfl⟩, fun b hb => ?_, q⟩
  have e : b = s1.heap.objs.size := by simpa using hb
  subst e
  exact I1.fpOk (Nat.le_refl _) (I1.hok.fresh (Nat.le_refl _))
/-- a range object just made, walked -/
theorem range_it {pins : List (Addr × Obj)} {σ : St} {H : Hp} {s : Shared} {R : It → Hp → Prop} {E : Value → Shared → Prop} {lo hi : Int} {t u v : Tok} {tk : Nat} (I : Inv X pins σ H s) (h1 : -(2 ^ 62) ≤ lo) (h2 : lo < 2 ^ 62) (h3 : -(2 ^ 62) ≤ hi) (h4 : hi < 2 ^ 62)
    (q : R (Itr lo (hi - lo).toNat) H) : wpAny (model X.prog X.w) X.A (pyIter (.ref s.heap.objs.size)) (PIE X pins σ tg R) E { s with heap := s.heap.push { cls := .type "range", data := .fields #[.int lo t, .int hi u, .int 1 v] }, toks := tk } := by
  refine wpAny_pyIter_range (IsRange.new ..) (small_one h1 h2 h3 h4) ?_
  have I1 : Inv X pins σ H { s with heap := s.heap.push { cls := .type "range", data := .fields #[.int lo t, .int hi u, .int 1 v] }, toks := tk } := I.kept fun b o e => Heap.get?_push_of_some _ e
  refine ⟨(s.heap.push { cls := .type "range", data := .fields #[.int lo t, .int hi u, .int 1 v] }).objs.size, [(s.heap.push { cls := .type "range", data := .fields #[.int lo t, .int hi u, .int 1 v] }).objs.size], _, _, H, rfl,
    I1.kept (t' := tk) fun b o e => Heap.get?_push_of_some _ e, turn_range _ lo (hi - lo).toNat, ?_, fun b hb => ?_, q⟩
  · have e1 : lo + ((0 : Nat) : Int) * 1 = lo := by simp
    have e2 : (((hi - lo).toNat : Nat) : Int) - ((0 : Nat) : Int) = Builtin.Range.rangeSize lo hi 1 := by rw [rangeSize_one]; split <;> omega
    show IsRangeIter _ _ (lo + ((0 : Nat) : Int) * 1) ((((hi - lo).toNat : Nat) : Int) - ((0 : Nat) : Int)) 1
    rw [e1, e2]
    exact Heap.get?_push_size _ rfl
  · have e : b = (s.heap.push { cls := .type "range", data := .fields #[.int lo t, .int hi u, .int 1 v] }).objs.size := by simpa using hb
    subst e
    exact I1.fpOk (Nat.le_refl _) (I1.hok.fresh (Nat.le_refl _))
def iRng1 (ta : TA) : TI := fun σ H R => ta σ H fun vs H1 => ∃ j : Int, vs = [.int j] ∧ -(2 ^ 62) ≤ j ∧ j < 2 ^ 62 ∧ R (Itr 0 j.toNat) H1
theorem pi_range1 {a : Expr} {ta : TA} {p pos : Pos} (hg : Gl X "range") (hm : X.mg "range" = none) (ha : PA X [a] ta) (hs : starEach [a] X.env = [(false, eval a X.env)] := by rfl) : PI X tg (.Call (.Name "range" p) [a] [] pos) (iRng1 ta) := by
  intro pins s σ H R I h
  refine Call_ (ld_blt I hg hm boot_range (PyProof.Rows.callWith_type1 (thn (ha pos pins s σ H _ I h) fun us s1 ⟨vs, H1, I1, r1, q1⟩ => ?_) hs rfl))
  obtain ⟨j, e, q1, q2, q⟩ := q1
  subst e
  cases r1 with
  | cons r rr =>
    cases rr
    obtain ⟨t, rfl⟩ := r
    exact call_range_1 (range_it I1 (by omega) (by omega) q1 q2 (by simpa using q))

/-! ### for -/
/-- W: the invariant by the turn and a measure; N: what the body is to reach -/
def tFor (wi : TI) (g : TG) (tb : TS) : TS := fun D σ H => wi σ H fun J H1 => ∃ W : Nat → Nat → St → Hp → Prop, (∃ m, W 0 m σ H1) ∧ ∀ i m σ H, W i m σ H →
  (J.stop i H ∧ D.nx σ H) ∨ (J.go i H ∧ ∃ N : St → Hp → Prop, (∀ σ' H', N σ' H' → ∃ m', m' < m ∧ W (i + 1) m' σ' H') ∧ ∀ x H', J.yld i H x H' → g x σ H' fun σ2 H2 => tb { D with nx := N, ct := N, bk := D.nx } σ2 H2)
/-- the records at fp as they stand -/
def pinsAt (fp : List Addr) (h : Heap) : List (Addr × Obj) := fp.filterMap fun b => (h.get? b).map fun o => (b, o)
theorem mem_pinsAt {fp : List Addr} {h : Heap} {b : Addr} {o : Obj} (hb : b ∈ fp) (e : h.get? b = some o) : (b, o) ∈ pinsAt fp h := List.mem_filterMap.mpr ⟨b, hb, by rw [e]; rfl⟩
theorem of_pinsAt {fp : List Addr} {h : Heap} {p : Addr × Obj} (hp : p ∈ pinsAt fp h) : p.1 ∈ fp ∧ h.get? p.1 = some p.2 := by
  obtain ⟨b, hb, e⟩ := List.mem_filterMap.mp hp
  cases q : h.get? b with
  | none => rw [q] at e; cases e
  | some o =>
    rw [q] at e
    have e' : (b, o) = p := Option.some.inj e
    subst e'
    exact ⟨hb, q⟩
theorem Inv.pinned {pins : List (Addr × Obj)} {σ : St} {H : Hp} {s : Shared} {fp : List Addr} (I : Inv X pins σ H s) (hf : ∀ b ∈ fp, FpOk X pins H b) (ho : ∀ b ∈ fp, ∃ o, s.heap.get? b = some o ∧ ∀ v, o.data ≠ .cell v) : Inv X (pins ++ pinsAt fp s.heap) σ H s :=
  I.pins_of fun p hp => (List.mem_append.mp hp).elim (fun z => I.pin p (List.mem_append_right _ z)) fun z => by
    obtain ⟨hb, e⟩ := of_pinsAt z
    obtain ⟨f0, f1, f2, _⟩ := hf p.1 hb
    obtain ⟨o, e', d⟩ := ho p.1 hb
    rw [e] at e'; cases e'
    exact ⟨e, f0, f1, f2, d⟩
theorem Inv.unpinned {pins pl : List (Addr × Obj)} {σ : St} {H : Hp} {s : Shared} (I : Inv X (pins ++ pl) σ H s) : Inv X pins σ H s := I.pins_of fun p hp => I.pin p (List.mem_append_right _ (List.mem_append_left _ hp))
theorem ps_for {iter : Expr} {body : List Stmt} {wi : TI} {g : TG} {tb : TS} {pos : Pos} (hp : PassesOwn (model X.prog X.w) X.A X.env X.xe) (hc : X.calm = true) (hi : PI X tg iter wi) (hg : PG X tg g) (hb : PSs X body tb)
    (hs : ∀ x, foldedSetIterable iter X.env x = pure x := by intro _; rfl) : PS X (.For tg iter body [] pos) (tFor wi g tb) := by
  intro pins s σ H D I h
  refine wpAny_For (thn (hi pins s σ H _ I h) fun v s1 h1 => thn h1 fun itv s2 h2 => ?_) hs
  obtain ⟨it, fp, tn, J, H2, e, I2, T, st2, f2, W, ⟨m0, w0⟩, turn⟩ := h2
  subst e
  -- what stays true of the iterator's objects through the loop
  have stat : ∀ {H' : Hp}, (∀ b ∈ fp, H' b = none) → ∀ b ∈ fp, FpOk X pins H' b := fun hn b hb => ⟨hn b hb, (f2 b hb).2⟩
  refine codeAny_forLoop_any (fun n s' => ∃ i σ' H', Inv X pins σ' H' s' ∧ tn i s'.heap ∧ (∀ b ∈ fp, H' b = none) ∧ W i n σ' H') ?_ m0 ⟨0, σ, H2, I2, st2, fun b hb => (f2 b hb).1, w0⟩
  rintro n s3 ⟨i, σ3, H3, I3, st3, fr3, w3⟩
  rcases turn i n σ3 H3 w3 with ⟨stop, qn⟩ | ⟨go, N, hN, step⟩
  · refine wpAny_passesOwn hp (thn (T.done X rfl rfl rfl hc i pins s3 σ3 H3 X.xe I3 (stat fr3) st3 stop) fun r s4 ⟨hr, I4⟩ => ?_)
    subst hr
    exact wpAny_execs_nil ⟨σ3, H3, I4, qn⟩
  · refine wpAny_passesOwn hp (thn (T.item X rfl rfl rfl hc i pins s3 σ3 H3 X.xe I3 (stat fr3) st3 go) fun r s4 ⟨u, hr, h4⟩ => ?_)
    subst hr
    refine wpAny_passesOwn hp (thn h4 fun _ s5 ⟨x, H5, I5, r5, y5, st5, fr5⟩ => ?_)
    have I5' := I5.pinned (stat fr5) (T.obj _ _ st5)
    refine wpAny_passesOwn hp (thn (hg _ s5 σ3 H5 x u _ I5' r5 (step x H5 y5)) fun _ s6 ⟨σ6, H6, I6, q6⟩ => ?_)
    refine wpAny_passesOwn hp (thn (hb _ s6 σ6 H6 _ I6 q6) fun f s7 q7 => ?_)
    have again : ∀ {σ7 : St} {H7 : Hp}, Inv X (pins ++ pinsAt fp s5.heap) σ7 H7 s7 → N σ7 H7 → ∃ m, m < n ∧ ∃ i σ' H', Inv X pins σ' H' s7 ∧ tn i s7.heap ∧ (∀ b ∈ fp, H' b = none) ∧ W i m σ' H' := fun {σ7 H7} I7 n7 => by
      obtain ⟨m', hm, w7⟩ := hN σ7 H7 n7
      refine ⟨m', hm, i + 1, σ7, H7, I7.unpinned, T.keep _ _ _ st5 fun b hb o e => (I7.pin (b, o) (List.mem_append_right _ (List.mem_append_right _ (mem_pinsAt hb e)))).1, fun b hb => ?_, w7⟩
      obtain ⟨o, e, d⟩ := T.obj _ _ st5 b hb
      exact (I7.pin (b, o) (List.mem_append_right _ (List.mem_append_right _ (mem_pinsAt hb e)))).2.1
    cases f with
    | next => obtain ⟨σ7, H7, I7, n7⟩ := q7; exact again I7 n7
    | cont => obtain ⟨σ7, H7, I7, n7⟩ := q7; exact again I7 n7
    | brk => obtain ⟨σ7, H7, I7, q7⟩ := q7; exact ⟨σ7, H7, I7.unpinned, q7⟩
    | ret v => obtain ⟨x7, σ7, H7, I7, r7, q7⟩ := q7; exact ⟨x7, σ7, H7, I7.unpinned, r7, q7⟩
end

/-! ### the forms one uses -/
/-- over a list that the body leaves as it is -/
theorem for_list {K : PySem.W.Frag} {a : Addr} {xs : List V} {g : TG} {tb : TS} {D : Ends} {σ : St} {H : Hp} (Pv : Nat → St → Hp → Prop) (h0 : Pv 0 σ H) (hl : ∀ i σ H, i ≤ xs.length → Pv i σ H → SqL K H a xs)
    (hs : ∀ i x σ H, xs[i]? = some x → Pv i σ H → g x σ H fun σ2 H2 => tb { D with nx := Pv (i + 1), ct := Pv (i + 1), bk := D.nx } σ2 H2) (hd : ∀ σ H, Pv xs.length σ H → D.nx σ H) :
    ∃ W : Nat → Nat → St → Hp → Prop, (∃ m, W 0 m σ H) ∧ ∀ i m σ H, W i m σ H →
      ((Itl K a).stop i H ∧ D.nx σ H) ∨ ((Itl K a).go i H ∧ ∃ N : St → Hp → Prop, (∀ σ' H', N σ' H' → ∃ m', m' < m ∧ W (i + 1) m' σ' H') ∧ ∀ x H', (Itl K a).yld i H x H' → g x σ H' fun σ2 H2 => tb { D with nx := N, ct := N, bk := D.nx } σ2 H2) := by
  refine ⟨fun i m σ H => m = xs.length - i ∧ i ≤ xs.length ∧ Pv i σ H, ⟨xs.length, by simp, Nat.zero_le _, h0⟩, ?_⟩
  rintro i m σ H ⟨rfl, hi, p⟩
  have q := hl i σ H hi p
  by_cases hlt : i < xs.length
  · refine .inr ⟨⟨xs, xs[i], q, by simp [hlt]⟩, Pv (i + 1), fun σ' H' p' => ⟨xs.length - (i + 1), by omega, rfl, hlt, p'⟩, fun x H' y => ?_⟩
    obtain ⟨e, y⟩ := y
    subst e
    exact hs i x σ _ (y xs q) p
  · have e : i = xs.length := by omega
    subst e
    exact .inl ⟨⟨xs, q, Nat.le_refl _⟩, hd σ H p⟩
end L2

namespace L2
open PySem PySem.Spec PyProof.Rows

abbrev R2 := V → V → Hp → VK → Prop
/-- a two-place operation on values: f is binaryOp op, inplaceOp op or compareOp op -/
def OpR (X : Cx) (f : Value → Value → Sem Value) (r : R2) : Prop :=
  ∀ (pins : List (Addr × Obj)) (s : Shared) (σ : St) (H : Hp) (x y : V) (v u : Value) (Q : VK), Inv X pins σ H s → RelV x v → RelV y u → r x y H Q →
    wpAny (model X.prog X.w) X.A (f v u) (EP X pins σ Q) X.xe s
/-- a one-place operation -/
def UnR (X : Cx) (f : Value → Sem Value) (r : V → Hp → VK → Prop) : Prop :=
  ∀ (pins : List (Addr × Obj)) (s : Shared) (σ : St) (H : Hp) (x : V) (v : Value) (Q : VK), Inv X pins σ H s → RelV x v → r x H Q →
    wpAny (model X.prog X.w) X.A (f v) (EP X pins σ Q) X.xe s
/-- a call of a value that is known (a builtin, a type) with values -/
def CallR (X : Cx) (f : Value) (r : List V → Hp → VK → Prop) : Prop :=
  ∀ (pins : List (Addr × Obj)) (s : Shared) (σ : St) (H : Hp) (xs : List V) (us : List Value) (Q : VK), Inv X pins σ H s → Vals xs us → r xs H Q →
    wpAny (model X.prog X.w) X.A (call f us) (EP X pins σ Q) X.xe s

def tOp (r : R2) (ta tb : TE) : TE := fun σ H Q => ta σ H fun x H1 => tb σ H1 fun y H2 => r x y H2 Q
def tUn (r : V → Hp → VK → Prop) (ta : TE) : TE := fun σ H Q => ta σ H fun x H1 => r x H1 Q
/-- ints in, under C, and a value out -/
def rI (C : Int → Int → Prop) (g : Int → Int → V) : R2 := fun x y H Q => ∃ i j, x = .int i ∧ y = .int j ∧ C i j ∧ Q (g i j) H
def rI0 (g : Int → Int → V) : R2 := fun x y H Q => ∃ i j, x = .int i ∧ y = .int j ∧ Q (g i j) H
def rU (g : Int → V) : V → Hp → VK → Prop := fun x H Q => ∃ i, x = .int i ∧ Q (g i) H

section
variable {X : Cx} {a b c : Expr} {ta tb tc : TE} {pos : Pos}

theorem binT (ha : PE X a ta) (hb : PE X b tb) {pins : List (Addr × Obj)} {s : Shared} {σ : St} {H : Hp} {R : V → V → Hp → Prop} (I : Inv X pins σ H s)
    (h : ta σ H fun x H1 => tb σ H1 fun y H2 => R x y H2) {Q : Value → Shared → Prop} {f : Value → Value → Sem Value}
    (hf : ∀ v u s2 x y H2, Inv X pins σ H2 s2 → RelV x v → RelV y u → R x y H2 → wpAny (model X.prog X.w) X.A (f v u) Q X.xe s2) :
    wpAny (model X.prog X.w) X.A (eval a X.env) (fun v s₁ => wpAny (model X.prog X.w) X.A (eval b X.env) (fun u s₂ => wpAny (model X.prog X.w) X.A (f v u) Q X.xe s₂) X.xe s₁) X.xe s := by
  refine thn (ha pins s σ H _ I h) fun v s1 ⟨x, H1, I1, r1, q1⟩ => ?_
  refine thn (hb pins s1 σ H1 _ I1 q1) fun u s2 ⟨y, H2, I2, r2, q2⟩ => ?_
  exact hf v u s2 x y H2 I2 r1 r2 q2

theorem pe_op {op : Operator} {r : R2} (ho : OpR X (binaryOp op) r) (ha : PE X a ta) (hb : PE X b tb) : PE X (.BinOp a op b pos) (tOp r ta tb) := by
  intro pins s σ H Q I h
  exact wpAny_BinOp (binT ha hb I h fun v u s2 x y H2 I2 rx ry q => ho pins s2 σ H2 x y v u Q I2 rx ry q)
theorem pe_un {op : UnaryOp} {r : V → Hp → VK → Prop} (ho : UnR X (unaryOp op) r) (ha : PE X a ta) : PE X (.UnaryOp op a pos) (tUn r ta) := by
  intro pins s σ H Q I h
  exact UnaryOp_ (thn (ha pins s σ H _ I h) fun v s1 ⟨x, H1, I1, r1, q1⟩ => ho pins s1 σ H1 x v Q I1 r1 q1)

/-! ### ints -/
theorem opI {f : Value → Value → Sem Value} {C : Int → Int → Prop} {g : Int → Int → Int}
    (rule : ∀ (i j : Int) (t u : Tok) (s : Shared) (Q : Value → Shared → Prop) (E : Value → Shared → Prop), C i j → Q (.int (g i j) s.toks) { s with toks := s.toks + 1 } → wpAny (model X.prog X.w) X.A (f (.int i t) (.int j u)) Q E s) :
    OpR X f (rI C fun i j => .int (g i j)) := by
  intro pins s σ H x y v u Q I rx ry h
  obtain ⟨i, j, rfl, rfl, hc, q⟩ := h
  obtain ⟨t, rfl⟩ := rx
  obtain ⟨t', rfl⟩ := ry
  exact rule i j t t' s _ _ hc ⟨.int (g i j), H, I.tok _, ⟨_, rfl⟩, q⟩
theorem opI0 {f : Value → Value → Sem Value} {g : Int → Int → Int}
    (rule : ∀ (i j : Int) (t u : Tok) (s : Shared) (Q : Value → Shared → Prop) (E : Value → Shared → Prop), Q (.int (g i j) s.toks) { s with toks := s.toks + 1 } → wpAny (model X.prog X.w) X.A (f (.int i t) (.int j u)) Q E s) :
    OpR X f (rI0 fun i j => .int (g i j)) := by
  intro pins s σ H x y v u Q I rx ry h
  obtain ⟨i, j, rfl, rfl, q⟩ := h
  obtain ⟨t, rfl⟩ := rx
  obtain ⟨t', rfl⟩ := ry
  exact rule i j t t' s _ _ ⟨.int (g i j), H, I.tok _, ⟨_, rfl⟩, q⟩

def CMul (i j : Int) : Prop := (-(2 ^ 64) < i ∧ i < 2 ^ 64) ∨ (-(2 ^ 64) < j ∧ j < 2 ^ 64)
theorem CMul.ok {i j : Int} (h : CMul i j) : IntMulOk i j := by
  rcases h with ⟨h1, h2⟩ | ⟨h1, h2⟩
  · exact .of_left (intBits_le_64 h1 h2)
  · exact .of_right (intBits_le_64 h1 h2)

theorem op_add : OpR X (binaryOp .Add) (rI0 fun i j => .int (i + j)) := opI0 fun _ _ _ _ _ _ _ q => add_int q
theorem op_sub : OpR X (binaryOp .Sub) (rI0 fun i j => .int (i - j)) := opI0 fun _ _ _ _ _ _ _ q => sub_int q
theorem op_mul : OpR X (binaryOp .Mult) (rI CMul fun i j => .int (i * j)) := opI fun _ _ _ _ _ _ _ hc q => mul_int q hc.ok
/-- % by a positive divisor of any size -/
theorem op_mod : OpR X (binaryOp .Mod) (rI (fun _ j => 0 < j) fun i j => .int (i % j)) := opI fun i j _ _ _ _ _ hc q => by
  have h1 : (0 : Int) < j := hc
  exact mod_int' (by omega) (by rw [Int.fmod_eq_emod_of_nonneg i (by omega)]; exact q)


theorem unI {f : Value → Sem Value} {g : Int → Int}
    (rule : ∀ (i : Int) (t : Tok) (s : Shared) (Q : Value → Shared → Prop) (E : Value → Shared → Prop), Q (.int (g i) s.toks) { s with toks := s.toks + 1 } → wpAny (model X.prog X.w) X.A (f (.int i t)) Q E s) :
    UnR X f (rU fun i => .int (g i)) := by
  intro pins s σ H x v Q I rx h
  obtain ⟨i, rfl, q⟩ := h
  obtain ⟨t, rfl⟩ := rx
  exact rule i t s _ _ ⟨.int (g i), H, I.tok _, ⟨_, rfl⟩, q⟩
theorem un_neg : UnR X (unaryOp .USub) (rU fun i => .int (-i)) := unI fun _ _ _ _ _ q => neg_int q

/-! ### bools among ints: n += (a < b) -/
end

/-! ### comparisons -/


section
variable {X : Cx} {a b c : Expr} {ta tb tc : TE} {pos : Pos}






/-! ### truth -/
theorem line63 : (sizeLine : Nat) < 2 ^ 63 := by rw [sizeLine_eq]; decide

/-! ### strs and bytes -/


/-! ### scalar builtins, by CallR -/
theorem vals1 {x : V} {us : List Value} (r : Vals [x] us) : ∃ u, us = [u] ∧ RelV x u := by
  cases r with
  | cons r1 r2 => cases r2; exact ⟨_, rfl, r1⟩
theorem vals2 {x y : V} {us : List Value} (r : Vals [x, y] us) : ∃ u w', us = [u, w'] ∧ RelV x u ∧ RelV y w' := by
  cases r with
  | cons r1 r2 =>
    cases r2 with
    | cons r3 r4 => cases r4; exact ⟨_, _, rfl, r1, r3⟩
theorem call_min2 (hc : X.calm = true) : CallR X (.builtin "min") (fun xs H Q => ∃ i j, xs = [.int i, .int j] ∧ Q (.int (if j < i then j else i)) H) := by
  intro pins s σ H xs us Q I r h
  obtain ⟨i, j, rfl, q⟩ := h
  obtain ⟨u, w', rfl, ⟨t, rfl⟩, ⟨t', rfl⟩⟩ := vals2 r
  refine min_two_ints (I.ok.hd hc) fun h' tk k => ⟨_, H, I.kept k, ?_, q⟩
  by_cases hj : j < i
  · rw [if_pos hj, if_pos hj]; exact ⟨_, rfl⟩
  · rw [if_neg hj, if_neg hj]; exact ⟨_, rfl⟩
end
end L2

namespace L2
open PySem PySem.Spec PyProof.Rows

/-! ### an instance, its attributes a map -/



section
variable {prog : Program} {w : World} {A : Around} {E : Value → Shared → Prop} {s : Shared} {K : PySem.W.Frag} {x dx C f : Addr} {mA : Str → Option Value} {name : Str} {v : Value}





end

/-! ### the attributes as a list of pairs -/


section
variable {P : Program} {w : World} {H H' : Hp} {h h' : Heap} {a C dx : Addr} {fs fs' : List (Str × V)}
end

/-! ### what of the text a class must have -/

section
variable {X : Cx} {pins : List (Addr × Obj)} {σ : St} {H : Hp} {s : Shared} {a C dx : Addr} {fs : List (Str × V)} {f : Str} {v : V} {A : Around} {E : Value → Shared → Prop}






end

/-! ### readings and rules -/

section
variable {X : Cx} {o e value : Expr} {f : Str} {pos pos' tpos : Pos} {ta tv : TE}

end

/-! ### isinstance -/
section
variable {X : Cx} {pins : List (Addr × Obj)} {σ : St} {H : Hp} {s : Shared} {A : Around} {E : Value → Shared → Prop} {Q : Value → Shared → Prop} {c : Value} {b : Bool}
end
end L2

namespace L2
open PySem PySem.Spec PyProof.Rows

/-! ### room -/
structure Room (k : Nat) (A : Around) : Prop where
  hd : A.handled = none
  dp : A.depth + 3 * k + 5 < recursionLimit
  un : A.units + 16 * k + 200 < cLine
theorem Room.mono {j k : Nat} {A : Around} (r : Room k A) (h : j ≤ k) : Room j A := ⟨r.hd, by have := r.dp; omega, by have := r.un; omega⟩
theorem Room.deeper {k : Nat} {A : Around} (r : Room (k + 1) A) (env : Env) : Room k (A.deeper env) :=
  ⟨r.hd, by have := r.dp; show A.depth + 1 + 3 * k + 5 < _; omega, by have := r.un; show A.units + 3 + 16 * k + 200 < _; omega⟩
theorem Room.depth {k : Nat} {A : Around} (r : Room k A) : A.depth < recursionLimit := by have := r.dp; omega

/-! ### argument lists and displays -/
def tNil : TA := fun _ H Q => Q [] H
def tCons (ta : TE) (tr : TA) : TA := fun σ H Q => ta σ H fun x H1 => tr σ H1 fun xs H2 => Q (x :: xs) H2
section
variable {X : Cx} {e : Expr} {es : List Expr} {te : TE} {t : TA} {pos : Pos}
theorem pa_nil : PA X [] tNil := fun _ _ _ _ H Q I h => Calls.spliced_nil ⟨[], H, I, .nil, h⟩
theorem pa_cons (ha : PE X e te) (hr : PA X es t) (hs : starEach (e :: es) X.env = (false, eval e X.env) :: starEach es X.env := by rfl) : PA X (e :: es) (tCons te t) := by
  intro pos pins s σ H Q I h
  rw [hs]
  show wpAny _ _ (spliced ((false, eval e X.env) :: backTo pos (starEach es X.env))) _ _ s
  refine Calls.spliced_cons (thn (ha pins s σ H _ I h) fun u s1 ⟨x, H1, I1, r1, q1⟩ => ?_)
  exact thn (hr pos pins s1 σ H1 _ I1 q1) fun us s2 ⟨xs, H2, I2, r2, q2⟩ => ⟨x :: xs, H2, I2, .cons r1 r2, q2⟩

def tLst (t : TA) : TE := fun σ H Q => t σ H fun xs H1 => xs.length ≤ sizeLine ∧ ∀ p, H1 p = none → Q (.ref p) (upd H1 p (.lst xs))
theorem pe_lst (h : PA X es t) : PE X (.List es pos) (tLst t) := by
  intro pins s σ H Q I hq
  refine wpAny_List_spliced (thn (h pos pins s σ H _ I hq) fun us s1 ⟨xs, H1, I1, r, z, q⟩ => ⟨by rw [← r.length]; exact z, ?_⟩)
  have hf : H1 s1.heap.objs.size = none := I1.hok.fresh (Nat.le_refl _)
  refine ⟨.ref s1.heap.objs.size, upd H1 s1.heap.objs.size (.lst xs), I1.laid (t' := s1.toks) (fun b u e => Heap.get?_push_of_some _ e) (Nat.le_refl _) ?_, rfl, q _ hf⟩
  exact ⟨z, us, 0, r, Heap.get?_push_size _ rfl⟩
end

/-! ### what a def promises -/
/-- a def's promise: the bound arguments in the parameters' order, the heap, the wanted end, the wanted exception -/
abbrev Sp := List V → Hp → VK → XK → Prop
/-- how an exception lies behind a call (file 08 gives it): the callers' frames, abstract heap and state ahead of the call, the wish, the exception, the state -/
abbrev CXT := List Env → Hp → Shared → XK → Value → Shared → Prop

/-- the state at a call -/
structure Env0 (P : Program) (w : World) (K : PySem.W.Frag) (mg : Str → Option Value) (base : Heap) (A : Around) (outer : List Env) (s : Shared) (H : Hp) : Prop where
  frames : A.frames = some outer
  mod : Mod K mg base
  bs : ∀ b o, base.get? b = some o → s.heap.get? b = some o ∧ H b = none
  bsz : base.objs.size ≤ s.heap.objs.size
  funs : s.heap.FunFrames base outer
  frf : ∀ b ∈ frs outer, H b = none
  hok : HOk P w H s.heap
  bare : AllBare s.gens
/-- a call's end -/
def CE (outer : List Env) (P : Program) (w : World) (H : Hp) (s : Shared) (Q : VK) (u : Value) (s' : Shared) : Prop :=
  ∃ v H', s'.os = s.os ∧ AllBare s'.gens ∧ Un (frs outer) [] H H' s.heap s'.heap ∧ HOk P w H' s'.heap ∧ RelV v u ∧ Q v H'
def CR (CX : CXT) (outer : List Env) (P : Program) (w : World) (H : Hp) (s : Shared) (Q : VK) (E : XK) (r : Result) (s' : Shared) : Prop :=
  match r with
  | .ok (.ret u) => CE outer P w H s Q u s'
  | .ok _ => False
  | .error e => CX outer H s E e s'
structure FnOk (P : Program) (w : World) (K : PySem.W.Frag) (mg : Str → Option Value) (base : Heap) (CX : CXT) (k : Nat) (f : Addr) (fd : FuncData) (ps : List Str) (sp : Sp) : Prop where
  len : ∀ vs H Q E, sp vs H Q E → vs.length = ps.length
  run : ∀ (A : Around) (outer : List Env) (s : Shared) (H : Hp) (args : Args) (us : List Value) (vs : List V) (Q : VK) (E : XK), Room k A → Env0 P w K mg base A outer s H → BindsTo s fd args (ps.zip us) → Vals vs us → sp vs H Q E →
    codeAny (model P w) A (.call (.ref f) args) (CR CX outer P w H s Q E) s


section
variable {X : Cx} {pins : List (Addr × Obj)} {σ : St} {H : Hp} {s s' : Shared}
/-- from a body: what a callee wants -/
theorem Inv.env0 (I : Inv X pins σ H s) : Env0 X.prog X.w X.K X.mg X.base X.A X.stack s H :=
  ⟨I.ok.frames, I.ok.mod, I.bs, Nat.le_trans I.ok.bsz I.sz, I.stack, I.stkFree, I.hok, I.bare⟩
/-- behind a call -/
theorem Inv.after {Q : VK} {u : Value} (I : Inv X pins σ H s) (h : CE X.stack X.prog X.w H s Q u s') : EP X pins σ Q u s' := by
  obtain ⟨v, H', os, bare, un, hok, r, q⟩ := h
  obtain ⟨hh, g, d, t, os'⟩ := s'
  obtain rfl : os' = s.os := os
  exact ⟨v, H', I.call (h' := hh) (g' := g) (d' := d) (t' := t) (ch := []) un hok bare (fun b z => absurd z (by simp)), r, q⟩
end

/-! ### calls -/
/-- f(..): the written arguments, then the defaults dvs; E: what is wanted of an exception -/
def tCall (sp : Sp) (dvs : List V) (E : XK) (t : TA) : TE := fun σ H Q => t σ H fun vs H1 => sp (vs ++ dvs) H1 Q E

/-- how the parameters are bound: us the positional arguments, kw the keywords' values by name, ds the defaults that fill up -/
def Binds (K : PySem.W.Frag) (fd : FuncData) (ps : List Str) (ds : List Value) : Prop :=
  ∀ (s : Shared) (us : List Value), K.In s.heap → (us ++ ds).length = ps.length → BindsTo s fd ⟨us, []⟩ (ps.zip (us ++ ds))
/-- every parameter is given -/
theorem Binds.all {K : PySem.W.Frag} {fd : FuncData} {ps : List Str} (h : ∀ us : List Value, us.length = ps.length → bindArgs fd ⟨us, []⟩ = pure (ps.zip us)) : Binds K fd ps [] := fun s us _ hl => by
  rw [List.append_nil] at hl ⊢
  exact .of_eq (h us hl)

/-- an exception of a callee reaches what this body wants of exceptions -/
def Passes (CX : CXT) (X : Cx) (E : XK) : Prop := ∀ (pins : List (Addr × Obj)) (σ : St) (H : Hp) (s : Shared) (e : Value) (s' : Shared), Inv X pins σ H s → CX X.stack H s E e s' → X.xe e s'

section
variable {X : Cx} {CX : CXT} {k : Nat} {f C : Addr} {fd : FuncData} {ps : List Str} {sp : Sp} {dvs : List V} {ds : List Value} {E : XK} {x m : Str} {p pos apos : Pos} {e o : Expr} {es : List Expr} {ta : TE} {t : TA}

/-- the callee runs -/
theorem run_fn {pins : List (Addr × Obj)} {σ : St} {H : Hp} {s : Shared} {Q : VK} {us : List Value} {vs : List V} (F : FnOk X.prog X.w X.K X.mg X.base CX k f fd ps sp) (hr : Room k X.A) (hb : Binds X.K fd ps ds) (hd : Vals dvs ds) (hx : Passes CX X E)
    (I : Inv X pins σ H s) (r : Vals vs us) (h : sp (vs ++ dvs) H Q E) : wpAny (model X.prog X.w) X.A (call (.ref f) us) (EP X pins σ Q) X.xe s := by
  have r2 : Vals (vs ++ dvs) (us ++ ds) := r.append hd
  have hl : (us ++ ds).length = ps.length := by rw [← r2.length]; exact F.len _ _ _ _ h
  refine wpAny_call (codeAny_mono (F.run X.A X.stack s H ⟨us, []⟩ (us ++ ds) (vs ++ dvs) Q E hr I.env0 (hb s us I.kIn hl) r2 h) fun r s' hq => ?_)
  cases r with
  | error e => exact hx pins σ H s e s' I hq
  | ok fl =>
    cases fl with
    | ret u => exact I.after hq
    | next => exact False.elim hq
    | brk => exact False.elim hq
    | cont => exact False.elim hq

theorem pe_call (F : FnOk X.prog X.w X.K X.mg X.base CX k f fd ps sp) (hr : Room k X.A) (hg : Gl X x) (hm : X.mg x = some (.ref f)) (hk : PySem.W.keepIn X.K (.ref f) = true) (hb : Binds X.K fd ps ds) (hd : Vals dvs ds) (hx : Passes CX X E)
    (ha : PA X (e :: es) t) (hdb : (x == ("__debug__" : Str)) = false := by decide) (he : starEach (e :: es) X.env = (false, eval e X.env) :: starEach es X.env := by rfl) (hpl : (backTo pos (starEach es X.env)).any (·.1) = false := by rfl) :
    PE X (.Call (.Name x p) (e :: es) [] pos) (tCall sp dvs E t) := by
  intro pins s σ H Q I h
  refine wpAny_Call_Name_kw (ld_glob I hg hm ?_ hdb)
  refine PySem.W.callWith_K (h₀ := X.base) I.ok.mod.kin hk (thn (ha pos pins s σ H _ I h) fun us s1 ⟨vs, H1, I1, r, q⟩ => ⟨I1.kIn, ?_⟩) he hpl
  exact run_fn F hr hb hd hx I1 r q



end

/-! ### keywords -/
section
variable {X : Cx} {CX : CXT} {k : Nat} {f C : Addr} {fd : FuncData} {ps ks : List Str} {sp : Sp} {E : XK} {x m : Str} {p pos apos kpos : Pos} {e o : Expr} {es : List Expr} {kws : List Keyword} {te ta : TE} {t tk : TA} {nm : Option Str}

variable {g : List Value → List Value → List Value} {gV : List V → List V → List V}
end

/-! ### a def's body keeps its promise -/
/-- names: the parameters first -/
structure FnScope (N P : List Str) (sc : Scope) : Prop where
  kind : sc.kind = .function
  co : sc.isCoroutine = false
  gen : sc.isGenerator = false
  nd : N.Nodup
  pre : N.take P.length = P
  par : ∀ x ∈ P, sc.names.lookup x = some .local ∨ sc.names.lookup x = some .cell
  nofree : ∀ y ∈ sc.names, y.2 ≠ .free

theorem bindL_out {kindOf : Str → Option NameKind} {x : Str} : ∀ {binds : List (Str × Value)} {m : Str → Option Value}, (∀ v, (x, v) ∉ binds) → bindL kindOf binds m x = m x
  | [], _, _ => rfl
  | (n, v) :: r, m, h => by
    unfold bindL
    rw [bindL_out fun w hw => h w (List.mem_cons_of_mem _ hw)]
    split
    · have : x ≠ n := by rintro rfl; exact h v List.mem_cons_self
      simp [this]
    · rfl
theorem bindC_out {kindOf : Str → Option NameKind} {x : Str} : ∀ {binds : List (Str × Value)} {m : Str → Option Value}, (∀ v, (x, v) ∉ binds) → bindC kindOf binds m x = m x
  | [], _, _ => rfl
  | (n, v) :: r, m, h => by
    unfold bindC
    rw [bindC_out fun w hw => h w (List.mem_cons_of_mem _ hw)]
    split
    · rfl
    · have : x ≠ n := by rintro rfl; exact h v List.mem_cons_self
      simp [this]
theorem bindL_get {kindOf : Str → Option NameKind} {x : Str} {v : Value} : ∀ {P : List Str} {vs : List Value} {i : Nat} {m : Str → Option Value}, P.Nodup → P[i]? = some x → vs[i]? = some v → kindOf x = some .local →
    bindL kindOf (P.zip vs) m x = some v
  | [], _, _, _, _, h, _, _ => by simp at h
  | _ :: _, [], _, _, _, _, h, _ => by simp at h
  | p :: P, w :: vs, 0, m, nd, h1, h2, hk => by
    simp at h1 h2; subst h1; subst h2
    show bindL kindOf ((p, w) :: P.zip vs) m p = _
    unfold bindL
    rw [bindL_out fun v hv => (List.nodup_cons.mp nd).1 (List.of_mem_zip hv).1, if_pos hk]
    simp
  | p :: P, w :: vs, i + 1, m, nd, h1, h2, hk => by
    show bindL kindOf ((p, w) :: P.zip vs) m x = _
    unfold bindL
    exact bindL_get (i := i) (List.nodup_cons.mp nd).2 (by simpa using h1) (by simpa using h2) hk
theorem bindC_get {kindOf : Str → Option NameKind} {x : Str} {v : Value} : ∀ {P : List Str} {vs : List Value} {i : Nat} {m : Str → Option Value}, P.Nodup → P[i]? = some x → vs[i]? = some v → kindOf x ≠ some .local →
    bindC kindOf (P.zip vs) m x = some v
  | [], _, _, _, _, h, _, _ => by simp at h
  | _ :: _, [], _, _, _, _, h, _ => by simp at h
  | p :: P, w :: vs, 0, m, nd, h1, h2, hk => by
    simp at h1 h2; subst h1; subst h2
    show bindC kindOf ((p, w) :: P.zip vs) m p = _
    unfold bindC
    rw [bindC_out fun v hv => (List.nodup_cons.mp nd).1 (List.of_mem_zip hv).1, if_neg hk]
    simp
  | p :: P, w :: vs, i + 1, m, nd, h1, h2, hk => by
    show bindC kindOf ((p, w) :: P.zip vs) m x = _
    unfold bindC
    exact bindC_get (i := i) (List.nodup_cons.mp nd).2 (by simpa using h1) (by simpa using h2) hk

/-- the names' values at the entry -/
def start (N : List Str) (vs : List V) : St := vs.map some ++ List.replicate (N.length - vs.length) none

/-- the context of a def's body, at its entry; an exception leaves the frame, then lies as CX says -/
def cxOf (CX : CXT) (P : Program) (w : World) (K : PySem.W.Frag) (mg : Str → Option Value) (base : Heap) (N : List Str) (qual : Str) (scope : Scope) (f : Addr) (cd : Value) (A : Around) (outer : List Env) (s : Shared) (H : Hp) (E : XK) : Cx where
  prog := P
  w := w
  K := K
  mg := mg
  base := base
  A := A.deeper (envOfC qual scope s.heap.objs.size f cd)
  N := N
  s_0 := s
  H_0 := H
  env := envOfC qual scope s.heap.objs.size f cd
  outer := outer
  stack := envOfC qual scope s.heap.objs.size f cd :: outer
  ex := []
  calm := true
  fn := fun _ => true
  pn := []
  xe := fun e s' => wpAny (model P w) (A.deeper (envOfC qual scope s.heap.objs.size f cd)) (leaving (envOfC qual scope s.heap.objs.size f cd) e) (fun _ s'' => CX outer H s E e s'') (fun e' s'' => CX outer H s E e' s'') s'

theorem cell_has {sc : Scope} {n : Nat} {x : Str} (h : sc.names.lookup x = some .cell) : ∃ c, (cellsFrom n sc.names []).lookup x = some c := by
  have q := PySem.W.cellsFrom_some sc.names n [] (.inl h)
  exact Option.isSome_iff_exists.mp q

theorem inv_start {CX : CXT} {P : Program} {w : World} {K : PySem.W.Frag} {mg : Str → Option Value} {base : Heap} {N ps : List Str} {qual : Str} {scope : Scope} {f : Addr} {cd : Value} {A : Around} {outer : List Env} {s s1 : Shared} {H : Hp} {E : XK} {us : List Value} {vs : List V}
    (S : FnScope N ps scope) (hd : A.handled = none) (e0 : Env0 P w K mg base A outer s H) (hl : vs.length = ps.length) (r : Vals vs us)
    (x : InCallC s s.heap.objs.size (bindL (envOfC qual scope s.heap.objs.size f cd).kindOf (ps.zip us) fun _ => none) (cellsFrom (s.heap.objs.size + 1) scope.names []) (bindC (envOfC qual scope s.heap.objs.size f cd).kindOf (ps.zip us) fun _ => none) s1) :
    Inv (cxOf CX P w K mg base N qual scope f cd A outer s H E) [] (start N vs) H s1 := by
  have hpl : ps.length ≤ N.length := by have := congrArg List.length S.pre; rw [List.length_take] at this; omega
  obtain ⟨h1, tk, rfl, hk⟩ := x.done
  have noA : ∀ b : Addr, b ∉ (cxOf CX P w K mg base N qual scope f cd A outer s H E).ex := fun b z => absurd (show b ∈ ([] : List Addr) from z) (by simp)
  refine ⟨⟨e0.mod, S.kind, rfl, rfl, Nat.le_refl _, fun y z c h1 h2 => ?_, fun y hy => ?_, fun y c _ h => ?_, fun _ => hd, Around.frames_deeper e0.frames, .inr ⟨rfl, rfl⟩, fun b z => absurd z (noA b), e0.bs, e0.bsz, fun b _ _ => noA b, fun b z => absurd z (noA b), e0.funs, e0.frf⟩,
    rfl, e0.bare, Un.kept hk, ⟨_, x.toInCall.ns, fun i y v h1 h2 h3 => ?_⟩, fun y c h => ⟨_, x.cell y c h⟩, e0.hok.fresh (Nat.le_refl _), fun y c h => ?_, fun p hp => absurd (show p ∈ ([] : List (Addr × Obj)) from hp) (by simp), e0.hok.kept hk, ?_⟩
  · exact name_of_addr x.apart (PySem.mem_of_lookup h1) (PySem.mem_of_lookup h2)
  · have hy : scope.names.lookup y = some .cell ∨ scope.names.lookup y = some .free := hy
    rcases hy with hy | hy
    · exact cell_has hy
    · exact absurd rfl (S.nofree _ (PySem.mem_of_lookup hy))
  · exact Nat.le_of_lt (x.above y c (PySem.mem_of_lookup h))
  · have hi : i < vs.length := by
      unfold start at h2
      by_cases hi : i < vs.length
      · exact hi
      · rw [List.getElem?_append_right (by simpa using hi)] at h2
        rw [List.getElem?_replicate] at h2
        split at h2 <;> cases h2
    have ha : vs[i]? = some v := by
      unfold start at h2
      rw [List.getElem?_append_left (by simpa using hi), List.getElem?_map] at h2
      cases e : vs[i]? with
      | none => rw [e] at h2; cases h2
      | some a => rw [e] at h2; cases h2; rfl
    obtain ⟨u, hu, rv⟩ := r.get ha
    have hp : ps[i]? = some y := by
      rw [← S.pre, List.getElem?_take_of_lt (by omega)]; exact h1
    have ndP : ps.Nodup := by rw [← S.pre]; exact S.nd.sublist (List.take_sublist _ _)
    refine ⟨u, rv, ?_⟩
    rcases S.par y (List.mem_of_getElem? hp) with k | k
    · exact .inl ⟨k, bindL_get ndP hp hu k⟩
    · obtain ⟨c, e⟩ := cell_has (n := s.heap.objs.size + 1) k
      refine .inr ⟨.inl k, c, e, ?_⟩
      have q := x.cell y c e
      rw [bindC_get ndP hp hu (by show scope.names.lookup y ≠ _; rw [k]; decide)] at q
      exact q
  · exact e0.hok.fresh (Nat.le_of_lt (x.above y c (PySem.mem_of_lookup h)))
  · unfold start
    show _ = N.length
    rw [List.length_append, List.length_map, List.length_replicate]
    omega

/-- THE RULE: a def (or a method) of the text, by its body. The body's reading t is chosen for each entry; it is run at the parameters' values -/
theorem fn_of {CX : CXT} {P : Program} {w : World} {K : PySem.W.Frag} {mg : Str → Option Value} {base : Heap} {k : Nat} {f : Addr} {name qual : Str} {params : Arguments} {body : List Stmt} {scope : Scope} {dV kV doc pm cdv ct oc : Value} {an od : Option Addr}
    {osl : Array (Option Value)} {N ps : List Str} {sp : Sp} (lk : K.lookup f = some ⟨oc, od, .func (PySem.W.fnOf name qual params body scope dV kV doc pm an cdv ct), osl⟩) (hcd : PySem.W.codeIn K cdv qual = true) (S : FnScope N ps scope)
    (len : ∀ vs H Q E, sp vs H Q E → vs.length = ps.length)
    (hbody : ∀ (A : Around) (outer : List Env) (s : Shared) (H : Hp) (vs : List V) (Q : VK) (E : XK), Room k (A.deeper (envOfC qual scope s.heap.objs.size f cdv)) → sp vs H Q E →
      ∃ t, PSs (cxOf CX P w K mg base N qual scope f cdv A outer s H E) body t ∧ t { nx := fun _ H' => Q .non H', rt := Q } (start N vs) H) :
    FnOk P w K mg base CX (k + 1) f (PySem.W.fnOf name qual params body scope dV kV doc pm an cdv ct) ps sp := by
  refine ⟨len, fun A outer s H args us vs Q E hr e0 hb r hsp => ?_⟩
  have hl := len _ _ _ _ hsp
  have KX : K.In s.heap := e0.mod.kin.keeps fun b o e => (e0.bs b o e).1
  have lim : s.heap.NoLimit := e0.mod.nolimit.keeps fun b o e => (e0.bs b o e).1
  have hkind : ∀ y ∈ ps.zip us, scope.names.lookup y.1 = some .local ∨ (scope.names.lookup y.1 = some .cell ∧ ((cellsFrom (s.heap.objs.size + 1) scope.names []).lookup y.1).isSome = true) := fun ⟨n, v⟩ hy => by
    rcases S.par n (List.of_mem_zip hy).1 with q | q
    · exact .inl q
    · exact .inr ⟨q, PySem.W.cellsFrom_some _ _ _ (.inl q)⟩
  refine codeAny_call_function hr.depth (KX _ _ lk) rfl S.co S.gen rfl (PySem.W.codeRec_of KX hcd) (hb _ _ _ _ ?_)
  refine wpAny_newFunctionEnv_cells S.kind hkind fun env he s1 x => ?_
  subst he
  refine ⟨lim.keeps x.toInCall.keep, codeAny_func ?_⟩
  obtain ⟨t, ht, hq⟩ := hbody A outer s H vs Q E (hr.deeper _) hsp
  have I : Inv (cxOf CX P w K mg base N qual scope f cdv A outer s H E) [] (start N vs) H s1 := inv_start S hr.hd e0 hl r x
  refine wpAny_mono (ht [] s1 (start N vs) H _ I hq) (fun fl s' hs => ?_) fun e s' hs => hs
  have fin : ∀ {σ' : St} {H' : Hp} {v : V} {u : Value}, Inv (cxOf CX P w K mg base N qual scope f cdv A outer s H E) [] σ' H' s' → RelV v u → Q v H' → CE outer P w H s Q u s' :=
    fun {σ' H' v u} J rv q => ⟨v, H', J.os, J.bare, J.base, J.hok, rv, q⟩
  cases fl with
  | ret u =>
    obtain ⟨v, σ', H', J, rv, q⟩ := hs
    exact fin J rv q
  | next =>
    obtain ⟨σ', H', J, q⟩ := hs
    exact fin (v := V.non) (u := Value.none) J rfl q
  | brk =>
    obtain ⟨_, _, _, q⟩ := hs
    exact False.elim q
  | cont =>
    obtain ⟨_, _, _, q⟩ := hs
    exact False.elim q
end L2

namespace L2
open PySem PySem.Spec PyProof.Rows
section
variable {X : Cx} {x : Str} {p pos : Pos} {e : Expr} {es : List Expr} {t : TA} {id T : String} {r : List V → Hp → VK → Prop}

def tCB (r : List V → Hp → VK → Prop) (t : TA) : TE := fun σ H Q => t σ H fun vs H1 => r vs H1 Q
/-- f(e, ..), f a built-in function -/
theorem pe_callB (hc : CallR X (.builtin id) r) (hg : Gl X x) (hm : X.mg x = none) (hv : bootBuiltins x = some (.builtin id)) (ha : PA X (e :: es) t) (hn : x ≠ "__name__" := by decide) (hdb : (x == ("__debug__" : Str)) = false := by decide)
    (he : starEach (e :: es) X.env = (false, eval e X.env) :: starEach es X.env := by rfl) (hpl : (backTo pos (starEach es X.env)).any (·.1) = false := by rfl) : PE X (.Call (.Name x p) (e :: es) [] pos) (tCB r t) := by
  intro pins s σ H Q I h
  refine wpAny_Call_Name_kw (ld_blt I hg hm hv ?_ hn hdb)
  exact PyProof.Rows.callWith_builtin1 (thn (ha pos pins s σ H _ I h) fun us s1 ⟨vs, H1, I1, r1, q1⟩ => hc pins s1 σ H1 vs us Q I1 r1 q1) he hpl
end
end L2

namespace HT
open PySem PyProof.Rows



section
open PySem.SeqAt
open PySem.AutoSeq1 (wpAny_loadPart')
open PySem.MeetsSeq PySem.MeetsSeq2 PySem.MeetsSeq3

end

section
variable {prog : Program} {w : World} {A : Around} {E : Value → Shared → Prop} {s : Shared}



/-! ### t[a:b], not the whole -/
/-- a slice's bound as a place among n (d where it is left out) -/
def sIx (n d : Nat) : Option Int → Nat
  | none => d
  | some v => if v < 0 then (v + (n : Int)).toNat else min v.toNat n
theorem sIx_none (n d : Nat) : sIx n d none = d := rfl
theorem sIx_nat (n d k : Nat) : sIx n d (some (k : Int)) = min k n := by
  show (if (k : Int) < 0 then ((k : Int) + (n : Int)).toNat else min (k : Int).toNat n) = min k n
  rw [if_neg (by omega), Int.toNat_natCast]

end
end HT

namespace L2
open PySem PySem.Spec PyProof.Rows

/-! ### the parts of a slice -/
abbrev TO := St → Hp → (Option Int → Hp → Prop) → Prop
/-- a slice's part (left out, or an int) -/
def PO (X : Cx) (e : Option Expr) (t : TO) : Prop :=
  ∀ (pins : List (Addr × Obj)) (s : Shared) (σ : St) (H : Hp) (Q : Option Int → Hp → Prop), Inv X pins σ H s → t σ H Q →
    wpAny (model X.prog X.w) X.A (evalPart e X.env) (fun u s' => ∃ o H', Inv X pins σ H' s' ∧ IsPart u o ∧ Q o H') X.xe s
def tNoPart : TO := fun _ H Q => Q none H
def tPart (t : TE) : TO := fun σ H Q => t σ H fun x H1 => ∃ i, x = .int i ∧ Q (some i) H1

theorem intsAre_of {ns : List Int} : ∀ {us : List Value}, Vals (ns.map V.int) us → IntsAre us ns := by
  induction ns with
  | nil => intro us r; rw [List.map_nil] at r; cases r; exact .nil
  | cons n ns ih =>
    intro us r
    rw [List.map_cons] at r
    cases r with
    | cons r1 r2 =>
      obtain ⟨t, e⟩ := r1
      subst e
      exact .cons n t (ih r2)

section
variable {X : Cx} {e : Expr} {te : TE} {lo hi : Option Expr} {tl th : TO} {pos p2 : Pos}

theorem po_none : PO X none tNoPart := by
  intro pins s σ H Q I h
  rw [evalPart_none]
  exact wpAny_pure ⟨none, H, I, .none, h⟩
theorem po_some (h : PE X e te) : PO X (some e) (tPart te) := by
  intro pins s σ H Q I hw
  rw [evalPart_some]
  refine thn (h pins s σ H _ I hw) fun u s1 ⟨x, H1, I1, r1, q1⟩ => ?_
  obtain ⟨i, rfl, q⟩ := q1
  obtain ⟨t, rfl⟩ := r1
  exact ⟨some i, H1, I1, .int i t, q⟩

/-- what a slice of a value is, by values: the slice object stands at sl -/
def SlR (X : Cx) (r : V → Option Int → Option Int → Hp → VK → Prop) : Prop :=
  ∀ (pins : List (Addr × Obj)) (s : Shared) (σ : St) (H : Hp) (x : V) (v vl vu : Value) (lo hi : Option Int) (sl : Addr) (Q : VK), Inv X pins σ H s → RelV x v → s.heap.IsSliceOf sl vl vu .none → IsPart vl lo → IsPart vu hi → r x lo hi H Q →
    ∃ T id, typeLookup (.type T) "__getitem__" = pure (some (.builtin id)) ∧ s.TypeIs v T ∧ wpAny (model X.prog X.w) X.A (getItem v (.ref sl)) (EP X pins σ Q) X.xe s
def tSl (r : V → Option Int → Option Int → Hp → VK → Prop) (te : TE) (tl th : TO) : TE := fun σ H Q => te σ H fun x H1 => tl σ H1 fun l H2 => th σ H2 fun u H3 => r x l u H3 Q
/-- a[lo:hi], any a -/
theorem pe_slice {r : V → Option Int → Option Int → Hp → VK → Prop} (hr : SlR X r) (he : PE X e te) (hl : PO X lo tl) (hu : PO X hi th) : PE X (.Subscript e (.Slice lo hi none p2) pos) (tSl r te tl th) := by
  intro pins s σ H Q I h
  refine Subscript_ (thn (he pins s σ H _ I h) fun v s1 ⟨x, H1, I1, r1, q1⟩ => ?_)
  refine wpAny_Slice (thn (hl pins s1 σ H1 _ I1 q1) fun vl s2 ⟨l, H2, I2, pl, q2⟩ => thn (hu pins s2 σ H2 _ I2 q2) fun vu s3 ⟨u, H3, I3, pu, q3⟩ => ?_)
  rw [evalPart_none]
  refine wpAny_pure ?_
  have I4 : Inv X pins σ H3 { s3 with heap := s3.heap.push { cls := .type "slice", data := .fields #[vl, vu, .none] } } := I3.kept (t' := s3.toks) fun b ob q => Heap.get?_push_of_some _ q
  obtain ⟨T, id, hT, ht, hg⟩ := hr pins { s3 with heap := s3.heap.push { cls := .type "slice", data := .fields #[vl, vu, .none] } } σ H3 x v vl vu l u s3.heap.objs.size Q I4 r1 (Heap.IsSliceOf.new ..) pl pu q3
  show wpAny (model X.prog X.w) X.A (subscriptTail e (.Slice lo hi none p2) v (.ref s3.heap.objs.size)) (EP X pins σ Q) X.xe { s3 with heap := s3.heap.push { cls := .type "slice", data := .fields #[vl, vu, .none] } }
  exact tail_any (ops := [.ref s3.heap.objs.size, v]) ht hT hg (by with_unfolding_all rfl)

/-- the items of xs[lo:hi] -/
def cutV (xs : List V) (lo hi : Option Int) : List V := (xs.drop (HT.sIx xs.length 0 lo)).take (HT.sIx xs.length xs.length hi - HT.sIx xs.length 0 lo)
theorem cutV_length (xs : List V) (lo hi : Option Int) : (cutV xs lo hi).length ≤ xs.length := by
  unfold cutV
  rw [List.length_take, List.length_drop]
  omega

/-! ### t < u, t + u -/
end
end L2

namespace L2
open PySem PySem.Spec PyProof.Rows

/-! ### places -/
/-- the place that an index of any sign means -/
def ixN (n : Nat) (i : Int) : Option Nat := if 0 ≤ i then (if i < n then some i.toNat else none) else if -(n : Int) ≤ i then some (i + n).toNat else none
def atI {α : Type} (xs : List α) (i : Int) : Option α := (ixN xs.length i).bind fun j => xs[j]?
theorem ixN_seq {n : Nat} {i : Int} {j : Nat} (h : ixN n i = some j) : seqIndex? i n = some j ∧ j < n ∧ -(n : Int) ≤ i ∧ i < n := by
  unfold ixN at h
  by_cases h0 : 0 ≤ i
  · rw [if_pos h0] at h
    by_cases h1 : i < n
    · rw [if_pos h1] at h
      have e : i.toNat = j := Option.some.inj h
      exact ⟨by rw [seqIndex_of h0 h1, e], by omega, by omega, h1⟩
    · rw [if_neg h1] at h; cases h
  · rw [if_neg h0] at h
    by_cases h1 : -(n : Int) ≤ i
    · rw [if_pos h1] at h
      have e : (i + n).toNat = j := Option.some.inj h
      exact ⟨by rw [seqIndex_neg (by omega) h1, e], by omega, h1, by omega⟩
    · rw [if_neg h1] at h; cases h
theorem atI_get {α : Type} {xs : List α} {i : Int} {v : α} (h : atI xs i = some v) : ∃ j, seqIndex? i xs.length = some j ∧ xs[j]? = some v ∧ j < xs.length ∧ -(xs.length : Int) ≤ i ∧ i < xs.length := by
  unfold atI at h
  cases e : ixN xs.length i with
  | none => rw [e] at h; cases h
  | some j =>
    rw [e] at h
    obtain ⟨h1, h2, h3, h4⟩ := ixN_seq e
    exact ⟨j, h1, h, h2, h3, h4⟩
theorem atI_nat {α : Type} {xs : List α} {j : Nat} {v : α} (h : xs[j]? = some v) : atI xs (j : Int) = some v := by
  have hj : j < xs.length := (List.getElem?_eq_some_iff.mp h).1
  have e : ixN xs.length (j : Int) = some j := by
    unfold ixN
    rw [if_pos (by omega), if_pos (by omega)]; simp
  unfold atI; rw [e]; exact h

/-! ### what may be subscripted -/
/-- what stands as an index of a plain subscript -/
def PlainIx (b : Expr) : Prop := ∀ o i, subscripted b false o i = operate [o, i] (getItem o i)
/-- a subscript by values -/
def IxR (X : Cx) (r : R2) : Prop :=
  ∀ (value slice : Expr) (pins : List (Addr × Obj)) (s : Shared) (σ : St) (H : Hp) (x y : V) (v u : Value) (Q : VK), Inv X pins σ H s → RelV x v → RelV y u → r x y H Q →
    subscripted slice false v u = operate [v, u] (getItem v u) → wpAny (model X.prog X.w) X.A (subscriptTail value slice v u) (EP X pins σ Q) X.xe s
/-- a call of a builtin's method by values: the receiver, the arguments -/
def MtR (X : Cx) (id : String) (r : V → List V → Hp → VK → Prop) : Prop :=
  ∀ (pins : List (Addr × Obj)) (s : Shared) (σ : St) (H : Hp) (x : V) (xs : List V) (v : Value) (us : List Value) (Q : VK), Inv X pins σ H s → RelV x v → Vals xs us → r x xs H Q →
    wpAny (model X.prog X.w) X.A (call (.builtin id) (v :: us)) (EP X pins σ Q) X.xe s
section
variable {X : Cx} {a b : Expr} {ta tb : TE} {pos : Pos}
/-- a[b] -/
theorem pe_ix {r : R2} (hr : IxR X r) (ha : PE X a ta) (hb : PE X b tb) (hs : PlainIx b) : PE X (.Subscript a b pos) (tOp r ta tb) := by
  intro pins s σ H Q I h
  exact Subscript_ (binT ha hb I h fun v u s2 x y H2 I2 rx ry q => hr a b pins s2 σ H2 x y v u Q I2 rx ry q (hs _ _))

def rIxL (K : PySem.W.Frag) : R2 := fun x y H Q => ∃ p xs i v, x = .ref p ∧ y = .int i ∧ SqL K H p xs ∧ atI xs i = some v ∧ Q v H
theorem ix_list : IxR X (rIxL X.K) := by
  intro value slice pins s σ H x y v u Q I rx ry h hs
  obtain ⟨p, xs, i, z, rfl, rfl, hq, he, q⟩ := h
  cases rx
  obtain ⟨t, rfl⟩ := ry
  obtain ⟨its, r, pl, hz⟩ := I.list hq
  obtain ⟨j, h1, h2, h3, h4, h5⟩ := atI_get he
  obtain ⟨w, ew, rw'⟩ := r.get h2
  have hl := r.length
  have hn := line63
  have fin : EP X pins σ Q w s := ⟨z, H, I, rw', q⟩
  by_cases h0 : 0 ≤ i
  · have hj : i.toNat = j := by
      rw [seqIndex_of h0 h5] at h1
      exact Option.some.inj h1
    exact item_listR pl.isList h0 (by omega) (by rw [hj]; simpa using ew) fin hs
  · have hj : (i + (its.toArray.size : Int)).toNat = j := by
      rw [seqIndex_neg (by omega) h4] at h1
      rw [List.size_toArray, ← hl]
      exact Option.some.inj h1
    exact subscriptTail_builtinR (x := w) pl.isList.typeIs slot_list_getitem.lookup
      (wpAny_getItem_list_neg (Q := fun r s' => r = w ∧ EP X pins σ Q r s') pl.isList (by omega) (by rw [List.size_toArray] <;> omega) (by omega) (by rw [hj]; simpa using ew) ⟨rfl, fin⟩) hs

/-! ### xs[i] = v, any sign -/

/-! ### slices -/
theorem slice_bounds (lo hi : Option Int) (n : Nat) : (sliceBounds lo hi none n).1 = ((HT.sIx n 0 lo : Nat) : Int) ∧ (sliceBounds lo hi none n).2.1 = ((HT.sIx n n hi : Nat) : Int) ∧ (sliceBounds lo hi none n).2.2 = 1 := by
  refine ⟨?_, ?_, rfl⟩
  · cases lo with
    | none => simp [sliceBounds, HT.sIx]
    | some i =>
      simp only [sliceBounds, HT.sIx, Option.getD_none, show (1 : Int) > 0 by decide, if_true]
      by_cases h : i < 0
      · simp only [h, if_true] <;> omega
      · simp only [h, if_false] <;> omega
  · cases hi with
    | none => simp [sliceBounds, HT.sIx]
    | some i =>
      simp only [sliceBounds, HT.sIx, Option.getD_none, show (1 : Int) > 0 by decide, if_true]
      by_cases h : i < 0
      · simp only [h, if_true] <;> omega
      · simp only [h, if_false] <;> omega
theorem slicePick_cut (its : List Value) (lo hi : Option Int) : slicePick its.toArray lo hi none = ((its.drop (HT.sIx its.length 0 lo)).take (HT.sIx its.length its.length hi - HT.sIx its.length 0 lo)).toArray := by
  obtain ⟨h1, h2, h3⟩ := slice_bounds lo hi its.toArray.size
  unfold slicePick
  rw [h1, h2, h3]
  simp only [sliceRange_one, pick_run, List.size_toArray] <;> rfl
/-- xs[lo:hi] of a list: a new list -/
def rSlL (K : PySem.W.Frag) : V → Option Int → Option Int → Hp → VK → Prop := fun x lo hi H Q => ∃ a xs, x = .ref a ∧ SqL K H a xs ∧ ∀ p, H p = none → Q (.ref p) (upd H p (.lst (cutV xs lo hi)))
theorem sl_list : SlR X (rSlL X.K) := by
  intro pins s σ H x v vl vu lo hi sl Q I rx hs pl pu h
  obtain ⟨a, xs, rfl, hx, q⟩ := h
  cases rx
  obtain ⟨its, r, ht, hz⟩ := I.list hx
  have hlen := r.length
  refine ⟨"list", _, slot_list_getitem.lookup, ht.isList.typeIs, ?_⟩
  refine wpAny_getItem_list_slice ht.isList hs pl pu .none (by simp) ?_ (by rw [List.size_toArray] <;> omega)
  rw [slicePick_cut, ← hlen]
  refine ⟨.ref s.heap.objs.size, _, I.laid (t' := s.toks) (o := .lst (cutV xs lo hi)) (fun b ob q => Heap.get?_push_of_some _ q) (Nat.le_refl _) ?_, rfl, q _ (I.hok.fresh (Nat.le_refl _))⟩
  exact ⟨Nat.le_trans (cutV_length xs lo hi) hz, _, 0, (r.drop (HT.sIx xs.length 0 lo)).take (HT.sIx xs.length xs.length hi - HT.sIx xs.length 0 lo), Heap.get?_push_size _ rfl⟩

/-! ### in, not in: flat items -/

/-! ### len, list(x), tuple(x) of any list or tuple that is read -/
theorem call_len_seq : CallR X (.builtin "len") (fun xs H Q => ∃ p ys, xs = [.ref p] ∧ (SqL X.K H p ys ∨ SqT X.K H p ys) ∧ Q (.int ys.length) H) := by
  intro pins s σ H xs us Q I r h
  obtain ⟨p, ys, rfl, hq, q⟩ := h
  obtain ⟨u, rfl, rx⟩ := vals1 r
  cases rx
  have hn := line63
  rcases hq with hq | hq
  · obtain ⟨its, r', pl, hz⟩ := I.list hq
    have hlen := r'.length
    exact Calls.call_len_list pl.isList (by simp only [List.size_toArray] <;> omega) ⟨.int ys.length, H, I.tok _, ⟨s.toks + 1, by rw [List.size_toArray, hlen]⟩, q⟩
  · obtain ⟨its, r', pl, hz⟩ := I.tuple hq
    have hlen := r'.length
    exact len_tuple pl (by simp only [List.size_toArray] <;> omega) ⟨.int ys.length, H, I.tok _, ⟨s.toks + 1, by rw [List.size_toArray, hlen]⟩, q⟩

/-! ### the call of a builtin's method: o.m(..) -/
/-- the value is of that builtin type -/
def tyV (K : PySem.W.Frag) (T : String) (x : V) (H : Hp) : Prop := match x with
  | .str _ => T = "str"
  | .int _ => T = "int"
  | .ref p => (T = "list" ∧ ∃ xs, SqL K H p xs) ∨ (T = "tuple" ∧ ∃ o, K.lookup p = some o ∧ o.cls = .type "tuple" ∧ o.dict = none) ∨
      (T = "dict" ∧ ((∃ kvs, H p = some (.dK kvs)) ∨ ∃ kvs, H p = some (.dT kvs))) ∨ (T = "set" ∧ ∃ S n, H p = some (.set S n))
  | _ => False
theorem tyV_is {pins : List (Addr × Obj)} {σ : St} {H : Hp} {s : Shared} {T : String} {x : V} {v : Value} (I : Inv X pins σ H s) (r : RelV x v) (ty : tyV X.K T x H) :
    s.TypeIs v T ∧ ∀ a, v = .ref a → ∃ ob, s.heap.get? a = some ob ∧ ob.dict = none := by
  cases x with
  | str z =>
    obtain ⟨t, rfl⟩ := r
    cases (show T = "str" from ty)
    exact ⟨typeIs_str s z t, fun _ e => nomatch e⟩
  | int i =>
    obtain ⟨t, rfl⟩ := r
    cases (show T = "int" from ty)
    exact ⟨typeIs_int s i t, fun _ e => nomatch e⟩
  | ref p =>
    cases r
    rcases ty with ⟨rfl, xs, hq⟩ | ⟨rfl, o, hk, hc, hd⟩ | ⟨rfl, hk⟩ | ⟨rfl, S, n, hk⟩
    · obtain ⟨its, _, pl, _⟩ := I.list hq
      refine ⟨pl.isList.typeIs, fun a e => ?_⟩
      cases e
      obtain ⟨o, n, e, c, hd, _⟩ := pl
      exact ⟨o, e, hd⟩
    · refine ⟨⟨o, I.kIn p o hk, hc⟩, fun a e => ?_⟩
      cases e
      exact ⟨o, I.kIn _ o hk, hd⟩
    · have z : ∃ o, s.heap.get? p = some o ∧ o.ExactDict := by
        rcases hk with ⟨kvs, hk⟩ | ⟨kvs, hk⟩
        · obtain ⟨_, _, _, _, o, _, _, e, ex, _⟩ := I.hok p _ hk
          exact ⟨o, e, ex⟩
        · obtain ⟨_, _, _, _, o, _, _, e, ex, _⟩ := I.hok p _ hk
          exact ⟨o, e, ex⟩
      obtain ⟨o, e, ex⟩ := z
      refine ⟨⟨o, e, ex.1⟩, fun a e2 => ?_⟩
      cases e2
      exact ⟨o, e, ex.2.1⟩
    · obtain ⟨o, _, _, _, e, ex, _⟩ := I.hok p _ hk
      refine ⟨⟨o, e, ex.1⟩, fun a e2 => ?_⟩
      cases e2
      exact ⟨o, e, ex.2.1⟩
  | _ => exact False.elim ty
def tBM (K : PySem.W.Frag) (T : String) (r : V → List V → Hp → VK → Prop) (to : TE) (t : TA) : TE := fun σ H Q => to σ H fun x H1 => tyV K T x H1 ∧ t σ H1 fun xs H2 => r x xs H2 Q
variable {o e : Expr} {es : List Expr} {to : TE} {t : TA} {name : Str} {apos cpos : Pos} {T id : String} {r : V → List V → Hp → VK → Prop}
theorem pe_bm (pa : PlainAttrs T) (slot : Slot T name id) (hty : typeOf (.builtin id) = pure (.type "method_descriptor")) (hm : MtR X id r) (ho : PE X o to) (ha : PA X (e :: es) t)
    (hbase : attributeBase o name X.env (eval o X.env) = eval o X.env := by rfl)
    (hfew : ((backTo cpos (starEach (e :: es) X.env)).all (fun x => !x.1) && (backToKw cpos (keywordEach [] X.env)).all (fun x => x.1.isSome)
      && decide ((e :: es).length + ([] : List Keyword).length + (if ([] : List Keyword).isEmpty then 0 else 1) < 30)) = true := by rfl)
    (hline : (apos.endLine == cpos.line) = true := by rfl) (hs : starEach (e :: es) X.env = (false, eval e X.env) :: starEach es X.env := by rfl) (hplain : (backTo cpos (starEach es X.env)).any (·.1) = false := by rfl) :
    PE X (.Call (.Attribute o name apos) (e :: es) [] cpos) (tBM X.K T r to t) := by
  intro pins s σ H Q I h
  refine wpAny_Call_method_late hbase hfew hline rfl (thn (ho pins s σ H _ I h) fun v s1 ⟨x, H1, I1, r1, ty, q1⟩ => ?_)
  obtain ⟨h1, h2⟩ := tyV_is I1 r1 ty
  refine ⟨T, id, pa, slot, hty, h1, h2, ?_⟩
  have hA := ha cpos pins s1 σ H1 _ I1 q1
  rw [hs] at hA ⊢
  refine Calls.callWith_builtin (by show (false || (backTo cpos (starEach es X.env)).any (·.1)) = false; rw [hplain] <;> rfl) (Calls.evalArgs_plain ?_)
  exact thn hA fun us s2 ⟨vs, H2, I2, r2, q2⟩ => hm pins s2 σ H2 x vs v us Q I2 r1 r2 q2
/- xs.append(e), list.index on a module's tuple .. are MtR facts of 06m -/
end
end L2

namespace L2
open PySem PySem.Spec PyProof.Rows

def MtM (X : Cx) (id : String) (r : V → List V → Hp → VK → Prop) : Prop :=
  ∀ (pins : List (Addr × Obj)) (s : Shared) (σ : St) (H : Hp) (x : V) (xs : List V) (v : Value) (us : List Value) (Q : VK), Inv X pins σ H s → RelV x v → Vals xs us → r x xs H Q →
    wpAny (model X.prog X.w) X.A (call (.builtin id) (v :: us)) (EP X pins σ Q) X.xe s

/-! ### lists of values -/
theorem Vals.one : ∀ {x : V} {us : List Value}, Vals [x] us → ∃ u, us = [u] ∧ RelV x u
  | _, _, .cons r .nil => ⟨_, rfl, r⟩

section
variable {X : Cx} {pins : List (Addr × Obj)} {σ : St} {H : Hp} {s : Shared} {l b : Addr} {xs ys zs : List V}

/-! ### the two steps: a tracked list is rewritten, a new list is laid -/
theorem Inv.lset {its its' : List Value} {n : Nat} {f : Array Value → Array Value} {t' : Nat} (I : Inv X pins σ H s) (hH : H l = some (.lst xs))
    (e : s.heap.get? l = some { cls := .type "list", data := .seq its.toArray n }) (hf : f its.toArray = its'.toArray) (hv : Vals ys its') (hz : ys.length ≤ sizeLine) :
    Inv X pins σ (upd H l (.lst ys)) { s with heap := s.heap.update l (Obj.mapSeq f), toks := t' } := by
  have q := PySem.IsL.update e f
  rw [hf] at q
  refine I.write (x := l) (e := l) (by rw [hH]; exact trivial) (.inl rfl) (fun b' u hb hu => (Heap.get?_update_other s.heap (Obj.mapSeq f) (Ne.symm hb)).trans hu) ⟨_, q⟩ ?_
  exact ⟨hz, its', _, hv, q⟩
theorem Inv.lnew {its : List Value} {t' : Nat} (I : Inv X pins σ H s) (hv : Vals ys its) (hz : ys.length ≤ sizeLine) :
    Inv X pins σ (upd H s.heap.objs.size (.lst ys)) { s with heap := s.heap.push { cls := .type "list", data := .seq its.toArray }, toks := t' } :=
  I.laid (fun _ _ q => Heap.get?_push_of_some _ q) (Nat.le_refl _) ⟨hz, its, 0, hv, Heap.get?_push_size _ rfl⟩
theorem Inv.fresh (I : Inv X pins σ H s) : H s.heap.objs.size = none := I.hok.fresh (Nat.le_refl _)
theorem Inv.lstM (I : Inv X pins σ H s) (hH : H l = some (.lst xs)) : xs.length ≤ sizeLine ∧ ∃ (its : List Value) (n : Nat), Vals xs its ∧ xs.length = its.length ∧ s.heap.get? l = some { cls := .type "list", data := .seq its.toArray n } := by
  obtain ⟨z, its, n, r, e⟩ := I.hok l _ hH
  exact ⟨z, its, n, r, r.length, e⟩

end

section
variable {X : Cx}

/-! ### methods -/
def rAppend : V → List V → Hp → VK → Prop := fun x vs H Q => ∃ l xs y, x = .ref l ∧ vs = [y] ∧ H l = some (.lst xs) ∧ xs.length < sizeLine ∧ Q .non (upd H l (.lst (xs ++ [y])))
theorem mt_append : MtM X "list.append" rAppend := by
  intro pins s σ H x vs v us Q I rx rv h
  obtain ⟨l, xs, y, rfl, rfl, hH, hz, q⟩ := h
  cases rx
  obtain ⟨u, rfl, ru⟩ := rv.one
  obtain ⟨z, its, n, r, hl, e⟩ := I.lstM hH
  refine call_meets F.slot_list_append ⟨_, e, rfl⟩ F.entry_list_append (F.args_list_append_2 _ _) (PySem.list_append l its.toArray n u (by rw [List.size_toArray]; omega)) ⟨e, ?_⟩
  refine ⟨.non, _, I.lset (its' := its ++ [u]) hH e (by simp) (r.append (.cons ru .nil)) ?_, rfl, q⟩
  rw [List.length_append, List.length_singleton]
  omega






/-! ### list + list, list += list, list * int -/
def rCat : R2 := fun x y H Q => ∃ l b xs zs, x = .ref l ∧ y = .ref b ∧ H l = some (.lst xs) ∧ H b = some (.lst zs) ∧ xs.length + zs.length ≤ sizeLine ∧ ∀ p, H p = none → Q (.ref p) (upd H p (.lst (xs ++ zs)))
theorem op_cat : OpR X (binaryOp .Add) rCat := by
  intro pins s σ H x y v u Q I rx ry h
  obtain ⟨l, b, xs, zs, rfl, rfl, hH, hB, hz, q⟩ := h
  cases rx
  cases ry
  obtain ⟨z, its, n, r, hl, e⟩ := I.lstM hH
  obtain ⟨z2, its2, n2, r2, hl2, e2⟩ := I.lstM hB
  refine PySem.P.add_list e e2 ?_ (by rw [List.size_toArray, List.size_toArray]; omega)
  have ea : its.toArray ++ its2.toArray = (its ++ its2).toArray := by simp
  rw [ea]
  exact ⟨.ref _, _, I.lnew (t' := s.toks) (r.append r2) (by rw [List.length_append]; omega), rfl, q _ I.fresh⟩

/-! ### del xs[i] -/
end

/-! ### xs[a:b] = ys -/
section
variable {prog : Program} {w : World} {A : Around} {E : Value → Shared → Prop} {s : Shared}
end

section
variable {X : Cx}
end
end L2

namespace L2
open PySem PySem.Spec PyProof.Rows

theorem Vals.ref1 {a : Addr} {us : List Value} (r : Vals [V.ref a] us) : us = [Value.ref a] := by
  cases r with
  | cons r t =>
    cases t
    cases r
    rfl

/-! ### the library's walks over a list of ints, kept objects alone -/
section
variable {prog : Program} {w : World} {A : Around} {E : Value → Shared → Prop} {s : Shared} {l : Addr} {its : List Value} {ns : List Int} {Q : Value → Shared → Prop}
end

/-! ### the calls, by values (CallR of 03t; MtR of 06l) -/
section
variable {X : Cx}

/-! sorted, sort (fewer than 64 items: the library's own bound) -/
end

/-! ### list.index, flat items -/
section
variable {X : Cx}
end

/-! ### type(x) of an own instance; is, is not of a module's class -/
section
variable {X : Cx}
end

/-! ### any(xs), all(xs) of a list of bools -/
theorem iter_any {prog : Program} {w : World} {A : Around} {E : Value → Shared → Prop} {s : Shared} {l : Addr} {items : Array Value} {Q : Value → Shared → Prop} (hl : s.heap.IsList l items)
    (h : ∀ s₂ : Shared, s₂ = { s with heap := s.heap.push { cls := .type "list_iterator", data := .fields #[.ref l, .int 0 0] } } →
      (s₂.heap.IsListIter s.heap.objs.size l 0 ∧ s₂.heap.IsList l items) → l ≠ s.heap.objs.size → Q (.ref s.heap.objs.size) s₂) : wpAny (model prog w) A (pyIter (.ref l)) Q E s := by
  have hlt : l < s.heap.objs.size := by obtain ⟨_, e, _⟩ := hl; exact Heap.lt_size e
  exact wpAny_pyIter_list hl (h _ rfl ⟨⟨_, Heap.get?_push_size _ rfl, rfl, rfl⟩, hl.push _⟩ (Nat.ne_of_lt hlt))
section
variable {X : Cx}
end

/-! ### == and != of data at any depth: none, bools, ints, texts, lists, tuples -/
section
variable {X : Cx} {pins : List (Addr × Obj)} {σ : St} {H : Hp} {s : Shared}
end
section
variable {X : Cx}
end
end L2

namespace L2
open PySem PySem.Spec PyProof.Rows
abbrev CellAt (h : Heap) (c : Addr) (v : Option Value) : Prop := h.IsCell c v
def relS (scope sc : Scope) : Scope :=
  { scope with names := scope.names.map fun (n, k) => if (k == .free && sc.kind == .function && sc.names.lookup n == some .cell) then (n, .cell) else (n, k) }

def cloFrom (cells : List (Str × Addr)) : List (Str × NameKind) → List (Str × Addr) → List (Str × Addr)
  | [], acc => acc
  | (n, k) :: r, acc => if k == .free then cloFrom cells r ((n, (cells.lookup n).getD 0) :: acc) else cloFrom cells r acc

theorem closure_loop (env : Env) (f : Str × NameKind → List (Str × Addr) → Sem (ForInStep (List (Str × Addr))))
    (hf : ∀ n k c, f (n, k) c = if k == .free then (do let a ← cellOf env n; pure (.yield ((n, a) :: c))) else pure (.yield c)) :
    ∀ (names : List (Str × NameKind)) (acc : List (Str × Addr)), (∀ y ∈ names, y.2 = .free → ∃ c, env.cells.lookup y.1 = some c) → forIn names acc f = pure (cloFrom env.cells names acc)
  | [], acc, _ => by rw [List.forIn_nil]; rfl
  | (n, k) :: r, acc, h => by
    rw [List.forIn_cons, hf]
    have ih := fun acc => closure_loop env f hf r acc fun y hy => h y (List.mem_cons_of_mem _ hy)
    unfold cloFrom
    by_cases hk : (k == NameKind.free) = true
    · rw [if_pos hk, if_pos hk]
      obtain ⟨c, hc⟩ := h (n, k) List.mem_cons_self (by simpa using hk)
      have e : cellOf env n = pure c := by unfold cellOf; rw [hc]
      rw [e]
      have e2 : (env.cells.lookup n).getD 0 = c := by rw [hc]; rfl
      rw [e2]
      exact ih _
    · rw [if_neg hk, if_neg hk]
      exact ih _
theorem closure_ok {scope : Scope} {env : Env} (h : ∀ y ∈ scope.names, y.2 = .free → ∃ c, env.cells.lookup y.1 = some c) : closureFor scope env = pure (cloFrom env.cells scope.names []) := by
  simp only [closureFor]
  rw [closure_loop env _ (fun n k c => rfl) scope.names [] h]
  rfl

theorem mem_lookup {α : Type} : ∀ {l : List (Str × α)} {n : Str} {c : α}, (n, c) ∈ l → ∃ c', l.lookup n = some c'
  | (k, v) :: r, n, c, h => by
    rw [List.lookup_cons]
    cases hb : n == k with
    | true => exact ⟨_, rfl⟩
    | false =>
      rcases List.mem_cons.mp h with e | h
      · cases e; simp at hb
      · exact mem_lookup h

theorem cloFrom_mem {cells : List (Str × Addr)} : ∀ {names : List (Str × NameKind)} {acc : List (Str × Addr)} {n : Str} {c : Addr}, (n, c) ∈ cloFrom cells names acc → (n, c) ∈ acc ∨ ((n, .free) ∈ names ∧ c = (cells.lookup n).getD 0)
  | [], _, _, _, h => .inl h
  | (m, k) :: r, acc, n, c, h => by
    unfold cloFrom at h
    split at h
    · rename_i hk
      have hk : k = .free := by simpa using hk
      rcases cloFrom_mem h with h | ⟨h1, h2⟩
      · rcases List.mem_cons.mp h with e | h
        · cases e; exact .inr ⟨hk ▸ List.mem_cons_self, rfl⟩
        · exact .inl h
      · exact .inr ⟨List.mem_cons_of_mem _ h1, h2⟩
    · rcases cloFrom_mem h with h | ⟨h1, h2⟩
      · exact .inl h
      · exact .inr ⟨List.mem_cons_of_mem _ h1, h2⟩
theorem cloFrom_acc {cells : List (Str × Addr)} : ∀ {names : List (Str × NameKind)} {acc : List (Str × Addr)} {p : Str × Addr}, p ∈ acc → p ∈ cloFrom cells names acc
  | [], _, _, h => h
  | (m, k) :: r, acc, p, h => by
    unfold cloFrom
    split
    · exact cloFrom_acc (List.mem_cons_of_mem _ h)
    · exact cloFrom_acc h
theorem cloFrom_has {cells : List (Str × Addr)} : ∀ {names : List (Str × NameKind)} {acc : List (Str × Addr)} {n : Str}, (n, .free) ∈ names → (n, (cells.lookup n).getD 0) ∈ cloFrom cells names acc
  | (m, k) :: r, acc, n, h => by
    unfold cloFrom
    rcases List.mem_cons.mp h with e | h
    · cases e
      exact cloFrom_acc List.mem_cons_self
    · split
      · exact cloFrom_has h
      · exact cloFrom_has h

theorem cells_mem : ∀ {names : List (Str × NameKind)} {h : Heap} {acc : List (Str × Addr)} {x : Str} {c : Addr}, (x, c) ∈ cellsFrom h.objs.size names acc →
    (x, c) ∈ acc ∨ ((x, .cell) ∈ names ∧ h.objs.size ≤ c ∧ CellAt (pushCells h names) c none)
  | [], _, _, _, _, h => .inl h
  | (n, k) :: r, h, acc, x, c, hm => by
    unfold cellsFrom at hm
    unfold pushCells
    split at hm
    · rename_i hk
      rw [if_pos hk]
      have hk : k = .cell := by simpa using hk
      rw [← Heap.size_push h { cls := .type "cell", data := .cell none }] at hm
      rcases cells_mem hm with hm | ⟨h1, h2, h3⟩
      · rcases List.mem_cons.mp hm with e | hm
        · cases e
          exact .inr ⟨hk ▸ List.mem_cons_self, Nat.le_refl _, _, pushCells_keeps r _ _ _ (Heap.get?_push_size _ rfl), rfl⟩
        · exact .inl hm
      · rw [Heap.size_push] at h2
        exact .inr ⟨List.mem_cons_of_mem _ h1, Nat.le_of_succ_le h2, h3⟩
    · rename_i hk
      rw [if_neg hk]
      rcases cells_mem hm with hm | ⟨h1, h2, h3⟩
      · exact .inl hm
      · exact .inr ⟨List.mem_cons_of_mem _ h1, h2, h3⟩
theorem cells_acc : ∀ {names : List (Str × NameKind)} {n : Nat} {acc : List (Str × Addr)} {p : Str × Addr}, p ∈ acc → p ∈ cellsFrom n names acc
  | [], _, _, _, h => h
  | (m, k) :: r, n, acc, p, h => by
    unfold cellsFrom
    split
    · exact cells_acc (List.mem_cons_of_mem _ h)
    · exact cells_acc h
theorem cells_has : ∀ {names : List (Str × NameKind)} {n : Nat} {acc : List (Str × Addr)} {x : Str}, (x, .cell) ∈ names → ∃ c, (x, c) ∈ cellsFrom n names acc
  | (m, k) :: r, n, acc, x, h => by
    unfold cellsFrom
    rcases List.mem_cons.mp h with e | h
    · cases e
      exact ⟨n, cells_acc List.mem_cons_self⟩
    · split
      · exact cells_has h
      · exact cells_has h
theorem cells_inj : ∀ {names : List (Str × NameKind)} {h : Heap} {acc : List (Str × Addr)} {x y : Str} {c : Addr}, (∀ p ∈ acc, p.2 < h.objs.size) → (∀ x y c, (x, c) ∈ acc → (y, c) ∈ acc → x = y) →
    (x, c) ∈ cellsFrom h.objs.size names acc → (y, c) ∈ cellsFrom h.objs.size names acc → x = y
  | [], _, _, _, _, _, _, hi, h1, h2 => hi _ _ _ h1 h2
  | (n, k) :: r, h, acc, x, y, c, hl, hi, h1, h2 => by
    unfold cellsFrom at h1 h2
    split at h1
    · rename_i hk
      rw [if_pos hk] at h2
      rw [← Heap.size_push h { cls := .type "cell", data := .cell none }] at h1 h2
      refine cells_inj (h := h.push _) (fun p hp => ?_) (fun x y c a b => ?_) h1 h2
      · rw [Heap.size_push]
        rcases List.mem_cons.mp hp with rfl | hp
        · exact Nat.lt_succ_self _
        · exact Nat.lt_succ_of_lt (hl p hp)
      · rcases List.mem_cons.mp a with e | a <;> rcases List.mem_cons.mp b with e' | b
        · cases e; cases e'; rfl
        · cases e; exact absurd (hl _ b) (Nat.lt_irrefl _)
        · cases e'; exact absurd (hl _ a) (Nat.lt_irrefl _)
        · exact hi _ _ _ a b
    · rename_i hk
      rw [if_neg hk] at h2
      exact cells_inj hl hi h1 h2

theorem newEnv_comp {M : Model} {A : Around} {E : Value → Shared → Prop} {s : Shared} {scope : Scope} {globals : Addr} {closure : List (Str × Addr)} {qual : Str} {func : Option Addr} {code : Value} {around : Env} {builtins : Addr} {Q : Env → Shared → Prop}
    (h : Q (newEnv scope s.heap.objs.size globals (cellsFrom (s.heap.objs.size + 1) scope.names closure) qual func code (some around) builtins)
      { s with heap := pushCells (s.heap.push { cls := .type "dict", data := .dict #[] }) scope.names }) :
    wpAny M A (newFunctionEnv scope globals closure [] qual func code (some around) builtins) Q E s := by
  simp only [newFunctionEnv, Option.isSome_some, if_true]
  refine wpAny_bind (wpAny_alloc ?_)
  refine wpAny_bind (wpAny_layCells _ (fun n k c => rfl) scope.names closure _ _ ?_)
  rw [show ({ s with heap := s.heap.push { cls := .type "dict", data := .dict #[] } } : Shared).heap.objs.size = s.heap.objs.size + 1 from Heap.size_push ..]
  rw [List.forIn_nil]
  exact wpAny_bind (wpAny_pure (wpAny_pure h))

/-- every name of the written scope, in the scope that runs -/
theorem lookup_relS {sc : Scope} : ∀ {names : List (Str × NameKind)} {x : Str} {k : NameKind},
    (names.map fun (n, k) => if (k == NameKind.free && sc.kind == .function && sc.names.lookup n == some .cell) then (n, NameKind.cell) else (n, k)).lookup x = some k →
    ∃ k', names.lookup x = some k' ∧ (k = k' ∨ (k' = .free ∧ k = .cell))
  | [], _, _, h => by simp at h
  | (n, k₀) :: r, x, k, h => by
    have ih := @lookup_relS sc r x k
    have h' : List.lookup x ((if (k₀ == NameKind.free && sc.kind == .function && sc.names.lookup n == some .cell) = true then (n, NameKind.cell) else (n, k₀)) :: (r.map _)) = some k := h
    cases hx : x == n with
    | true =>
      simp only [List.lookup_cons, hx]
      by_cases hc : (k₀ == NameKind.free && sc.kind == .function && sc.names.lookup n == some .cell) = true
      · rw [if_pos hc] at h'
        simp only [List.lookup_cons, hx] at h'
        cases h'
        simp only [Bool.and_eq_true, beq_iff_eq] at hc
        exact ⟨k₀, rfl, .inr ⟨hc.1.1, rfl⟩⟩
      · rw [if_neg hc] at h'
        simp only [List.lookup_cons, hx] at h'
        cases h'
        exact ⟨_, rfl, .inl rfl⟩
    | false =>
      simp only [List.lookup_cons, hx]
      by_cases hc : (k₀ == NameKind.free && sc.kind == .function && sc.names.lookup n == some .cell) = true
      · rw [if_pos hc] at h'
        simp only [List.lookup_cons, hx] at h'
        exact ih h'
      · rw [if_neg hc] at h'
        simp only [List.lookup_cons, hx] at h'
        exact ih h'



/-- the names of a comprehension's block: its own (with their places in N), or captured -/
structure BlkOk (N : List Str) (sc scope : Scope) (own : List (Str × Nat)) : Prop where
  kind : scope.kind = .function
  uniq : ∀ y ∈ scope.names, scope.names.lookup y.1 = some y.2
  ix : ∀ p ∈ own, N[p.2]? = some p.1
  free : ∀ y ∈ scope.names, y.2 = .free → sc.names.lookup y.1 = some .cell ∨ sc.names.lookup y.1 = some .free
  own : ∀ y ∈ scope.names, y.2 = .local ∨ y.2 = .cell → y.1 ∈ own.map (·.1) ∨ y.1 ∉ N
/-- the slots of the block's own names forgotten -/
def wipe (σ : St) : List Nat → St
  | [] => σ
  | v :: vs => (wipe σ vs).set v none
theorem wipe_length (σ : St) : ∀ vs : List Nat, (wipe σ vs).length = σ.length
  | [] => rfl
  | v :: vs => by unfold wipe; rw [List.length_set, wipe_length σ vs]
theorem wipe_some {σ : St} {i : Nat} {x : V} : ∀ {vs : List Nat}, (wipe σ vs)[i]? = some (some x) → σ[i]? = some (some x) ∧ i ∉ vs
  | [], h => ⟨h, by simp⟩
  | v :: vs, h => by
    unfold wipe at h
    by_cases hi : v = i
    · subst hi
      by_cases hv : v < (wipe σ vs).length
      · rw [List.getElem?_set_self hv] at h; cases h
      · rw [List.getElem?_eq_none (by simpa using hv)] at h; cases h
    · rw [List.getElem?_set_ne hi] at h
      obtain ⟨h1, h2⟩ := wipe_some h
      exact ⟨h1, by simp only [List.mem_cons, not_or]; exact ⟨fun e => hi e.symm, h2⟩⟩

/-- the context of a block that starts at s, its iterator's objects at fp -/
abbrev Cx.blk (X : Cx) (s : Shared) (H : Hp) (scope : Scope) (cenv : Env) (fp : List Addr) : Cx := { X with s_0 := s, H_0 := H, env := cenv, outer := X.stack, ex := fp, fn := fun x => scope.names.lookup x == some .cell, pn := [], xe := fun _ _ => False }
section
variable {X : Cx} {pins : List (Addr × Obj)} {σ : St} {H : Hp} {s : Shared}
theorem block_start {scope : Scope} {own : List (Str × Nat)} {fp : List Addr} (I : Inv X pins σ H s) (ok : BlkOk X.N X.env.scope scope own) (hN : X.N.Nodup) (hfp : ∀ b ∈ fp, FpOk X pins H b ∧ b < s.heap.objs.size) :
    Inv (X.blk s H scope (compEnvC scope (cellsFrom (s.heap.objs.size + 1) scope.names (cloFrom X.env.cells scope.names [])) s.heap.objs.size X.env) fp) [] (wipe σ (own.map (·.2))) H { s with heap := pushCells (s.heap.push { cls := .type "dict", data := .dict #[] }) scope.names } := by
  have hfree : ∀ y ∈ scope.names, y.2 = .free → ∃ c, X.env.cells.lookup y.1 = some c := fun y hy e => by
    rcases ok.free y hy e with k | k
    · exact I.ok.has _ (.inl k)
    · exact I.ok.has _ (.inr k)
  generalize hcenv : compEnvC scope (cellsFrom (s.heap.objs.size + 1) scope.names (cloFrom X.env.cells scope.names [])) s.heap.objs.size X.env = cenv
  have kp : ∀ b o, s.heap.get? b = some o → (pushCells (s.heap.push { cls := .type "dict", data := .dict #[] }) scope.names).get? b = some o := fun b o e => pushCells_keeps _ _ _ _ (Heap.get?_push_of_some _ e)
  have hL : cenv.locals = s.heap.objs.size := by rw [← hcenv]; rfl
  have hcl : cenv.cells = cellsFrom (s.heap.objs.size + 1) scope.names (cloFrom X.env.cells scope.names []) := by rw [← hcenv]; rfl
  have hsc : cenv.scope = relS scope X.env.scope := by rw [← hcenv]; rfl
  rw [← Heap.size_push s.heap { cls := .type "dict", data := .dict #[] }] at hcl
  have cm : ∀ {y c}, (y, c) ∈ cloFrom X.env.cells scope.names [] → X.env.cells.lookup y = some c ∧ c < s.heap.objs.size := fun {y c} hm => by
    rcases cloFrom_mem hm with hm | ⟨h1, rfl⟩
    · cases hm
    · obtain ⟨c, hc⟩ := hfree _ h1 rfl
      rw [hc]
      obtain ⟨w, z⟩ := I.cell _ _ hc
      exact ⟨rfl, z.lt⟩
  have mem : ∀ {y c}, cenv.cells.lookup y = some c → (X.env.cells.lookup y = some c ∧ c < s.heap.objs.size) ∨ (s.heap.objs.size + 1 ≤ c ∧ CellAt (pushCells (s.heap.push { cls := .type "dict", data := .dict #[] }) scope.names) c none) := fun {y c} e => by
    rw [hcl] at e
    rcases cells_mem (PySem.mem_of_lookup e) with hm | ⟨_, h2, h3⟩
    · exact .inl (cm hm)
    · rw [Heap.size_push] at h2; exact .inr ⟨h2, h3⟩
  have look : ∀ {y}, scope.names.lookup y = some .free → ∃ c, cenv.cells.lookup y = some c ∧ X.env.cells.lookup y = some c := fun {y} hl => by
    have hy : (y, NameKind.free) ∈ scope.names := PySem.mem_of_lookup hl
    obtain ⟨c', e'⟩ := mem_lookup (cells_acc (names := scope.names) (n := (s.heap.push { cls := .type "dict", data := .dict #[] }).objs.size) (cloFrom_has (cells := X.env.cells) (acc := []) hy))
    rw [← hcl] at e'
    refine ⟨c', e', ?_⟩
    rw [hcl] at e'
    rcases cells_mem (PySem.mem_of_lookup e') with hm | ⟨h1, _, _⟩
    · exact (cm hm).1
    · have := ok.uniq _ h1
      rw [hl] at this; cases this
  have okB : (X.blk s H scope cenv fp).Ok := by
    refine ⟨I.ok.mod, by show cenv.scope.kind = _; rw [hsc]; exact ok.kind, by show cenv.globals = _; rw [← hcenv]; exact I.ok.glob, by show cenv.builtins = _; rw [← hcenv]; exact I.ok.blt, by show s.heap.objs.size ≤ cenv.locals; rw [hL]; exact Nat.le_refl _,
      fun y z c e1 e2 => ?_, fun y hy => ?_, fun y c z e => ?_, I.ok.hd, I.ok.frames, .inl rfl, fun b hb => ⟨?_, fun y c e z => ?_⟩, I.bs, Nat.le_trans I.ok.bsz I.sz, fun b o e hb => ?_, fun b hb z => ?_, I.stack, I.stkFree⟩
    · have e1 : cenv.cells.lookup y = some c := e1
      have e2 : cenv.cells.lookup z = some c := e2
      rw [hcl] at e1 e2
      refine cells_inj (fun p hp => ?_) (fun y z c a b => I.ok.inj y z c (cm a).1 (cm b).1) (PySem.mem_of_lookup e1) (PySem.mem_of_lookup e2)
      rw [Heap.size_push]
      exact Nat.lt_succ_of_lt (cm (y := p.1) (c := p.2) hp).2
    · show ∃ c, cenv.cells.lookup y = some c
      have key : ∀ k, cenv.kindOf y = some k → (k = .cell ∨ k = .free) → ∃ c, cenv.cells.lookup y = some c := fun k hk hk' => by
        unfold Env.kindOf at hk
        rw [hsc] at hk
        obtain ⟨k', e, r⟩ := lookup_relS hk
        have : k' = .cell ∨ k' = .free := by
          rcases r with rfl | ⟨rfl, _⟩
          · exact hk'
          · exact .inr rfl
        rcases this with rfl | rfl
        · obtain ⟨c, hm⟩ := cells_has (n := (s.heap.push { cls := .type "dict", data := .dict #[] }).objs.size) (acc := cloFrom X.env.cells scope.names []) (PySem.mem_of_lookup e)
          obtain ⟨c', e'⟩ := mem_lookup hm
          exact ⟨c', by rw [hcl]; exact e'⟩
        · obtain ⟨c, h1, _⟩ := look e
          exact ⟨c, h1⟩
      rcases hy with hy | hy
      · exact key _ hy (.inl rfl)
      · exact key _ hy (.inr rfl)
    · have z : (scope.names.lookup y == some NameKind.cell) = true := z
      have z : scope.names.lookup y = some .cell := by simpa using z
      have e : cenv.cells.lookup y = some c := e
      rw [hcl] at e
      rcases cells_mem (PySem.mem_of_lookup e) with hm | ⟨_, h2, _⟩
      · rcases cloFrom_mem hm with hm | ⟨h1, _⟩
        · cases hm
        · have q := ok.uniq _ h1
          rw [z] at q; cases q
      · rw [Heap.size_push] at h2
        exact Nat.le_of_succ_le h2
    · show b ≠ cenv.locals
      rw [hL]; exact Nat.ne_of_lt (hfp b hb).2
    · have e : cenv.cells.lookup y = some c := e
      rcases mem e with ⟨h1, _⟩ | ⟨h1, _⟩
      · exact (hfp b hb).1.2.2.2.2.1 y c h1 z
      · have h2 : s.heap.objs.size + 1 ≤ b := by rw [← z]; exact h1
        exact absurd (Nat.lt_of_lt_of_le (hfp b hb).2 (Nat.le_of_succ_le h2)) (Nat.lt_irrefl _)
    · rcases (hfp b hb).1.2.2.2.1 with z | z
      · exact I.ok.noex b o e z
      · exact absurd (Nat.lt_of_lt_of_le (Heap.lt_size e) (Nat.le_trans I.ok.bsz z)) (Nat.lt_irrefl _)
    · rcases List.mem_cons.mp (I.stkSub b z) with z | z
      · exact (hfp b hb).1.2.1 z
      · exact (hfp b hb).1.2.2.1 z
  refine ⟨okB, rfl, I.bare, Un.kept kp, ⟨fun _ => none, ?_, fun i y av e1 e2 e3 => ?_⟩, fun y c e => ?_, ?_, fun y c e => ?_, fun p hp => ?_, I.hok.kept kp, by rw [wipe_length]; exact I.len⟩
  · show Heap.Ns _ cenv.locals _
    rw [hL]
    exact Heap.Ns.keeps (Heap.Ns.new ..) fun b o e => pushCells_keeps _ _ _ _ e
  · obtain ⟨e2, hne⟩ := wipe_some e2
    have hfr : scope.names.lookup y = some .free ∧ (cenv.kindOf y = some .cell ∨ cenv.kindOf y = some .free) := by
      have key : ∀ k, cenv.scope.names.lookup y = some k → k = .local ∨ k = .cell ∨ k = .free → scope.names.lookup y = some .free ∧ (cenv.kindOf y = some .cell ∨ cenv.kindOf y = some .free) := fun k hk hk' => by
        have hk0 := hk
        rw [hsc] at hk
        obtain ⟨k', e, r⟩ := lookup_relS hk
        have no : ¬ (k' = .local ∨ k' = .cell) := fun hh => by
          rcases ok.own _ (PySem.mem_of_lookup e) hh with e' | e'
          · obtain ⟨p, hp, hpy⟩ := List.mem_map.mp e'
            have e3 := ok.ix p hp
            have : p.1 = y := hpy
            rw [this] at e3
            exact hne (List.mem_map.mpr ⟨p, hp, nodup_ix hN e3 e1⟩)
          · exact e' (List.mem_of_getElem? e1)
        rcases r with rfl | ⟨rfl, rfl⟩
        · rcases hk' with rfl | rfl | rfl
          · exact absurd (.inl rfl) no
          · exact absurd (.inr rfl) no
          · exact ⟨e, .inr hk0⟩
        · exact ⟨e, .inl hk0⟩
      have e3 : Vis cenv.scope y := e3
      rcases e3 with e3 | e3 | e3
      · exact key _ e3 (.inl rfl)
      · exact key _ e3 (.inr (.inl rfl))
      · exact key _ e3 (.inr (.inr rfl))
    obtain ⟨m, hn, hl⟩ := I.loc
    have hvis : Vis X.env.scope y := (ok.free _ (PySem.mem_of_lookup hfr.1) rfl).elim (fun k => .inr (.inl k)) (fun k => .inr (.inr k))
    obtain ⟨w, r, q⟩ := hl i y av e1 e2 hvis
    refine ⟨w, r, .inr ⟨hfr.2, ?_⟩⟩
    obtain ⟨c, h1, h2⟩ := look hfr.1
    rcases q with ⟨k, _⟩ | ⟨_, c', e', z⟩
    · have k : X.env.scope.names.lookup y = some .local := k
      rcases ok.free _ (PySem.mem_of_lookup hfr.1) rfl with k' | k' <;> rw [show X.env.scope.names.lookup y = _ from k'] at k <;> cases k
    · rw [h2] at e'; cases e'
      exact ⟨c, h1, z.keeps kp⟩
  · have e : cenv.cells.lookup y = some c := e
    rcases mem e with ⟨h1, _⟩ | ⟨_, z⟩
    · obtain ⟨w, z⟩ := I.cell y c h1
      exact ⟨w, z.keeps kp⟩
    · exact ⟨_, z⟩
  · show H cenv.locals = none
    rw [hL]; exact I.hok.fresh (Nat.le_refl _)
  · have e : cenv.cells.lookup y = some c := e
    rcases mem e with ⟨h1, _⟩ | ⟨h1, _⟩
    · exact I.freeC y c h1
    · exact I.hok.fresh (Nat.le_of_succ_le h1)
  · exact absurd (show p ∈ ([] : List (Addr × Obj)) ++ [] from hp) (by simp)

/-- an item appended to a tracked list -/
theorem app_ok {E : Value → Shared → Prop} {D : Addr} {xs : List V} {y : V} {v : Value} {Q : Value → Shared → Prop} (I : Inv X pins σ H s) (hD : H D = some (.lst xs)) (hz : xs.length < sizeLine) (r : RelV y v)
    (h : ∀ s', Inv X pins σ (upd H D (.lst (xs ++ [y]))) s' → Q .none s') : wpAny (model X.prog X.w) X.A (call (.builtin "list.append") [.ref D, v]) Q E s := by
  obtain ⟨hz', its, n, ri, e⟩ := I.hok D _ hD
  have hl := ri.length
  refine append_at (hsz := by rw [List.size_toArray]; omega) e fun h' sb ho' => ?_
  refine h { s with heap := h' } (I.write (t' := s.toks) (by rw [hD]; trivial) (.inl rfl) (fun b u hb q => (sb.2 b hb).trans q) ⟨_, ho'⟩ ⟨by rw [List.length_append]; exact hz, its ++ [v], n + 1, ri.append (.cons r .nil), ?_⟩)
  rw [ho']
  simp

/-- a clause's tests -/
def PTs (X : Cx) (ifs : List Expr) (t : TT) : Prop :=
  ∀ (pins : List (Addr × Obj)) (s : Shared) (σ : St) (H : Hp) (Q : Bool → Hp → Prop), Inv X pins σ H s → t σ H Q →
    wpAny (model X.prog X.w) X.A (forIn ifs true fun c r => if r = true then do let ok ← isTrue c X.env (eval c X.env); pure (ForInStep.yield ok) else pure (ForInStep.yield r)) (TP X pins σ Q) X.xe s
def tYes : TT := fun _ H Q => Q true H
theorem pts_nil : PTs X [] tYes := fun _ _ _ H _ I h => wpAny_tests_nil ⟨H, I, h⟩
end

theorem thnF {α : Type} {t : Sem α} {Q Q' : α → Shared → Prop} {M : Model} {A : Around} {E : Value → Shared → Prop} {s : Shared} (h : wpAny M A t Q (fun _ _ => False) s) (hQ : ∀ a s, Q a s → Q' a s) : wpAny M A t Q' E s := wpAny_mono h hQ fun _ _ z => False.elim z

/-- the loop of a list comprehension's block, the target of any form (codeAny_compLoop_tests asks a target that no tuple goes to; statement and proof follow it, PyProof/CompMap.lean:41-61, with the step letOwnedTupleGo kept) -/
theorem compLoop_any {prog : Program} {w : World} {A : Around} {R : Result → Shared → Prop} {s : Shared} {elt target iter : Expr} {ifs : List Expr} {scope : Scope} {pos : Pos} {it acc : Value} {env : Env} (I : Nat → Shared → Prop)
    (turn : ∀ n s, I n s → wpAny (model prog w) A (pyNext it) (fun r s₁ => match r with
      | none => R (.ok .next) s₁
      | some v => wpAny (model prog w) A (letOwnedTupleGo target it v) (fun _ s₁' => wpAny (model prog w) A (assign target env v) (fun _ s₂ =>
          wpAny (model prog w) A (forIn ifs true fun c r => if r = true then do let ok ← isTrue c env (eval c env); pure (ForInStep.yield ok) else pure (ForInStep.yield r)) (fun ok s₃ =>
            if ok = true then wpAny (model prog w) A (eval elt env) (fun x s₄ =>
              wpAny (model prog w) A (call (.builtin "list.append") [acc, x]) (fun _ s₅ => ∃ m, m < n ∧ I m s₅) (notedBy (model prog w) A env fun e s' => R (.error e) s') s₄) (notedBy (model prog w) A env fun e s' => R (.error e) s') s₃
            else ∃ m, m < n ∧ I m s₃) (notedBy (model prog w) A env fun e s' => R (.error e) s') s₂) (notedBy (model prog w) A env fun e s' => R (.error e) s') s₁') (notedBy (model prog w) A env fun e s' => R (.error e) s') s₁) (notedBy (model prog w) A env fun e s' => R (.error e) s') s)
    (n : Nat) (h : I n s) :
    codeAny (model prog w) A (.compLoop (.ListComp elt [⟨target, iter, ifs, 0⟩] scope pos) 0 it acc env) R s := by
  refine codeAny_loop rfl I (fun n s hI => ?_) n h
  show wpAny _ A ((compTurn (.ListComp elt [⟨target, iter, ifs, 0⟩] scope pos) 0 it acc env).onRaise (fun x => do noteFrame x env; theTreesLotGoes x)) _ _ s
  refine wpAny_noted ?_
  rw [compTurn_list]
  refine wpAny_bind (wpAny_standAt (wpAny_bind (wpAny_mono (turn n s hI) (fun r s₁ h₁ => ?_) fun _ _ h' => h')))
  cases r with
  | none => exact wpAny_pure h₁
  | some v =>
    refine wpAny_bind (wpAny_mono h₁ (fun _ s₁' h₁' => ?_) fun _ _ h' => h')
    refine wpAny_bind (wpAny_mono h₁' (fun _ s₂ h₂ => wpAny_bind (wpAny_mono h₂ (fun ok s₃ h₃ => ?_) fun _ _ h' => h')) fun _ _ h' => h')
    cases ok with
    | false => exact wpAny_pure ⟨rfl, h₃⟩
    | true =>
      exact wpAny_bind (wpAny_bind (wpAny_mono h₃ (fun x s₄ h₄ => wpAny_bind (wpAny_mono h₄ (fun _ s₅ h₅ => wpAny_pure (wpAny_pure ⟨rfl, h₅⟩)) fun _ _ h' => h')) fun _ _ h' => h'))

section
variable {X : Cx}
/-- [elt for target in iter if ..]: D the new list; W by the turn and a measure, Nx what a turn is to reach -/
def tLc (wi : TI) (g : TG) (tt : TT) (te : TE) (vs : List Nat) : TE := fun σ H Q => wi σ H fun J H1 => ∀ D, H1 D = none → ∃ W : Nat → Nat → Hp → Prop, (∃ m, W 0 m (upd H1 D (.lst []))) ∧ ∀ i m H, W i m H →
  (J.stop i H ∧ Q (.ref D) H) ∨ (J.go i H ∧ ∃ Nx : Hp → Prop, (∀ H', Nx H' → ∃ m', m' < m ∧ W (i + 1) m' H') ∧ ∀ x H', J.yld i H x H' → g x (wipe σ vs) H' fun σ2 H2 => wipe σ2 vs = wipe σ vs ∧ tt σ2 H2 fun b H3 =>
    if b = true then te σ2 H3 fun y H4 => ∃ acc, H4 D = some (.lst acc) ∧ acc.length < sizeLine ∧ Nx (upd H4 D (.lst (acc ++ [y]))) else Nx H3)
theorem lc_core {pins : List (Addr × Obj)} {s : Shared} {σ : St} {H : Hp} {Q : VK} {elt tg iter : Expr} {ifs : List Expr} {scope : Scope} {own : List (Str × Nat)} {pos pos' : Pos} {wi : TI} {g : TG} {tt : TT} {te : TE} {use : Option (Value → Sem Unit)} {Qf : Value → Shared → Prop}
    (hc : X.calm = true) (hN : X.N.Nodup) (I : Inv X pins σ H s) (hi : PI X tg iter wi) (ok : BlkOk X.N X.env.scope scope own)
    (hg : ∀ (s : Shared) (H : Hp) (C : Addr) (cl : List (Str × Addr)) (fp : List Addr), PG (X.blk s H scope (compEnvC scope cl C X.env) fp) tg g) (ht : ∀ (s : Shared) (H : Hp) (C : Addr) (cl : List (Str × Addr)) (fp : List Addr), PTs (X.blk s H scope (compEnvC scope cl C X.env) fp) ifs tt)
    (he : ∀ (s : Shared) (H : Hp) (C : Addr) (cl : List (Str × Addr)) (fp : List Addr), PE (X.blk s H scope (compEnvC scope cl C X.env) fp) elt te) (hs : ∀ x, foldedSetIterable iter X.env x = pure x)
    (h : tLc wi g tt te (own.map (·.2)) σ H Q)
    (hRR : ∀ D C s' m H', Inv X pins σ H' s' → Q (.ref D) H' → s'.heap.Ns C m → FpOk X pins H' C → compPost (model X.prog X.w) X.A X.xe use Qf (.ref D) C (.ok .next) s') :
    wpAny (model X.prog X.w) X.A (comprehension (.ListComp elt [⟨tg, iter, ifs, 0⟩] scope pos) scope X.env pos' (newList []) false (eval iter X.env) use) Qf X.xe s := by
  have hfree : ∀ y ∈ scope.names, y.2 = .free → ∃ c, X.env.cells.lookup y.1 = some c := fun y hy e => by
    rcases ok.free y hy e with k | k
    · exact I.ok.has _ (.inl k)
    · exact I.ok.has _ (.inr k)
  refine wpAny_comprehension_free (use := use) rfl hs (closure_ok hfree) ok.kind (fun y hy e => by rw [ok.uniq y hy, e])
    (thn (hi pins s σ H _ I h) fun xv s1 hx => thn hx fun itv s2 h2 => ?_)
  obtain ⟨it, fp, tn, J, H2, e, I2, T, st2, f2, q⟩ := h2
  subst e
  refine wpAny_newObj_type (newEnv_comp ?_) (by show 0 ≤ sizeLine; decide)
  generalize hD : s2.heap.objs.size = D
  have hDn : H2 D = none := I2.hok.fresh (Nat.le_of_eq hD)
  obtain ⟨W, ⟨m0, w0⟩, turn⟩ := q D hDn
  -- the new list
  generalize hs3 : ({ s2 with heap := s2.heap.push { cls := .type "list", data := .seq ([] : List Value).toArray } } : Shared) = s3
  have I3 : Inv X pins σ (upd H2 D (.lst [])) s3 := by
    rw [← hs3]
    refine I2.laid (t' := s2.toks) (fun b o e => Heap.get?_push_of_some _ e) (Nat.le_of_eq hD) ⟨Nat.zero_le _, [], 0, .nil, ?_⟩
    rw [← hD]
    exact Heap.get?_push_size _ rfl
  have h3 : s3.heap = s2.heap.push { cls := .type "list", data := .seq ([] : List Value).toArray } := by rw [← hs3]
  have sz : ∀ b ∈ fp, b < s2.heap.objs.size := fun b hb => by
    obtain ⟨o, e, _⟩ := T.obj _ _ st2 b hb
    exact Heap.lt_size e
  have f3 : ∀ b ∈ fp, FpOk X pins (upd H2 D (.lst [])) b ∧ b < s3.heap.objs.size := fun b hb => by
    have hlt := sz b hb
    refine ⟨⟨?_, (f2 b hb).2⟩, by rw [h3, Heap.size_push]; exact Nat.lt_succ_of_lt hlt⟩
    rw [upd_ne (by rw [← hD]; exact Nat.ne_of_lt hlt)]
    exact (f2 b hb).1
  have st3 : tn 0 s3.heap := T.keep _ _ _ st2 fun b _ o e => by rw [h3]; exact Heap.get?_push_of_some _ e
  have I4 := block_start I3 ok hN f3
  have pg := hg s3 (upd H2 D (.lst [])) s3.heap.objs.size (cellsFrom (s3.heap.objs.size + 1) scope.names (cloFrom X.env.cells scope.names [])) fp
  have pt := ht s3 (upd H2 D (.lst [])) s3.heap.objs.size (cellsFrom (s3.heap.objs.size + 1) scope.names (cloFrom X.env.cells scope.names [])) fp
  have pe := he s3 (upd H2 D (.lst [])) s3.heap.objs.size (cellsFrom (s3.heap.objs.size + 1) scope.names (cloFrom X.env.cells scope.names [])) fp
  show codeAny _ _ (.compStart (.ListComp elt [⟨tg, iter, ifs, 0⟩] scope pos) 0 (.ref it) (.ref D) (compEnvC scope (cellsFrom (s3.heap.objs.size + 1) scope.names (cloFrom X.env.cells scope.names [])) s3.heap.objs.size X.env)) (compPost (model X.prog X.w) X.A X.xe use Qf (.ref D) s3.heap.objs.size) { s3 with heap := pushCells (s3.heap.push { cls := .type "dict", data := .dict #[] }) scope.names }
  have nfp : ∀ b ∈ fp, (upd H2 D (.lst [])) b = none := fun b hb => (f3 b hb).1.1
  generalize hce : compEnvC scope (cellsFrom (s3.heap.objs.size + 1) scope.names (cloFrom X.env.cells scope.names [])) s3.heap.objs.size X.env = ce at I4 pg pt pe ⊢
  have cL : ce.locals = s3.heap.objs.size := by subst hce; rfl
  generalize hH3 : upd H2 D (.lst []) = H3 at I3 I4 pg pt pe w0 nfp f3
  generalize hs4 : ({ s3 with heap := pushCells (s3.heap.push { cls := .type "dict", data := .dict #[] }) scope.names } : Shared) = s4 at I4 ⊢
  have st4 : tn 0 s4.heap := T.keep _ _ _ st3 fun b _ o e => by rw [← hs4]; exact pushCells_keeps _ _ _ _ (Heap.get?_push_of_some _ e)
  have stat : ∀ {σ' : St} {H' : Hp} {s' : Shared}, Inv (X.blk s3 H3 scope ce fp) [] σ' H' s' → (∀ b ∈ fp, H' b = none) → ∀ b ∈ fp, FpOk (X.blk s3 H3 scope ce fp) [] H' b := fun {σ' H' s'} I' hn b hb =>
    ⟨hn b hb, (I'.ok.exf b hb).1, I'.ok.exfs b hb, .inl hb, fun x c e => (I'.ok.exf b hb).2 x c e, fun p hp => absurd (show p ∈ ([] : List (Addr × Obj)) ++ [] from hp) (by simp)⟩
  have loop : codeAny (model X.prog X.w) X.A (.compLoop (.ListComp elt [⟨tg, iter, ifs, 0⟩] scope pos) 0 (.ref it) (.ref D) ce) (compPost (model X.prog X.w) X.A X.xe use Qf (.ref D) s3.heap.objs.size) s4 := by
    refine compLoop_any (fun n s' => ∃ i H', Inv (X.blk s3 H3 scope ce fp) [] (wipe σ (own.map (·.2))) H' s' ∧ tn i s'.heap ∧ (∀ b ∈ fp, H' b = none) ∧ W i n H') ?_ m0 ⟨0, H3, I4, st4, nfp, w0⟩
    rintro n s5 ⟨i, H5, I5, st5, n5, w5⟩
    rcases turn i n H5 w5 with ⟨stop, qq⟩ | ⟨go, Nx, hNx, step⟩
    · have td := T.done (X.blk s3 H3 scope ce fp) rfl rfl rfl hc i [] s5 _ H5 (fun _ _ => False) I5 (stat I5 n5) st5 stop
      refine thnF td fun r s6 ⟨hr, I6⟩ => ?_
      subst hr
      -- back in the def's context
      have I7 : Inv X pins σ H5 s6 := I3.call' (ch := fp) I6.os I6.base I6.hok I6.bare fun b hb => ⟨(f3 b hb).1.2.2.2.1, (f3 b hb).1.2.1, (f3 b hb).1.2.2.2.2.1, (f3 b hb).1.2.2.2.2.2⟩
      have nC : H5 s3.heap.objs.size = none := by
        have z : H5 ce.locals = none := I6.free
        rw [cL] at z
        exact z
      obtain ⟨m, hn, _⟩ := I6.loc
      have hn : s6.heap.Ns ce.locals m := hn
      rw [cL] at hn
      exact hRR D s3.heap.objs.size s6 m H5 I7 qq hn (I3.fpOk (Nat.le_refl _) nC)
    · have ti := T.item (X.blk s3 H3 scope ce fp) rfl rfl rfl hc i [] s5 _ H5 (fun _ _ => False) I5 (stat I5 n5) st5 go
      refine thnF ti fun r s6 ⟨u, hr, h6⟩ => ?_
      subst hr
      refine thnF h6 fun _ s7 ⟨x, H7, I7, r7, y7, st7, n7⟩ => ?_
      have I7' := I7.pinned (stat I7 n7) (T.obj _ _ st7)
      refine thnF (pg _ s7 _ H7 x u _ I7' r7 (step x H7 y7)) fun _ s8 ⟨σ8, H8, I8, hw8, q8⟩ => ?_
      refine thnF (pt _ s8 σ8 H8 _ I8 q8) fun b s9 ⟨H9, I9, q9⟩ => ?_
      -- the turn's end
      have fin : ∀ {s' : Shared} {H' : Hp}, Inv (X.blk s3 H3 scope ce fp) ([] ++ pinsAt fp s7.heap) σ8 H' s' → Nx H' → ∃ m, m < n ∧ ∃ i H', Inv (X.blk s3 H3 scope ce fp) [] (wipe σ (own.map (·.2))) H' s' ∧ tn i s'.heap ∧ (∀ b ∈ fp, H' b = none) ∧ W i m H' := fun {s' H'} I' nx => by
        obtain ⟨m', hm, w'⟩ := hNx H' nx
        have pin' : ∀ b ∈ fp, ∀ o, s7.heap.get? b = some o → s'.heap.get? b = some o ∧ H' b = none := fun b hb o e =>
          let z := I'.pin (b, o) (List.mem_append_right _ (List.mem_append_right _ (mem_pinsAt hb e)))
          ⟨z.1, z.2.1⟩
        have hl : (wipe σ (own.map (·.2))).length = σ8.length := by rw [← hw8, wipe_length]
        refine ⟨m', hm, i + 1, H', (I'.unpinned (pins := [])).weak hl (fun j v e => ?_), T.keep _ _ _ st7 fun b hb o e => (pin' b hb o e).1, fun b hb => ?_, w'⟩
        · rw [← hw8] at e
          exact (wipe_some e).1
        · obtain ⟨o, e, _⟩ := T.obj _ _ st7 b hb
          exact (pin' b hb o e).2
      cases b with
      | false =>
        simp only [Bool.false_eq_true, if_false] at q9 ⊢
        exact fin I9 q9
      | true =>
        simp only [if_true] at q9 ⊢
        refine thnF (pe _ s9 σ8 H9 _ I9 q9) fun z s10 ⟨yv, H10, I10, r10, acc, hD10, hz10, nx⟩ => ?_
        exact app_ok (X := X.blk s3 H3 scope ce fp) I10 hD10 hz10 r10 fun s11 I11 => fin I11 nx
  exact codeAny_compStart_list loop (T.self X.A 0 _ _ _ st4 loop)
/-- as a value -/
theorem pe_lc {elt tg iter : Expr} {ifs : List Expr} {scope : Scope} {own : List (Str × Nat)} {pos : Pos} {wi : TI} {g : TG} {tt : TT} {te : TE} (hc : X.calm = true) (hN : X.N.Nodup) (hi : PI X tg iter wi) (ok : BlkOk X.N X.env.scope scope own)
    (hg : ∀ (s : Shared) (H : Hp) (C : Addr) (cl : List (Str × Addr)) (fp : List Addr), PG (X.blk s H scope (compEnvC scope cl C X.env) fp) tg g) (ht : ∀ (s : Shared) (H : Hp) (C : Addr) (cl : List (Str × Addr)) (fp : List Addr), PTs (X.blk s H scope (compEnvC scope cl C X.env) fp) ifs tt)
    (he : ∀ (s : Shared) (H : Hp) (C : Addr) (cl : List (Str × Addr)) (fp : List Addr), PE (X.blk s H scope (compEnvC scope cl C X.env) fp) elt te) (hs : ∀ x, foldedSetIterable iter X.env x = pure x := by intro _; rfl) :
    PE X (.ListComp elt [⟨tg, iter, ifs, 0⟩] scope pos) (tLc wi g tt te (own.map (·.2))) := by
  intro pins s σ H Q I h
  rw [eval_ListComp]
  refine lc_core hc hN I hi ok hg ht he hs h fun D C s' m H' I' q hn f => ⟨m, hn, fun h'' sb => ?_⟩
  obtain ⟨f0, f1, f2, f3, f4, f5⟩ := f
  exact ⟨.ref D, H', I'.turned (t' := s'.toks) (fun b o hb e => (sb.2 b hb).trans e) f0 f1 f3 f4 f5, rfl, q⟩
end

/-! ### the forms one uses -/
/-- over a range: Pv by the turn and the heap (the new list at D within) -/
theorem lc_range {lo : Int} {n : Nat} {g : TG} {tt : TT} {te : TE} {vs : List Nat} {σ : St} {H1 : Hp} {D : Addr} {Qd : Hp → Prop} (Pv : Nat → Hp → Prop) (h0 : Pv 0 (upd H1 D (.lst [])))
    (hs : ∀ i H, i < n → Pv i H → g (.int (lo + i)) (wipe σ vs) H fun σ2 H2 => wipe σ2 vs = wipe σ vs ∧ tt σ2 H2 fun b H3 =>
      if b = true then te σ2 H3 fun y H4 => ∃ acc, H4 D = some (.lst acc) ∧ acc.length < sizeLine ∧ Pv (i + 1) (upd H4 D (.lst (acc ++ [y]))) else Pv (i + 1) H3) (hd : ∀ H, Pv n H → Qd H) :
    ∃ W : Nat → Nat → Hp → Prop, (∃ m, W 0 m (upd H1 D (.lst []))) ∧ ∀ i m H, W i m H →
      ((Itr lo n).stop i H ∧ Qd H) ∨ ((Itr lo n).go i H ∧ ∃ Nx : Hp → Prop, (∀ H', Nx H' → ∃ m', m' < m ∧ W (i + 1) m' H') ∧ ∀ x H', (Itr lo n).yld i H x H' → g x (wipe σ vs) H' fun σ2 H2 => wipe σ2 vs = wipe σ vs ∧ tt σ2 H2 fun b H3 =>
        if b = true then te σ2 H3 fun y H4 => ∃ acc, H4 D = some (.lst acc) ∧ acc.length < sizeLine ∧ Nx (upd H4 D (.lst (acc ++ [y]))) else Nx H3) := by
  refine ⟨fun i m H => m = n - i ∧ i ≤ n ∧ Pv i H, ⟨n, by simp, Nat.zero_le _, h0⟩, ?_⟩
  rintro i m H ⟨rfl, hi, p⟩
  by_cases hlt : i < n
  · refine .inr ⟨hlt, Pv (i + 1), fun H' p' => ⟨n - (i + 1), by omega, rfl, hlt, p'⟩, fun x H' y => ?_⟩
    obtain ⟨e, y⟩ := y
    subst e y
    exact hs i _ hlt p
  · have e : i = n := by omega
    subst e
    exact .inl ⟨Nat.le_refl _, hd H p⟩
/-- over a list that the block leaves as it is -/
theorem lc_list {K : PySem.W.Frag} {a : Addr} {xs : List V} {g : TG} {tt : TT} {te : TE} {vs : List Nat} {σ : St} {H1 : Hp} {D : Addr} {Qd : Hp → Prop} (Pv : Nat → Hp → Prop) (h0 : Pv 0 (upd H1 D (.lst []))) (hl : ∀ i H, i ≤ xs.length → Pv i H → SqL K H a xs)
    (hs : ∀ i x H, xs[i]? = some x → Pv i H → g x (wipe σ vs) H fun σ2 H2 => wipe σ2 vs = wipe σ vs ∧ tt σ2 H2 fun b H3 =>
      if b = true then te σ2 H3 fun y H4 => ∃ acc, H4 D = some (.lst acc) ∧ acc.length < sizeLine ∧ Pv (i + 1) (upd H4 D (.lst (acc ++ [y]))) else Pv (i + 1) H3) (hd : ∀ H, Pv xs.length H → Qd H) :
    ∃ W : Nat → Nat → Hp → Prop, (∃ m, W 0 m (upd H1 D (.lst []))) ∧ ∀ i m H, W i m H →
      ((Itl K a).stop i H ∧ Qd H) ∨ ((Itl K a).go i H ∧ ∃ Nx : Hp → Prop, (∀ H', Nx H' → ∃ m', m' < m ∧ W (i + 1) m' H') ∧ ∀ x H', (Itl K a).yld i H x H' → g x (wipe σ vs) H' fun σ2 H2 => wipe σ2 vs = wipe σ vs ∧ tt σ2 H2 fun b H3 =>
        if b = true then te σ2 H3 fun y H4 => ∃ acc, H4 D = some (.lst acc) ∧ acc.length < sizeLine ∧ Nx (upd H4 D (.lst (acc ++ [y]))) else Nx H3) := by
  refine ⟨fun i m H => m = xs.length - i ∧ i ≤ xs.length ∧ Pv i H, ⟨xs.length, by simp, Nat.zero_le _, h0⟩, ?_⟩
  rintro i m H ⟨rfl, hi, p⟩
  have q := hl i H hi p
  by_cases hlt : i < xs.length
  · refine .inr ⟨⟨xs, xs[i], q, by simp [hlt]⟩, Pv (i + 1), fun H' p' => ⟨xs.length - (i + 1), by omega, rfl, hlt, p'⟩, fun x H' y => ?_⟩
    obtain ⟨e, y⟩ := y
    subst e
    exact hs i x _ (y xs q) p
  · have e : i = xs.length := by omega
    subst e
    exact .inl ⟨⟨xs, q, Nat.le_refl _⟩, hd H p⟩
def blkC (N : List Str) (sc scope : Scope) (own : List (Str × Nat)) : Bool :=
  (match scope.kind with | .function => true | _ => false) && (scope.names.all fun y => decide (scope.names.lookup y.1 = some y.2)) && (own.all fun p => decide (N[p.2]? = some p.1)) &&
    (scope.names.all fun y => match y.2 with
      | .free => (match sc.names.lookup y.1 with | some .cell => true | some .free => true | _ => false)
      | .local => decide (y.1 ∈ own.map (·.1)) || decide (y.1 ∉ N)
      | .cell => decide (y.1 ∈ own.map (·.1)) || decide (y.1 ∉ N)
      | _ => true)
theorem blkOk_by {N : List Str} {sc scope : Scope} {own : List (Str × Nat)} (h : blkC N sc scope own = true) : BlkOk N sc scope own := by
  unfold blkC at h
  simp only [Bool.and_eq_true, List.all_eq_true, decide_eq_true_eq] at h
  obtain ⟨⟨⟨h1, h2⟩, h3⟩, h4⟩ := h
  refine ⟨?_, h2, h3, fun y hy e => ?_, fun y hy e => ?_⟩
  · split at h1
    · assumption
    · cases h1
  · have q := h4 y hy
    simp only [e] at q
    split at q <;> first | exact .inl (by assumption) | exact .inr (by assumption) | cases q
  · have q := h4 y hy
    rcases e with e | e <;> (simp only [e, Bool.or_eq_true, decide_eq_true_eq] at q; exact q)
end L2

namespace L2
open PySem PySem.Spec PyProof.Rows


section
variable {prog : Program} {w : World} {A : Around} {R : Result → Shared → Prop} {s : Shared} {elt t0 i0 t1 i1 : Expr} {ifs0 ifs1 : List Expr} {scope : Scope} {pos : Pos} {it acc : Value} {env : Env}
end

section
variable {X : Cx}
end
end L2

namespace L2
open PySem PySem.Spec PyProof.Rows

/-! ### lists of pairs as tables -/
section
variable {κ : Type} [DecidableEq κ]



end


/-! ### a tracked dict, its keys ints and texts or tuples of these -/


section
variable {P : Program} {w : World} {H : Hp} {h : Heap} {a : Addr}
end



section
variable {X : Cx} {pins : List (Addr × Obj)} {σ : St} {H : Hp} {s : Shared} {a : Addr} {y v : V} {u r : Value} {o : Option V} {A : Around} {E : Value → Shared → Prop}


end

section
variable {X : Cx} {pins : List (Addr × Obj)} {σ : St} {H : Hp} {s : Shared} {a : Addr} {kvs : List (Key × V)} {k : Key} {u : Value} {A : Around} {E : Value → Shared → Prop}
end


/-! ### readings and rules -/



section
variable {X : Cx} {o i e value : Expr} {pos pos' tpos : Pos} {td ty tv : TE}
end


/-! ### displays -/
section
variable {X : Cx} {pos : Pos}
end




/-! ### methods -/


section
variable {X : Cx} {pins : List (Addr × Obj)} {σ : St} {H : Hp} {s : Shared} {a : Addr} {y d : V} {u r : Value} {o : Option V} {A : Around} {E : Value → Shared → Prop}
end

section
variable {X : Cx} {o e f : Expr} {apos cpos : Pos} {td ty tx : TE}
end

/-! ### dict(d): a copy -/
section
variable {X : Cx} {pins : List (Addr × Obj)} {σ : St} {H : Hp} {s : Shared} {a : Addr} {kvs : List (Key × V)} {A : Around} {E : Value → Shared → Prop}
end


section
variable {X : Cx} {pins : List (Addr × Obj)} {σ : St} {H : Hp} {s : Shared} {a : Addr} {y : V} {u : Value} {A : Around} {E : Value → Shared → Prop}
end
end L2

namespace L2
open PySem PySem.Spec PyProof.Rows


section
variable {prog : Program} {w : World} {A : Around} {E : Value → Shared → Prop}


end

section
variable {X : Cx}
end
end L2

namespace L2
open PySem PySem.Spec PyProof.Rows

theorem boot_reversed5 : bootBuiltins "reversed" = some (.type "reversed") := by decide +kernel

section
variable {X : Cx} {pins : List (Addr × Obj)} {σ : St} {H : Hp} {s : Shared} {h' : Heap}
/-- several records of ours have turned -/
theorem Inv.turnedL {t' : Nat} {ch : List Addr} (I : Inv X pins σ H s) (k : ∀ b o, b ∉ ch → s.heap.get? b = some o → h'.get? b = some o) (hf : ∀ b ∈ ch, FpOk X pins H b) : Inv X pins σ H { s with heap := h', toks := t' } := by
  have nit : ∀ b u, H b = some u → b ∉ ch := fun b u e z => by
    have q := (hf b z).1
    rw [q] at e; cases e
  refine I.step (g' := s.gens) (d' := s.drawn) (ch := ch) (fun b hb => ⟨(hf b hb).2.2.2.1, (hf b hb).2.1, (hf b hb).2.2.2.2.1, (hf b hb).2.2.2.2.2⟩) (fun b o _ _ hc e _ => k b o hc e) (fun b o _ _ hc e _ => ⟨o.slots, k b o hc e⟩)
    (fun _ _ _ _ n => n) (fun b o hc e => ⟨o, k b o hc e⟩) (fun _ _ e => e) (fun _ _ _ e => e) (fun b ps e => ⟨#[], by rw [e]; simp⟩) (fun m hm => ?_) (fun b u e => ?_) I.bare
  · obtain ⟨o, es, ep, ho, r⟩ := hm
    exact ⟨o, es, ep, k _ o (fun z => (hf _ z).2.1 rfl) ho, r⟩
  · refine (I.hok b u e).stay (fun c v hc q => k c v ?_ q) (fun _ q => q) fun _ _ q => q
    rcases hc with z | z
    · rw [z]; exact nit b u e
    · exact nit c _ z
/-- .. and one new object is laid -/
theorem Inv.turnedNew {t' : Nat} {ch : List Addr} {T : Addr} {ob : HO} (I : Inv X pins σ H s) (k : ∀ b o, b ∉ ch → s.heap.get? b = some o → h'.get? b = some o) (hf : ∀ b ∈ ch, FpOk X pins H b) (hT : s.heap.objs.size ≤ T)
    (new : ObjOk X.prog X.w (upd H T ob) h' T ob) : Inv X pins σ (upd H T ob) { s with heap := h', toks := t' } := by
  have hn : H T = none := I.hok.fresh hT
  have nit : ∀ b u, H b = some u → b ∉ ch := fun b u e z => by
    have q := (hf b z).1
    rw [q] at e; cases e
  refine I.step (g' := s.gens) (d' := s.drawn) (ch := ch) (fun b hb => ⟨(hf b hb).2.2.2.1, (hf b hb).2.1, (hf b hb).2.2.2.2.1, (hf b hb).2.2.2.2.2⟩) (fun b o _ _ hc e _ => k b o hc e) (fun b o _ _ hc e _ => ⟨o.slots, k b o hc e⟩)
    (fun b o _ e n => ?_) (fun b o hc e => ⟨o, k b o hc e⟩) (fun b xs e => ?_) (fun b o u e => ?_) (fun b ps e => ⟨#[], ?_⟩) (fun m hm => ?_) (fun b u e => ?_) I.bare
  · rw [upd_ne (Nat.ne_of_lt (Nat.lt_of_lt_of_le (Heap.lt_size e) hT))]; exact n
  · rw [upd_ne (ne_of_none e hn)]; exact e
  · rw [upd_ne (ne_of_none e hn)]; exact e
  · rw [upd_ne (ne_of_none e hn), e]; simp
  · obtain ⟨o, es, ep, ho, r⟩ := hm
    exact ⟨o, es, ep, k _ o (fun z => (hf _ z).2.1 rfl) ho, r⟩
  · by_cases hb : b = T
    · subst hb
      rw [upd_same] at e
      cases e
      exact new
    · rw [upd_ne hb] at e
      refine (I.hok b u e).stay (fun c v hc q => k c v ?_ q) (fun c q => by rw [upd_ne (ne_of_none q hn)]; exact q) fun c xs q => by rw [upd_ne (ne_of_none q hn)]; exact q
      rcases hc with z | z
      · rw [z]; exact nit b u e
      · exact nit c _ z

/-! ### locking a thing while a statement runs -/
end
section
variable {X : Cx}

/-! ### one iterator just laid -/
theorem pi_one {tg : Expr} {pins : List (Addr × Obj)} {σ : St} {H : Hp} {s : Shared} {R : It → Hp → Prop} {J : It} {tn : Nat → Heap → Prop} {tk : Nat} (I : Inv X pins σ H s) (o : Obj)
    (T : Turn X.prog X.w X.K tg J [s.heap.objs.size] s.heap.objs.size tn) (st : tn 0 (s.heap.push o)) (q : R J H) : PIE X pins σ tg R (.ref s.heap.objs.size) { s with heap := s.heap.push o, toks := tk } := by
  refine ⟨s.heap.objs.size, [s.heap.objs.size], tn, J, H, rfl, I.kept fun b ob e => Heap.get?_push_of_some _ e, T, st, fun b hb => ?_, q⟩
  have e : b = s.heap.objs.size := by simpa using hb
  subst e
  exact I.fpOk (Nat.le_refl _) (I.hok.fresh (Nat.le_refl _))
end

/-! ### range with a step -/
section
variable {X : Cx} {tg : Expr}
end

/-! ### reversed(list) -/
/-- the list at a (n items at the start, which the loop leaves there), from its end -/
def Itv (K : PySem.W.Frag) (a : Addr) (n : Nat) : It :=
  ⟨fun i H => i < n ∧ ∃ (xs : List V) (x : V), SqL K H a xs ∧ xs[n - 1 - i]? = some x, fun i H x H' => H' = H ∧ ∀ xs, SqL K H a xs → xs[n - 1 - i]? = some x, fun i _ => n ≤ i⟩
theorem turn_rev {P : Program} {w : World} {K : PySem.W.Frag} {tg : Expr} (a it : Addr) (n : Nat) : Turn P w K tg (Itv K a n) [it] it (fun i h => i ≤ n ∧ h.IsRevIter it a ((n : Int) - 1 - (i : Nat))) where
  mem := by simp
  obj := fun i h st b hb => by
    have e : b = it := by simpa using hb
    subst e
    obtain ⟨_, o, e, c, d⟩ := st
    exact ⟨o, e, fun v z => by rw [d] at z; cases z⟩
  keep := fun i h h' st k => ⟨st.1, st.2.at fun o e => k it (by simp) o e⟩
  item := by
    intro X hP hw hK hc i pins s σ H E I hf st hg
    subst hP hw hK
    obtain ⟨hin, xs, x, hq, hx⟩ := hg
    obtain ⟨its, rv, p, hz⟩ := I.list hq
    obtain ⟨u, hu, ru⟩ := rv.get hx
    obtain ⟨f0, f1, f2, f3, f4, f5⟩ := hf it (by simp)
    obtain ⟨_, hit⟩ := st
    have e1 : (n : Int) - 1 - ((i : Nat) : Int) = ((n - 1 - i : Nat) : Int) := by omega
    rw [e1] at hit
    refine wpAny_pyNext_rev_item hit p.isList (x := u) (by simpa using hu) fun h' st' sb => ?_
    have e2 : ((n - 1 - i : Nat) : Int) - 1 = (n : Int) - 1 - ((i + 1 : Nat) : Int) := by omega
    rw [e2] at st'
    have I1 : Inv X pins σ H { s with heap := h' } := I.turned (t' := s.toks) (fun b o hb e => (sb.2 b hb).trans e) f0 f1 f3 f4 f5
    obtain ⟨o, e, c, d⟩ := id st'
    exact ⟨u, rfl, go_of (s := { s with heap := h' }) e c d (by decide) ⟨x, H, I1, ru, ⟨rfl, fun ys hy => by rw [I.list_inj hy hq]; exact hx⟩, ⟨hin, st'⟩, fun b hb => (hf b hb).1⟩⟩
  done := by
    intro X hP hw hK hc i pins s σ H E I hf st hg
    subst hP hw hK
    obtain ⟨f0, f1, f2, f3, f4, f5⟩ := hf it (by simp)
    obtain ⟨hin, hit⟩ := st
    have hge : n ≤ i := hg
    have e1 : (n : Int) - 1 - ((i : Nat) : Int) = -1 := by omega
    rw [e1] at hit
    exact wpAny_pyNext_rev_end (I.ok.hd hc) hit fun h' eb => ⟨rfl, I.turned (t' := s.toks) (fun b o hb e => eb b o hb e) f0 f1 f3 f4 f5⟩
  self := fun A i s Q E st h => wpAny_pyIter_revIter st.2 h
def iRev (K : PySem.W.Frag) (ta : TA) : TI := fun σ H R => ta σ H fun vs H1 => ∃ (a : Addr) (xs : List V), vs = [.ref a] ∧ SqL K H1 a xs ∧ R (Itv K a xs.length) H1
section
variable {X : Cx} {tg : Expr}
theorem pi_reversed {e : Expr} {ta : TA} {p pos : Pos} (hg : Gl X "reversed") (hm : X.mg "reversed" = none) (ha : PA X [e] ta) (hs : starEach [e] X.env = [(false, eval e X.env)] := by rfl) : PI X tg (.Call (.Name "reversed" p) [e] [] pos) (iRev X.K ta) := by
  intro pins s σ H R I h
  refine Call_ (ld_blt I hg hm boot_reversed5 (PyProof.Rows.callWith_type1 (thn (ha pos pins s σ H _ I h) fun us s1 ⟨vs, H1, I1, r1, q1⟩ => ?_) hs rfl))
  obtain ⟨a, xs, e, hq, q⟩ := q1
  subst e
  cases r1 with
  | cons r rr =>
    cases rr
    cases r
    obtain ⟨its, rv, p', hz⟩ := I1.list hq
    have hl := rv.length
    have e1 : ((its.toArray.size : Nat) : Int) - 1 = (xs.length : Int) - 1 - ((0 : Nat) : Int) := by simp only [List.size_toArray]; omega
    refine call_reversed_list p'.isList (wpAny_pyIter_revIter (l := a) (i := ((its.toArray.size : Nat) : Int) - 1) ⟨_, Heap.get?_push_size _ rfl, rfl, rfl⟩ ?_)
    refine pi_one (tk := s1.toks) I1 _ (turn_rev a _ xs.length) ⟨Nat.zero_le _, ?_⟩ q
    rw [← e1]
    exact ⟨_, Heap.get?_push_size _ rfl, rfl, rfl⟩
end

/-! ### a str -/

/-! ### a dict's keys: any dict's entries -/
section
variable {prog : Program} {w : World} {A : Around} {E : Value → Shared → Prop} {s : Shared}
end

/-! ### a locked dict -/
section
variable {X : Cx} {pins : List (Addr × Obj)} {σ : St} {H : Hp} {s : Shared} {d : Addr} {o : Obj}
end

section
variable {P : Program} {w : World} {K : PySem.W.Frag} {tg : Expr} {d : Addr} {o : Obj} {es : Array DictEntry} {ep : Nat}
end

/-! ### for k in d, d.keys(), d.values(), d.items() -/
section
variable {X : Cx} {tg e : Expr} {td : TE} {apos cpos : Pos}
end

/-! ### enumerate(list) -/
/-- the list at a as it stands at each turn, each item in a new pair -/
def Ite (K : PySem.W.Frag) (a : Addr) : It :=
  ⟨fun i H => ∃ (xs : List V) (x : V), SqL K H a xs ∧ xs[i]? = some x, fun i H v H' => ∃ T x, v = .ref T ∧ H T = none ∧ H' = upd H T (.tup [.int (i : Nat), x]) ∧ ∀ xs, SqL K H a xs → xs[i]? = some x, fun i H => ∃ xs : List V, SqL K H a xs ∧ xs.length ≤ i⟩
theorem turn_enum {P : Program} {w : World} {K : PySem.W.Frag} {elts : List Expr} {kk : Nat} {tpos : Pos} (a e it : Addr) :
    Turn P w K (.Tuple elts kk tpos) (Ite K a) [e, it] e (fun i h => (∃ old, IsEnum h e it ((i : Nat) : Int) old) ∧ h.IsListIter it a i ∧ e ≠ it) where
  mem := by simp
  obj := fun i h st b hb => by
    obtain ⟨⟨old, he⟩, ⟨o, ho, hc, hd⟩, _⟩ := st
    have e' : b = e ∨ b = it := by simpa using hb
    rcases e' with z | z
    · rw [z]; exact ⟨_, he, fun v q => nomatch q⟩
    · rw [z]; exact ⟨o, ho, fun v q => by rw [hd] at q; cases q⟩
  keep := fun i h h' st k => let ⟨⟨old, he⟩, hi, hne⟩ := st; ⟨⟨old, k e (by simp) _ he⟩, hi.at fun o q => k it (by simp) o q, hne⟩
  item := by
    intro X hP hw hK hc i pins s σ H E I hf st hg
    subst hP hw hK
    obtain ⟨⟨old, he⟩, hit, hne⟩ := st
    obtain ⟨xs, x, hq, hx⟩ := hg
    obtain ⟨its, rv, p, hz⟩ := I.list hq
    obtain ⟨u, hu, ru⟩ := rv.get hx
    have hel : e < s.heap.objs.size := Heap.lt_size he
    have hil : it < s.heap.objs.size := by obtain ⟨_, q, _⟩ := hit; exact Heap.lt_size q
    refine wpAny_pyNext_enum_item he hit p.isList (x := u) (by simpa using hu) hne fun h' ho hit' hT hsz hk => ?_
    refine ⟨_, rfl, wpAny_letOwnedTupleGo_enum (s := { s with heap := h', toks := s.toks + 1 }) ho fun h'' he' sb => ?_⟩
    have hT2 : h''.get? s.heap.objs.size = some { cls := .type "tuple", data := .seq #[.int i s.toks, u] } := (sb.2 _ (Nat.ne_of_gt hel)).trans hT
    have new : ObjOk X.prog X.w (upd H s.heap.objs.size (.tup [.int (i : Nat), x])) h'' s.heap.objs.size (.tup [.int (i : Nat), x]) :=
      ⟨by show 2 ≤ sizeLine; decide, [.int i s.toks, u], .cons ⟨_, rfl⟩ (.cons ru .nil), ⟨_, hT2, rfl, _, rfl⟩⟩
    have I1 : Inv X pins σ (upd H s.heap.objs.size (.tup [.int (i : Nat), x])) { s with heap := h'', toks := s.toks + 1 } :=
      I.turnedNew (ch := [e, it]) (fun b ob hb q => (sb.2 b (fun z => hb (by simp [z]))).trans (hk b ob (fun z => hb (by simp [z])) (fun z => hb (by simp [z])) q)) hf (Nat.le_refl _) new
    refine ⟨.ref s.heap.objs.size, _, I1, rfl, ⟨_, x, rfl, I.hok.fresh (Nat.le_refl _), rfl, fun ys hy => by rw [I.list_inj hy hq]; exact hx⟩, ⟨⟨u, ?_⟩, hit'.at fun o q => (sb.2 it (Ne.symm hne)).trans q, hne⟩, fun b hb => ?_⟩
    · have e1 : ((i + 1 : Nat) : Int) = (i : Int) + 1 := by omega
      rw [e1]; exact he'
    · have hb' : b < s.heap.objs.size := by
        have e' : b = e ∨ b = it := by simpa using hb
        rcases e' with z | z
        · rw [z]; exact hel
        · rw [z]; exact hil
      rw [upd_ne (Nat.ne_of_lt hb')]
      exact (hf b hb).1
  done := by
    intro X hP hw hK hc i pins s σ H E I hf st hg
    subst hP hw hK
    obtain ⟨⟨old, he⟩, hit, hne⟩ := st
    obtain ⟨xs, hq, hx⟩ := hg
    obtain ⟨its, rv, p, hz⟩ := I.list hq
    obtain ⟨f0, f1, f2, f3, f4, f5⟩ := hf it (by simp)
    have hl := rv.length
    exact wpAny_pyNext_enum_end (I.ok.hd hc) he hit p.isList (by simp; omega) fun h' eb => ⟨rfl, I.turned (t' := s.toks) (fun b o hb q => eb b o hb q) f0 f1 f3 f4 f5⟩
  self := fun A i s Q E st h => let ⟨⟨_, he⟩, _⟩ := st; wpAny_pyIter_enum he h
def iEnum (K : PySem.W.Frag) (ta : TA) : TI := fun σ H R => ta σ H fun vs H1 => ∃ a xs, vs = [.ref a] ∧ SqL K H1 a xs ∧ R (Ite K a) H1
theorem pi_enum {X : Cx} {e : Expr} {ta : TA} {p pos tpos : Pos} {elts : List Expr} {kk : Nat} (hg : Gl X "enumerate") (hm : X.mg "enumerate" = none) (ha : PA X [e] ta) (hs : starEach [e] X.env = [(false, eval e X.env)] := by rfl) :
    PI X (.Tuple elts kk tpos) (.Call (.Name "enumerate" p) [e] [] pos) (iEnum X.K ta) := by
  intro pins s σ H R I h
  refine Call_ (ld_blt I hg hm boot_enumerate (PyProof.Rows.callWith_type1 (thn (ha pos pins s σ H _ I h) fun us s1 ⟨vs, H1, I1, r1, q1⟩ => ?_) hs rfl))
  obtain ⟨a, xs, ex, hq, q⟩ := q1
  subst ex
  cases r1 with
  | cons r rr =>
    cases rr
    cases r
    obtain ⟨its, rv, p', hz⟩ := I1.list hq
    refine call_enumerate_list p'.isList fun h' he hit hsz hk => wpAny_pyIter_enum he ?_
    have I2 : Inv X pins σ H1 { s1 with heap := h' } := I1.kept (t' := s1.toks) hk
    refine ⟨s1.heap.objs.size + 1, [s1.heap.objs.size + 1, s1.heap.objs.size], _, _, H1, rfl, I2, turn_enum a (s1.heap.objs.size + 1) s1.heap.objs.size, ⟨⟨.none, he⟩, hit, Nat.succ_ne_self _⟩, fun b hb => ?_, q⟩
    have e' : b = s1.heap.objs.size + 1 ∨ b = s1.heap.objs.size := by simpa using hb
    have hle : s1.heap.objs.size ≤ b := by
      rcases e' with z | z
      · rw [z]; exact Nat.le_add_right _ _
      · rw [z]; exact Nat.le_refl _
    exact I1.fpOk hle (I1.hok.fresh hle)
/-! ### zip(list, list) -/
theorem boot_zip5 : bootBuiltins "zip" = some (.type "zip") := by decide +kernel
/-- the lists at a and b as they stand at each turn, the items in new pairs -/
def Itz (K : PySem.W.Frag) (a b : Addr) : It :=
  ⟨fun i H => ∃ (xs ys : List V) (x y : V), SqL K H a xs ∧ SqL K H b ys ∧ xs[i]? = some x ∧ ys[i]? = some y,
    fun i H v H' => ∃ T x y, v = .ref T ∧ H T = none ∧ H' = upd H T (.tup [x, y]) ∧ (∀ xs, SqL K H a xs → xs[i]? = some x) ∧ ∀ ys, SqL K H b ys → ys[i]? = some y,
    fun i H => ∃ xs ys : List V, SqL K H a xs ∧ SqL K H b ys ∧ (xs.length ≤ i ∨ ys.length ≤ i)⟩
theorem turn_zip {P : Program} {w : World} {K : PySem.W.Frag} {elts : List Expr} {kk : Nat} {tpos : Pos} {a b z TI TO i1 i2 : Addr} (D : ZipApart z TI TO i1 i2 a b) :
    Turn P w K (.Tuple elts kk tpos) (Itz K a b) [z, TI, TO, i1, i2] z (fun i h => IsZip h z TI TO .none ∧ IsPair h TI (.ref i1) (.ref i2) ∧ (∃ x y, IsPair h TO x y) ∧ h.IsListIter i1 a i ∧ h.IsListIter i2 b i) where
  mem := by simp
  obj := fun i h st c hc => by
    obtain ⟨hz, hTI, ⟨x, y, hTO⟩, ⟨o1, e1, _, d1⟩, ⟨o2, e2, _, d2⟩⟩ := st
    have e' : c = z ∨ c = TI ∨ c = TO ∨ c = i1 ∨ c = i2 := by simpa using hc
    rcases e' with q | q | q | q | q
    · rw [q]; exact ⟨_, hz, fun v q => nomatch q⟩
    · rw [q]; exact ⟨_, hTI, fun v q => nomatch q⟩
    · rw [q]; exact ⟨_, hTO, fun v q => nomatch q⟩
    · rw [q]; exact ⟨o1, e1, fun v q => by rw [d1] at q; cases q⟩
    · rw [q]; exact ⟨o2, e2, fun v q => by rw [d2] at q; cases q⟩
  keep := fun i h h' st k => by
    obtain ⟨hz, hTI, ⟨x, y, hTO⟩, h1, h2⟩ := st
    exact ⟨k z (by simp) _ hz, k TI (by simp) _ hTI, ⟨x, y, k TO (by simp) _ hTO⟩, h1.at fun o q => k i1 (by simp) o q, h2.at fun o q => k i2 (by simp) o q⟩
  item := by
    intro X hP hw hK hc i pins s σ H E I hf st hg
    subst hP hw hK
    obtain ⟨hz, hTI, ⟨x0, y0, hTO⟩, h1, h2⟩ := st
    obtain ⟨xs, ys, x, y, hqx, hqy, hx, hy⟩ := hg
    obtain ⟨its, rv, p, _⟩ := I.list hqx
    obtain ⟨its2, rv2, p2, _⟩ := I.list hqy
    obtain ⟨u, hu, ru⟩ := rv.get hx
    obtain ⟨u2, hu2, ru2⟩ := rv2.get hy
    have hzl : z < s.heap.objs.size := Heap.lt_size hz
    refine wpAny_pyNext_zip_item D hz hTI hTO h1 h2 p.isList p2.isList (x := u) (y := u2) (by simpa using hu) (by simpa using hu2) fun h' z' TO' h1' h2' hT hsz hk => ?_
    refine ⟨_, rfl, wpAny_letOwnedTupleGo_zip (s := { s with heap := h' }) z' fun h'' z'' sb => ?_⟩
    have hT2 : h''.get? s.heap.objs.size = some { cls := .type "tuple", data := .seq #[u, u2] } := (sb.2 _ (Nat.ne_of_gt hzl)).trans hT
    have new : ObjOk X.prog X.w (upd H s.heap.objs.size (.tup [x, y])) h'' s.heap.objs.size (.tup [x, y]) :=
      ⟨by show 2 ≤ sizeLine; decide, [u, u2], .cons ru (.cons ru2 .nil), ⟨_, hT2, rfl, _, rfl⟩⟩
    have I1 : Inv X pins σ (upd H s.heap.objs.size (.tup [x, y])) { s with heap := h'' } :=
      I.turnedNew (t' := s.toks) (ch := [z, TI, TO, i1, i2]) (fun c o hb q => (sb.2 c (fun q' => hb (by simp [q']))).trans (hk c o (fun q' => hb (by simp [q'])) (fun q' => hb (by simp [q'])) (fun q' => hb (by simp [q'])) (fun q' => hb (by simp [q'])) q)) hf (Nat.le_refl _) new
    refine ⟨.ref s.heap.objs.size, _, I1, rfl, ⟨_, x, y, rfl, I.hok.fresh (Nat.le_refl _), rfl, fun l hl => by rw [I.list_inj hl hqx]; exact hx, fun l hl => by rw [I.list_inj hl hqy]; exact hy⟩, ⟨z'', ?_, ⟨u, u2, ?_⟩, ?_, ?_⟩, fun c hcm => ?_⟩
    · exact (sb.2 _ D.TIz).trans (hk _ _ D.TIz D.TITO D.TIi1 D.TIi2 hTI)
    · exact (sb.2 _ D.TOz).trans TO'
    · exact h1'.at fun o q => (sb.2 _ D.i1z).trans q
    · exact h2'.at fun o q => (sb.2 _ D.i2z).trans q
    · have hlt : c < s.heap.objs.size := by
        have e' : c = z ∨ c = TI ∨ c = TO ∨ c = i1 ∨ c = i2 := by simpa using hcm
        rcases e' with q | q | q | q | q
        · rw [q]; exact hzl
        · rw [q]; exact Heap.lt_size hTI
        · rw [q]; exact Heap.lt_size hTO
        · rw [q]; obtain ⟨_, e1, _⟩ := h1; exact Heap.lt_size e1
        · rw [q]; obtain ⟨_, e2, _⟩ := h2; exact Heap.lt_size e2
      rw [upd_ne (Nat.ne_of_lt hlt)]
      exact (hf c hcm).1
  done := by
    intro X hP hw hK hc i pins s σ H E I hf st hg
    subst hP hw hK
    obtain ⟨hz, hTI, ⟨x0, y0, hTO⟩, h1, h2⟩ := st
    obtain ⟨xs, ys, hqx, hqy, hend⟩ := hg
    obtain ⟨its, rv, p, _⟩ := I.list hqx
    obtain ⟨its2, rv2, p2, _⟩ := I.list hqy
    have l1 := rv.length
    have l2 := rv2.length
    have he : its.toArray[i]? = none ∨ its2.toArray[i]? = none := by
      rcases hend with q | q
      · exact .inl (by simp; omega)
      · exact .inr (by simp; omega)
    exact wpAny_pyNext_zip_end (I.ok.hd hc) D hz hTI hTO h1 h2 p.isList p2.isList he fun h' hk => ⟨rfl, I.turnedL (t' := s.toks) (ch := [z, TI, TO, i1, i2]) (fun c o hb q =>
      hk c o (fun q' => hb (by simp [q'])) (fun q' => hb (by simp [q'])) (fun q' => hb (by simp [q'])) (fun q' => hb (by simp [q'])) q) hf⟩
  self := fun A i s Q E st h => wpAny_pyIter_zip st.1 h
def iZip (K : PySem.W.Frag) (ta : TA) : TI := fun σ H R => ta σ H fun vs H1 => ∃ a b xs ys, vs = [.ref a, .ref b] ∧ SqL K H1 a xs ∧ SqL K H1 b ys ∧ R (Itz K a b) H1
theorem pi_zip {X : Cx} {e e2 : Expr} {ta : TA} {p pos tpos : Pos} {elts : List Expr} {kk : Nat} (hg : Gl X "zip") (hm : X.mg "zip" = none) (ha : PA X [e, e2] ta)
    (hs : starEach [e, e2] X.env = (false, eval e X.env) :: starEach [e2] X.env := by rfl) (hpl : (backTo pos (starEach [e2] X.env)).any (·.1) = false := by rfl) :
    PI X (.Tuple elts kk tpos) (.Call (.Name "zip" p) [e, e2] [] pos) (iZip X.K ta) := by
  intro pins s σ H R I h
  refine Call_ (ld_blt I hg hm boot_zip5 (PyProof.Rows.callWith_type1 (thn (ha pos pins s σ H _ I h) fun us s1 ⟨vs, H1, I1, r1, q1⟩ => ?_) hs hpl))
  obtain ⟨a, b, xs, ys, ex, hqx, hqy, q⟩ := q1
  subst ex
  cases r1 with
  | cons r rr =>
    cases rr with
    | cons r' rr =>
      cases rr
      cases r
      cases r'
      obtain ⟨its, rv, p1, _⟩ := I1.list hqx
      obtain ⟨its2, rv2, p2, _⟩ := I1.list hqy
      have la : a < s1.heap.objs.size := p1.lt
      have lb : b < s1.heap.objs.size := p2.lt
      refine call_zip_2 p1.isList p2.isList fun h' hz hTI hTO h1 h2 hsz hk => wpAny_pyIter_zip hz ?_
      have I2 : Inv X pins σ H1 { s1 with heap := h' } := I1.kept (t' := s1.toks) hk
      refine ⟨s1.heap.objs.size + 4, [s1.heap.objs.size + 4, s1.heap.objs.size + 2, s1.heap.objs.size + 3, s1.heap.objs.size, s1.heap.objs.size + 1], _, _, H1, rfl, I2, turn_zip (PySem.W.ktu_apart s1.heap.objs.size a b la lb), ⟨hz, hTI, ⟨_, _, hTO⟩, h1, h2⟩, fun c hcm => ?_, q⟩
      have e' : c = s1.heap.objs.size + 4 ∨ c = s1.heap.objs.size + 2 ∨ c = s1.heap.objs.size + 3 ∨ c = s1.heap.objs.size ∨ c = s1.heap.objs.size + 1 := by simpa using hcm
      have hle : s1.heap.objs.size ≤ c := by
        rcases e' with z | z | z | z | z
        · rw [z]; exact Nat.le_add_right _ _
        · rw [z]; exact Nat.le_add_right _ _
        · rw [z]; exact Nat.le_add_right _ _
        · rw [z]; exact Nat.le_refl _
        · rw [z]; exact Nat.le_add_right _ _
      exact I1.fpOk hle (I1.hok.fresh hle)
end L2

section 
namespace Bits
open PySem PyProof.Rows








end Bits
end 

section 
namespace TL
open PySem PySem.Builtin PySem.Builtin.Str PySem.StrLaws


/-! ### the list functions -/




/-! ### the model's split and partition are these -/




/-! ### computing spl and par -/


/-! ### digits -/

/-! ### words: x.split() -/
end TL
end 

namespace L2
open PySem PySem.Spec PyProof.Rows




section
variable {X : Cx} {pins : List (Addr × Obj)} {σ : St} {H : Hp} {s : Shared} {Q : VK}
end

section
variable {X : Cx}





/-! ### of a text alone -/

/-! ### of a text and a text -/

end

section
variable {X : Cx} {o e : Expr} {to te : TE}

end
end L2

namespace L2
open PySem PySem.Spec PyProof.Rows

section
variable {X : Cx}
end

/-! ### slices of a text -/


end L2

namespace Att
open PySem PySem.W PySem.Calls PyProof.Rows

/-! ### the script -/
theorem ints_of_wellAll {P : Params} {h : Heap} : ∀ (ns : List Int) (vs : List Value), WellAll P h vs (ns.map WData.int) → IntsAre vs ns := by
  intro ns
  induction ns with
  | nil =>
    intro vs w
    rw [List.map_nil] at w
    cases w
    exact .nil
  | cons n ns ih =>
    intro vs w
    rw [List.map_cons] at w
    cases w with
    | cons a b =>
      cases a
      exact .cons _ _ (ih _ b)



/-! ### the attachment: holds_open's last premise (the goal 'hc' behind k_head) from a wpAny of the law's body -/



/-! ### rules over ANY heap (no ledger) from facts about the written part K: the library's own take a ledger (News) for what they write -/
section
variable {prog : Program} {w : World} {A : Around} {E : Value → Shared → Prop} {s : Shared} {K : Frag}





/-! the whole heap as the ledger: makes every rule that writes through a ledger a rule over any heap -/

end
end Att

namespace L2
open PySem PySem.Spec PyProof.Rows

theorem vals_ints : ∀ {vs : List Value} {ns : List Int}, IntsAre vs ns → Vals (ns.map V.int) vs
  | _, _, .nil => .nil
  | _, _, .cons n t h => .cons ⟨t, rfl⟩ (vals_ints h)


end L2

namespace L2
open PySem PySem.Spec PyProof.Rows


end L2

/- THE LAST THEOREM (shape; LID, My.* are yours):
   My.Adr: a structure of the addresses that your layer names (classes, functions); My.Txt K t: a structure (Prop) of the equations over K;
   My.txt_mk : {K} {implicit addresses ..} (e1 : nsIn K mainGlobals "law" = some (some (.ref f))) (e2 : K.lookup f = some ⟨oc, od, .func (fnOf "law" "law" params body scope dV kV doc pm an cdv ct), sl⟩) (e3 : codeIn K cdv "law" = true) .. : ∃ t, My.Txt K t

set_option maxRecDepth 100000 in
set_option maxHeartbeats 0 in
theorem PySem.Challenge.cw_LID_holds : PySem.Challenge.rw_LID.Holds := by
  w_on; o_law; k_head; (case hw => w_witness2)
  k_fill
  refine L2.walk_of (l := PySem.Challenge.rw_LID) (n := 63) (k := 40) (x := "script") (CX := fun w => ..) (sp := fun _ => My.sp_law) rfl (by decide) rfl ⟨rfl, by decide, by decide⟩ (fun w h Y => PySem.W.kIn_of Y) ?F ?S ?C
  case F =>
    intro w mg fa h KX G hmg
    have T : ∃ t, My.Txt (L2.KOf KX) t := by
      dsimp only [L2.KOf]                          -- K must stand as «<heap const> w.params» for k_is
      refine' My.txt_mk ?e1 ?e2 ?e3 ..
      (case e1 => PySem.W.k_is)                    -- in the order: a name -> its address -> its object -> its parts
      (case e2 => PySem.W.k_is)
      ..
    obtain ⟨t, T⟩ := T
    have e0 := hmg.symm.trans (PySem.W.mg_of KX G T.law)
    cases e0                                       -- fa is the law's own address
    exact ⟨_, fun s u => .of_eq rfl, fun base kb nb => My.law_fn T kb nb⟩     -- if «.of_eq rfl» comes too early: refine' ⟨_, ?b, fun base kb nb => My.law_fn T kb nb⟩; exact fun s u => .of_eq rfl
  case S => exact fun w H a ns hl hO hS => ..
  case C => exact ..
(the tactic k_is has no namespace: write k_is) -/

/-! SHORT WORDS over the layer: a def of the text, its body, what a loop and a test want. -/
namespace L2
open PySem PySem.Spec PyProof.Rows

/-! ### the text by places -/
def defArgs (s : Stmt) : Arguments := match s with
  | .FunctionDef _ a _ _ _ _ _ _ _ _ => a
  | _ => { posonlyargs := [], args := [], vararg := none, kwonlyargs := [], kw_defaults := [], kwarg := none, defaults := [] }
def defBody (s : Stmt) : List Stmt := match s with
  | .FunctionDef _ _ b _ _ _ _ _ _ _ => b
  | _ => []
def defScope (s : Stmt) : Scope := match s with
  | .FunctionDef _ _ _ _ _ _ sc _ _ _ => sc
  | _ => { kind := .function, names := [], isGenerator := false, isCoroutine := false }

/-! ### no exception leaves a def -/
abbrev CX0 : CXT := fun _ _ _ _ _ _ => False
abbrev E0 : XK := fun _ _ _ => False
theorem pass0 {X : Cx} : Passes CX0 X E0 := fun _ _ _ _ _ _ _ h => h.elim

/-! ### a def (or method) of the text as it stands behind the top -/
structure Fun (K : PySem.W.Frag) (x qual : Str) (st : Stmt) (f : Addr) (fd : FuncData) : Prop where
  ex : ∃ (oc : Value) (od : Option Addr) (kV doc pm : Value) (an : Option Addr) (cdv ct : Value) (osl : Array (Option Value)),
    fd = PySem.W.fnOf x qual (defArgs st) (defBody st) (defScope st) .none kV doc pm an cdv ct ∧ K.lookup f = some ⟨oc, od, .func fd, osl⟩ ∧ PySem.W.codeIn K cdv qual = true
  kp : PySem.W.keepIn K (.ref f) = true
section
variable {P : Program} {w : World} {K : PySem.W.Frag} {mg : Str → Option Value} {base : Heap}
/-- THE RULE for a def: its body as a term of rules, and the reading of that term -/
theorem Fun.ok {x qual : Str} {st : Stmt} {f : Addr} {fd : FuncData} {N ps : List Str} {k : Nat} {sp : Sp} (F : Fun K x qual st f fd) (S : FnScope N ps (defScope st)) (len : ∀ vs H Q E, sp vs H Q E → vs.length = ps.length)
    (hbody : ∀ (cdv : Value) (A : Around) (outer : List Env) (s : Shared) (H : Hp) (vs : List V) (Q : VK) (E : XK), Room k (A.deeper (envOfC qual (defScope st) s.heap.objs.size f cdv)) → sp vs H Q E →
      ∃ t, PSs (cxOf CX0 P w K mg base N qual (defScope st) f cdv A outer s H E).nox (defBody st) t ∧ t { nx := fun _ H' => Q .non H', rt := Q } (start N vs) H) : FnOk P w K mg base CX0 (k + 1) f fd ps sp := by
  obtain ⟨oc, od, kV, doc, pm, an, cdv, ct, osl, rfl, lk, hcd⟩ := F.ex
  refine fn_of lk hcd S len fun A outer s H vs Q E hr hsp => ?_
  obtain ⟨t, h, q⟩ := hbody cdv A outer s H vs Q E hr hsp
  exact ⟨t, h.nox, q⟩
/-- how its arguments bind (no defaults): h is «fun _ _ _ _ _ _ us hl => match us, hl with | [_, _], _ => rfl», one _ a parameter -/
theorem Fun.binds {x qual : Str} {st : Stmt} {f : Addr} {fd : FuncData} {ps : List Str} (F : Fun K x qual st f fd)
    (h : ∀ (kV doc pm : Value) (an : Option Addr) (cdv ct : Value) (us : List Value), us.length = ps.length → bindArgs (PySem.W.fnOf x qual (defArgs st) (defBody st) (defScope st) .none kV doc pm an cdv ct) ⟨us, []⟩ = pure (ps.zip us)) : Binds K fd ps [] := by
  obtain ⟨oc, od, kV, doc, pm, an, cdv, ct, osl, rfl, lk, hcd⟩ := F.ex
  exact .all (h kV doc pm an cdv ct)
theorem fun_mk {x qual : Str} {st : Stmt} {f : Addr} {oc : Value} {od an : Option Addr} {osl : Array (Option Value)} {kV doc pm cdv ct : Value} (l : K.lookup f = some ⟨oc, od, .func (PySem.W.fnOf x qual (defArgs st) (defBody st) (defScope st) .none kV doc pm an cdv ct), osl⟩)
    (c : PySem.W.codeIn K cdv qual = true) (k : PySem.W.keepIn K (.ref f) = true) : Fun K x qual st f (PySem.W.fnOf x qual (defArgs st) (defBody st) (defScope st) .none kV doc pm an cdv ct) := ⟨⟨oc, od, kV, doc, pm, an, cdv, ct, osl, rfl, l, c⟩, k⟩
end

/-! ### expressions in short: the name that stands in the i-th slot -/
section
variable {X : Cx}
theorem pv (i : Nat) {x : Str} {pos : Pos} (hN : X.N[i]? = some x := by rfl) (hv : Vis X.env.scope x := by first | exact Or.inl rfl | exact Or.inr (Or.inl rfl) | exact Or.inr (Or.inr rfl)) (hd : (x == ("__debug__" : Str)) = false := by decide)
    (hcd : (x == ("__classdict__" : Str)) = false := by decide) : PE X (.Name x pos) (tVar i) := pe_var hN hv hd hcd
end

/-! ### tests -/
theorem iteT {A B : Prop} (h : A) : if true = true then A else B := by
  rw [if_pos rfl]
  exact h
theorem ite2 {c A B : Prop} [Decidable c] (h1 : c → A) (h2 : ¬ c → B) : if c then A else B := by
  by_cases h : c
  · rw [if_pos h]
    exact h1 h
  · rw [if_neg h]
    exact h2 h

/-! ### heaps -/
/-- all that was tracked is as it was -/
def Same (H H' : Hp) : Prop := ∀ b o, H b = some o → H' b = some o
theorem Same.refl (H : Hp) : Same H H := fun _ _ h => h
theorem Same.trans {H H1 H2 : Hp} (a : Same H H1) (b : Same H1 H2) : Same H H2 := fun c o h => b c o (a c o h)
theorem Same.free {H H' : Hp} (e : Same H H') {l : Addr} (h : H' l = Option.none) : H l = Option.none := by
  cases q : H l with
  | none => rfl
  | some o =>
    rw [e l o q] at h
    cases h
theorem Same.seq {K : PySem.W.Frag} {H H' : Hp} {a : Addr} {xs : List V} (e : Same H H') (h : SqL K H a xs) : SqL K H' a xs := by
  rcases h with (h | ⟨o, h⟩) | h
  · exact .inl (.inl (e _ _ h))
  · exact .inl (.inr ⟨o, e _ _ h⟩)
  · exact .inr h

/-! ### a dict's pairs: keys that differ -/
section
variable {κ : Type} [DecidableEq κ]
end
/-! ### lists -/
theorem at_of {xs : List V} {z : Int} {j : Nat} {v : V} (e : z = (j : Int)) (h : xs[j]? = some v) : atI xs z = some v := by
  rw [e]
  exact atI_nat h
end L2

set_option Elab.async false
set_option linter.all false
set_option maxRecDepth 100000
namespace WS
open PySem PySem.W PySem.Spec PyProof.Rows L2

/-- a list argument: its address, its values, its numbers -/
abbrev LArg := Addr × List Value × List Int
abbrev lobj (vs : List Value) : Obj := { cls := .type "list", data := .seq vs.toArray }
def HArgs (K : PySem.W.Frag) (L : List LArg) : Hp := fun b => match K.lookup b with
  | some _ => none
  | none => match L.find? (fun x => x.1 == b) with
    | some x => some (.frz (lobj x.2.1) (.lst (x.2.2.map V.int)))
    | none => none
theorem HArgs_some {K : PySem.W.Frag} {L : List LArg} {b : Addr} {u : HO} (h : HArgs K L b = some u) : K.lookup b = none ∧ ∃ x ∈ L, x.1 = b ∧ u = .frz (lobj x.2.1) (.lst (x.2.2.map V.int)) := by
  unfold HArgs at h
  cases e : K.lookup b with
  | some o => rw [e] at h; cases h
  | none =>
    rw [e] at h
    cases e2 : L.find? (fun x => x.1 == b) with
    | none => simp only [e2] at h; cases h
    | some x =>
      simp only [e2] at h
      cases h
      exact ⟨rfl, x, List.mem_of_find?_eq_some e2, by simpa using List.find?_some e2, rfl⟩
theorem ints_inj : ∀ {vs : List Value} {ns ms : List Int}, IntsAre vs ns → IntsAre vs ms → ns = ms
  | _, _, _, .nil, h => by cases h; rfl
  | _, _, _, .cons n t h, h' => by
    cases h' with
    | cons m t' h2 => rw [ints_inj h h2]
theorem spec_call {P : Program} {w : World} {K : PySem.W.Frag} {mg mb : Str → Option Value} {k : Nat} {fa : Addr} {fd : FuncData} {ps : List Str} {sp : Sp} {s₁ : Shared} {xs : List V} {us : List Value} (L : List LArg) {post : List Int → Prop}
    (KX : K.In s₁.heap) (hns : s₁.heap.Ns mainGlobals mg) (hb : s₁.heap.Ns builtinsNs mb) (hbb : ∀ x : Str, x ≠ "__name__" → mb x = bootBuiltins x) (hlim : s₁.heap.NoLimit) (hg : s₁.gens = #[])
    (hL : ∀ x ∈ L, s₁.heap.get? x.1 = some (lobj x.2.1) ∧ IntsAre x.2.1 x.2.2 ∧ x.2.2.length ≤ sizeLine) (hv : Vals xs us) (hr : Room k callerA)
    (F : ∀ base : Heap, K.In base → base.Ns mainGlobals mg → FnOk P w K mg base CX0 k fa fd ps sp) (hbind : BindsTo s₁ fd ⟨us, []⟩ (ps.zip us))
    (hsp : ∀ H : Hp, (∀ x ∈ L, SqL K H x.1 (x.2.2.map V.int)) → sp xs H (fun v H' => ∃ (p : Addr) (l : List Int), v = .ref p ∧ H' p = some (.lst (l.map V.int)) ∧ post l) fun _ _ _ => False) :
    codeAny (model P w) callerA (.call (.ref fa) ⟨us, []⟩) (fun r s' => (∃ (p : Addr) (vs : List Value) (l : List Int) (n : Nat), r = .ok (.ret (.ref p)) ∧ s'.heap.get? p = some { cls := .type "list", data := .seq vs.toArray n } ∧ IntsAre vs l ∧ post l) ∧ OldK s₁.heap s'.heap ∧ s'.os = s₁.os ∧ AllBare s'.gens) s₁ := by
  have noA : ∀ {b : Addr} {o : Obj} {es : Array DictEntry} {ep : Nat}, s₁.heap.get? b = some o → o.data = .dict es ep → HArgs K L b = none := fun {b o es ep} e d => by
    cases q : HArgs K L b with
    | none => rfl
    | some u =>
      obtain ⟨_, x, hx, e', _⟩ := HArgs_some q
      have z := (hL x hx).1
      rw [e', e] at z; cases z
      have d' : Data.seq x.2.1.toArray _ = Data.dict es ep := d
      cases d'
  have hok : HOk P w (HArgs K L) s₁.heap := fun b u q => by
    obtain ⟨_, x, hx, e', eu⟩ := HArgs_some q
    subst e' eu
    obtain ⟨z1, z2, z3⟩ := hL x hx
    exact ⟨z1, by rw [List.length_map]; exact z3, x.2.1, _, vals_ints z2, z1⟩
  have base_of : ∀ {b : Addr} {o : Obj}, s₁.heap.get? b = some o → HArgs K L b = none → (hidT s₁.heap (HArgs K L)).get? b = some o := fun e n => hidT_get e n
  have nsK : ∀ {b : Addr} {m : Str → Option Value}, s₁.heap.Ns b m → (hidT s₁.heap (HArgs K L)).Ns b m := fun {b m} ⟨o, es, ep, e, d, r⟩ => ⟨o, es, ep, base_of e (noA e d), d, r⟩
  have hKb : K.In (hidT s₁.heap (HArgs K L)) := fun b o e => base_of (KX b o e) (by
    cases q : HArgs K L b with
    | none => rfl
    | some u =>
      obtain ⟨z, _⟩ := HArgs_some q
      rw [e] at z; cases z)
  have hM : Mod K mg (hidT s₁.heap (HArgs K L)) := ⟨hKb, nsK hns, ⟨mb, nsK hb, hbb⟩, let ⟨mc, h1, h2⟩ := hlim; ⟨mc, nsK h1, h2⟩⟩
  have e0 : Env0 P w K mg (hidT s₁.heap (HArgs K L)) callerA [] s₁ (HArgs K L) := ⟨rfl, hM, fun b o e => of_hidT e, Nat.le_of_eq (hidT_size _ _), trivial, fun b hb => absurd (show b ∈ ([] : List Addr) from hb) (by simp), hok, .of_eq hg⟩
  have hSq : ∀ x ∈ L, SqL K (HArgs K L) x.1 (x.2.2.map V.int) := fun x hx => by
    obtain ⟨z1, z2, z3⟩ := hL x hx
    cases hk : K.lookup x.1 with
    | some o =>
      have e := KX x.1 o hk
      rw [z1] at e; cases e
      exact .inr ⟨_, x.2.1.toArray, _, hk, rfl, rfl, rfl, by rw [List.size_toArray, z2.length]; exact z3, by simpa using vals_ints z2⟩
    | none =>
      refine .inl (.inr ⟨lobj x.2.1, ?_⟩)
      unfold HArgs
      rw [hk]
      cases e2 : L.find? (fun y => y.1 == x.1) with
      | none => exact absurd (List.find?_eq_none.mp e2 x hx) (by simp)
      | some y =>
        have hy := List.mem_of_find?_eq_some e2
        have ey : y.1 = x.1 := by simpa using List.find?_some e2
        obtain ⟨y1, y2, y3⟩ := hL y hy
        rw [ey, z1] at y1
        have e3 : lobj x.2.1 = lobj y.2.1 := Option.some.inj y1
        have e4 : x.2.1 = y.2.1 := by
          have := congrArg Obj.data e3
          simpa using this
        have e5 : x.2.2 = y.2.2 := ints_inj (e4 ▸ z2) y2
        show some (HO.frz (lobj y.2.1) (.lst (y.2.2.map V.int))) = _
        rw [← e4, ← e5]
  refine codeAny_mono ((F _ hKb (nsK hns)).run callerA [] s₁ (HArgs K L) ⟨us, []⟩ us xs _ _ hr e0 hbind hv (hsp _ hSq)) fun r s' h => ?_
  cases r with
  | error e => exact False.elim h
  | ok fl =>
    cases fl with
    | next => exact False.elim h
    | brk => exact False.elim h
    | cont => exact False.elim h
    | ret u =>
      obtain ⟨v, H', os, bare, un, hok', r', p, l, ev, hp, hpost⟩ := h
      subst ev
      obtain rfl : u = Value.ref p := r'
      obtain ⟨z, its, n, rv, e⟩ := hok' p _ hp
      refine ⟨⟨p, its, l, n, rfl, e, intsAre_of rv, hpost⟩, OldK.of_keep fun b o e => ?_, os, bare⟩
      cases q : HArgs K L b with
      | none => exact un.keep b o e q (by intro z; exact absurd (show b ∈ ([] : List Addr) from z) (by simp)) (by simp)
      | some u =>
        obtain ⟨_, x, hx, e', eu⟩ := HArgs_some q
        subst eu
        have z2 := un.frzs b _ _ q
        obtain ⟨e1, _⟩ := hok b _ q
        obtain ⟨e2, _⟩ := hok' b _ z2
        rw [e] at e1; cases e1
        exact e2
theorem reads_ints {R : WRecords} {cl : Str → Option Addr} {h : Heap} : ∀ {vs : List Value} {l : List Int}, IntsAre vs l → ReadsAllW R cl h vs (l.map WData.int) []
  | _, _, .nil => .nil
  | _, _, .cons n t r => by
    rw [List.map_cons]
    exact .cons (.int n t) (reads_ints r)
/-- the goal that k_headS leaves (case hc), from the def's promise -/
theorem walk_spec {r : OpenSpec} {k : Nat} {q : Program} {loose : List Str} {XP : (Str → Option Value) → Heap → Prop} {YP : World → Heap → Prop} {d : DefRec} {K : Params → PySem.W.Frag} {sp : PySem.W.Frag → Sp} {ps : List Str}
    (hdf : d.params.defaults = []) (hr : Room k callerA)
    (hY : ∀ (w : World) (h : Heap), YP w h → (K w.params).In h)
    (F : ∀ (w : World) (mg : Str → Option Value) (fa : Addr) (h : Heap), (K w.params).In h → h.Ns mainGlobals mg → mg d.name = some (.ref fa) →
      ∃ fd : FuncData, (∀ (s : Shared) (us : List Value), us.length = ps.length → BindsTo s fd ⟨us, []⟩ (ps.zip us)) ∧
        ∀ base : Heap, (K w.params).In base → base.Ns mainGlobals mg → FnOk r.prog w (K w.params) mg base CX0 k fa fd ps (sp (K w.params)))
    (hargs : ∀ (P : Params) (h : Heap) (args : List WData) (us : List Value), r.pre args = true → WellAll P h us args → us.length = ps.length ∧ ∃ (xs : List V) (L : List LArg), Vals xs us ∧
      (∀ x ∈ L, h.get? x.1 = some (lobj x.2.1) ∧ IntsAre x.2.1 x.2.2 ∧ x.2.2.length ≤ sizeLine) ∧
      ∀ (K : PySem.W.Frag) (H : Hp), (∀ x ∈ L, SqL K H x.1 (x.2.2.map V.int)) → sp K xs H (fun v H' => ∃ (p : Addr) (l : List Int), v = .ref p ∧ H' p = some (.lst (l.map V.int)) ∧ r.post args (.list (l.map WData.int)) = true) fun _ _ _ => False) :
    WalkOS q loose XP YP r d [] (fun f vs => PySem.call f vs) := by
  intro w s₀ s₁ mg mb G Y fa o pm cd doc dV kV ho hd hcd hD hmg hg args vals as hpre hlay hrd hwl hlo
  have KX := hY w _ Y
  obtain ⟨fd, hb, hF⟩ := F w mg fa _ KX G.T.g hmg
  obtain ⟨hlen, xs, L, hv, hL, hsp⟩ := hargs w.params s₁.heap args vals hpre hwl
  refine enter_call (codeAny_mono (spec_call L KX G.T.g G.T.b G.T.builtins G.T.nolimit hg hL hv hr hF (hb s₁ vals hlen) (hsp (K w.params))) fun r' s' hq => ?_)
  obtain ⟨⟨p, vs, l, n, rfl, e, hi, hpost⟩, h2, h3, h4⟩ := hq
  exact ⟨.inl ⟨.ref p, .list (l.map WData.int), _, rfl, fun cls => osNone cls, .list e rfl rfl (reads_ints hi), osPost hpost, fun h => absurd h Bool.false_ne_true⟩, h2, h3, h4⟩
end WS

set_option Elab.async false
set_option linter.all false
namespace WT
/-- where a row's first number stands that is not 0 -/
def fp (l : List Int) : Nat := l.findIdx fun x => x != 0
/-- a column, from above down -/
def colAt (t : List (List Int)) (j : Nat) : List Int := t.map fun r => r.getD j 0
theorem colAt_len (t : List (List Int)) (j : Nat) : (colAt t j).length = t.length := List.length_map _
end WT

set_option Elab.async false
set_option linter.all false
namespace WT

/-! sums -/
def S : Nat → (Nat → Int) → Int
  | 0, _ => 0
  | n + 1, f => S n f + f n
theorem S_congr {n : Nat} {f g : Nat → Int} (h : ∀ i, i < n → f i = g i) : S n f = S n g := by
  induction n with
  | zero => rfl
  | succ n ih => simp only [S]; rw [ih fun i hi => h i (by omega), h n (by omega)]
theorem S_zero {n : Nat} {f : Nat → Int} (h : ∀ i, i < n → f i = 0) : S n f = 0 := by
  induction n with
  | zero => rfl
  | succ n ih => simp only [S]; rw [ih fun i hi => h i (by omega), h n (by omega)]; rfl
theorem S_add (n : Nat) (f g : Nat → Int) : S n (fun i => f i + g i) = S n f + S n g := by
  induction n with
  | zero => rfl
  | succ n ih => simp only [S]; rw [ih]; omega
theorem S_mul (n : Nat) (k : Int) (f : Nat → Int) : S n (fun i => k * f i) = k * S n f := by
  induction n with
  | zero => simp [S]
  | succ n ih => simp only [S]; rw [ih, Int.mul_add]
theorem S_lin (n : Nat) (k : Int) (f g : Nat → Int) : S n (fun i => f i + k * g i) = S n f + k * S n g := by
  rw [S_add, S_mul]
theorem S_left (n : Nat) (f : Nat → Int) : S (n + 1) f = f 0 + S n (fun i => f (i + 1)) := by
  induction n with
  | zero => simp [S]
  | succ n ih =>
    rw [S, ih]; simp only [S]; omega
theorem S_one {n r : Nat} {f : Nat → Int} (hr : r < n) (h : ∀ i, i < n → i ≠ r → f i = 0) : S n f = f r := by
  induction n with
  | zero => omega
  | succ n ih =>
    simp only [S]
    by_cases e : r = n
    · subst e
      rw [S_zero fun i hi => h i (by omega) (by omega)]; omega
    · rw [ih (by omega) fun i hi hne => h i (by omega) hne, h n (by omega) (by omega)]; omega
theorem S_two {n r : Nat} {f : Nat → Int} (hr : r + 1 < n) (h : ∀ i, i < n → i ≠ r → i ≠ r + 1 → f i = 0) (h2 : f r + f (r + 1) = 0) : S n f = 0 := by
  induction n with
  | zero => omega
  | succ n ih =>
    simp only [S]
    by_cases e : r + 1 = n
    · rw [S_one (r := r) (by omega) fun i hi hne => h i (by omega) hne (by omega), ← e]; exact h2
    · rw [ih (by omega) fun i hi hne => h i (by omega) hne, h n (by omega) (by omega) (by omega)]; omega

/-! signs, places -/
def sg (n : Nat) : Int := if n % 2 = 0 then 1 else -1
theorem sg_succ (n : Nat) : sg (n + 1) = - sg n := by
  unfold sg; split <;> split <;> omega
theorem sg_sq (n : Nat) : sg n * sg n = 1 := by
  unfold sg; split <;> rfl
def skip (j k : Nat) : Nat := if k < j then k else k + 1
def unskip (j k : Nat) : Nat := if k < j then k else k - 1
theorem skip_ne (j k : Nat) : skip j k ≠ j := by unfold skip; split <;> omega
theorem skip_lt {j k n : Nat} (hk : k < n) : skip j k < n + 1 := by unfold skip; split <;> omega
theorem skip_eq {i r t : Nat} (h : i ≠ r) : skip i t = r ↔ t = unskip i r := by unfold skip unskip; split <;> split <;> omega

/-! the determinant, by its first column -/
abbrev Mat := Nat → Nat → Int
def D : Nat → Mat → Int
  | 0, _ => 1
  | n + 1, A => S (n + 1) fun i => sg i * A i 0 * D n (fun r c => A (skip i r) (c + 1))
theorem D_congr : ∀ {n : Nat} {A B : Mat}, (∀ i, i < n → ∀ j, j < n → A i j = B i j) → D n A = D n B
  | 0, _, _, _ => rfl
  | n + 1, A, B, h => by
    simp only [D]
    refine S_congr fun i hi => ?_
    rw [h i hi 0 (by omega), D_congr (n := n) fun r hr c hc => h (skip i r) (skip_lt hr) (c + 1) (by omega)]
def rep (A : Mat) (r : Nat) (x : Nat → Int) : Mat := fun i => if i = r then x else A i
theorem rep_same {A : Mat} {r : Nat} {x : Nat → Int} : rep A r x r = x := if_pos rfl
theorem rep_ne {A : Mat} {r i : Nat} {x : Nat → Int} (h : i ≠ r) : rep A r x i = A i := if_neg h
theorem rep_id (A : Mat) (r : Nat) : rep A r (A r) = A := by
  funext i; unfold rep; split
  · rename_i e; rw [e]
  · rfl
theorem rep_skip {A : Mat} {i r : Nat} {x : Nat → Int} (h : i ≠ r) : (fun t c => rep A r x (skip i t) (c + 1)) = rep (fun t c => A (skip i t) (c + 1)) (unskip i r) (fun c => x (c + 1)) := by
  funext t c
  unfold rep
  by_cases e : skip i t = r
  · rw [if_pos e, if_pos ((skip_eq h).mp e)]
  · rw [if_neg e, if_neg (fun q => e ((skip_eq h).mpr q))]
theorem rep_skip_same {A : Mat} {r : Nat} {x : Nat → Int} : (fun t c => rep A r x (skip r t) (c + 1)) = (fun t c => A (skip r t) (c + 1)) := by
  funext t c
  rw [rep_ne (skip_ne r t)]
theorem unskip_lt {i r n : Nat} (h : i ≠ r) (hr : r < n + 1) (hi : i < n + 1) : unskip i r < n := by unfold unskip; split <;> omega

theorem D_row : ∀ {n : Nat} (A : Mat) {r : Nat} (x y : Nat → Int) (k : Int), r < n → D n (rep A r fun j => x j + k * y j) = D n (rep A r x) + k * D n (rep A r y)
  | 0, _, _, _, _, _, h => absurd h (by omega)
  | n + 1, A, r, x, y, k, h => by
    simp only [D]
    rw [← S_lin]
    refine S_congr fun i hi => ?_
    by_cases e : i = r
    · subst e
      rw [rep_skip_same, rep_skip_same, rep_skip_same, rep_same, rep_same, rep_same]
      grind
    · rw [rep_skip e, rep_skip e, rep_skip e, rep_ne e, rep_ne e, rep_ne e, D_row (n := n) _ _ _ k (unskip_lt e h hi)]
      grind
theorem D_zrow {n : Nat} (A : Mat) {r : Nat} (hr : r < n) : D n (rep A r fun _ => 0) = 0 := by
  have h := D_row A (fun _ => 0) (fun _ => 0) 1 hr
  simp only [Int.mul_zero, Int.add_zero, Int.one_mul] at h
  omega
theorem D_sum {n : Nat} (A : Mat) {r : Nat} (hr : r < n) (m : Nat) (l : Nat → Int) (B : Mat) : D n (rep A r fun j => S m fun s => l s * B s j) = S m fun s => l s * D n (rep A r (B s)) := by
  induction m with
  | zero => simp only [S]; exact D_zrow A hr
  | succ m ih => simp only [S]; rw [D_row A (fun j => S m fun s => l s * B s j) (B m) (l m) hr, ih]
theorem D_adj : ∀ {n : Nat} {A : Mat} {r : Nat}, r + 1 < n → A r = A (r + 1) → D n A = 0
  | 0, _, _, h, _ => absurd h (by omega)
  | n + 1, A, r, h, e => by
    simp only [D]
    refine S_two h (fun i hi h1 h2 => ?_) ?_
    · have z : D n (fun t c => A (skip i t) (c + 1)) = 0 := by
        by_cases q : i < r
        · refine D_adj (r := r - 1) (by omega) ?_
          funext c
          have e1 : skip i (r - 1) = r := by unfold skip; split <;> omega
          have e2 : skip i (r - 1 + 1) = r + 1 := by unfold skip; split <;> omega
          rw [e1, e2, e]
        · refine D_adj (r := r) (by omega) ?_
          funext c
          have e1 : skip i r = r := by unfold skip; split <;> omega
          have e2 : skip i (r + 1) = r + 1 := by unfold skip; split <;> omega
          rw [e1, e2, e]
      rw [z]; omega
    · have z : (fun t c => A (skip r t) (c + 1)) = (fun t c => A (skip (r + 1) t) (c + 1)) := by
        funext t c
        by_cases q : t = r
        · have e1 : skip r t = r + 1 := by unfold skip; split <;> omega
          have e2 : skip (r + 1) t = r := by unfold skip; split <;> omega
          rw [e1, e2, e]
        · have e1 : skip r t = skip (r + 1) t := by unfold skip; split <;> split <;> omega
          rw [e1]
      rw [z, sg_succ, e]
      grind
theorem rep_comm {A : Mat} {r s : Nat} {x y : Nat → Int} (h : r ≠ s) : rep (rep A r x) s y = rep (rep A s y) r x := by
  funext i
  by_cases e1 : i = r
  · subst e1; rw [rep_ne h, rep_same, rep_same]
  · by_cases e2 : i = s
    · subst e2; rw [rep_same, rep_ne e1, rep_same]
    · rw [rep_ne e2, rep_ne e1, rep_ne e1, rep_ne e2]
/-- where two rows alike give nought, exchanging them turns the sign -/
theorem D_polar {n : Nat} {A : Mat} {r s : Nat} (hr : r < n) (hs : s < n) (hne : r ≠ s) (z : ∀ x : Nat → Int, D n (rep (rep A r x) s x) = 0) (x y : Nat → Int) :
    D n (rep (rep A r x) s y) = - D n (rep (rep A r y) s x) := by
  have h := z (fun j => x j + 1 * y j)
  rw [D_row _ _ _ _ hs, rep_comm hne, D_row _ _ _ _ hr, rep_comm hne, D_row _ _ _ _ hr, rep_comm hne.symm, rep_comm hne.symm, rep_comm hne.symm, rep_comm hne.symm, z x, z y] at h
  omega
theorem D_swapAdj {n : Nat} {A : Mat} {r : Nat} (h : r + 1 < n) (x y : Nat → Int) : D n (rep (rep A r x) (r + 1) y) = - D n (rep (rep A r y) (r + 1) x) :=
  D_polar (by omega) h (by omega) (fun x => D_adj h (by rw [rep_same, rep_ne (by omega), rep_same])) x y
theorem D_eqd : ∀ (d : Nat) {n : Nat} {A : Mat} {r : Nat}, r + 1 + d < n → A r = A (r + 1 + d) → D n A = 0
  | 0, n, A, r, h, e => D_adj h e
  | d + 1, n, A, r, h, e => by
    have q := D_swapAdj (A := A) (n := n) (r := r + 1 + d) (by omega) (A (r + 1 + d)) (A (r + 1 + d + 1))
    rw [rep_id, rep_id] at q
    rw [q, D_eqd d (r := r) (by omega) ?_]
    · rfl
    · rw [rep_ne (by omega), rep_ne (by omega), rep_ne (by omega), rep_same]; exact e
theorem D_eq {n : Nat} {A : Mat} {r s : Nat} (hr : r < n) (hs : s < n) (hne : r ≠ s) (e : A r = A s) : D n A = 0 := by
  by_cases q : r < s
  · exact D_eqd (s - r - 1) (r := r) (by omega) (by rw [show r + 1 + (s - r - 1) = s by omega]; exact e)
  · exact D_eqd (r - s - 1) (r := s) (by omega) (by rw [show s + 1 + (r - s - 1) = r by omega]; exact e.symm)
theorem D_swap {n : Nat} {A : Mat} {r s : Nat} (hr : r < n) (hs : s < n) (hne : r ≠ s) : D n (rep (rep A r (A s)) s (A r)) = - D n A := by
  have h := D_polar (A := A) hr hs hne (fun x => D_eq hr hs hne (by rw [rep_same, rep_ne hne, rep_same])) (A s) (A r)
  rw [h, rep_id, rep_id]
/-- a row less a multiple of another, exchanged -/
theorem D_meet {n : Nat} {A : Mat} {r s : Nat} (hr : r < n) (hs : s < n) (hne : r ≠ s) (k : Int) : D n (rep (rep A r (A s)) s fun c => A r c - k * A s c) = - D n A := by
  have e : (fun c => A r c - k * A s c) = fun c => A r c + (-k) * A s c := by funext c; grind
  rw [e, D_row _ _ _ _ hs, D_swap hr hs hne, D_eq (A := rep (rep A r (A s)) s (A s)) hr hs hne (by rw [rep_same, rep_ne hne, rep_same])]
  omega

/-! a row taken up past others -/
def mv (A : Mat) (q p : Nat) : Mat := fun r => if r < q then A r else if r = q then A (q + p) else if r ≤ q + p then A (r - 1) else A r
theorem D_mv : ∀ (p : Nat) {n : Nat} {A : Mat} {q : Nat}, q + p < n → D n (mv A q p) = sg p * D n A
  | 0, n, A, q, h => by
    have e : mv A q 0 = A := by
      funext r; unfold mv
      split
      · rfl
      · split
        · rename_i e; rw [e]; rfl
        · split
          · omega
          · rfl
    rw [e]; simp [sg]
  | p + 1, n, A, q, h => by
    have e : mv A q (p + 1) = mv (rep (rep A (q + p) (A (q + p + 1))) (q + p + 1) (A (q + p))) q p := by
      funext r; unfold mv
      by_cases h1 : r < q
      · rw [if_pos h1, if_pos h1, rep_ne (by omega), rep_ne (by omega)]
      · rw [if_neg h1, if_neg h1]
        by_cases h2 : r = q
        · rw [if_pos h2, if_pos h2, rep_ne (by omega), rep_same]; rfl
        · rw [if_neg h2, if_neg h2]
          by_cases h3 : r ≤ q + p
          · rw [if_pos (by omega), if_pos h3, rep_ne (by omega), rep_ne (by omega)]
          · rw [if_neg h3]
            by_cases h4 : r = q + p + 1
            · subst h4; rw [if_pos (by omega), rep_same]; rfl
            · rw [if_neg (by omega), rep_ne (by omega), rep_ne (by omega)]
    rw [e, D_mv p (by omega), D_swap (by omega) (by omega) (by omega), sg_succ]
    grind

/-! columns -/
def repc (A : Mat) (c : Nat) (x : Nat → Int) : Mat := fun i j => if j = c then x i else A i j
theorem D_col : ∀ {n : Nat} (A : Mat) {c : Nat} (x y : Nat → Int) (k : Int), c < n → D n (repc A c fun i => x i + k * y i) = D n (repc A c x) + k * D n (repc A c y)
  | 0, _, _, _, _, _, h => absurd h (by omega)
  | n + 1, A, 0, x, y, k, h => by
    simp only [D]
    rw [← S_lin]
    refine S_congr fun i hi => ?_
    have e : ∀ z : Nat → Int, (fun r c => repc A 0 z (skip i r) (c + 1)) = (fun r c => A (skip i r) (c + 1)) := fun z => by
      funext r c; unfold repc; rw [if_neg (by omega)]
    rw [e, e, e]
    simp only [repc, if_pos]
    grind
  | n + 1, A, c + 1, x, y, k, h => by
    simp only [D]
    rw [← S_lin]
    refine S_congr fun i hi => ?_
    have e : ∀ z : Nat → Int, (fun r d => repc A (c + 1) z (skip i r) (d + 1)) = repc (fun r d => A (skip i r) (d + 1)) c (fun r => z (skip i r)) := fun z => by
      funext r d; unfold repc
      by_cases q : d = c
      · rw [if_pos (by omega), if_pos q]
      · rw [if_neg (by omega), if_neg q]
    have e0 : ∀ z : Nat → Int, repc A (c + 1) z i 0 = A i 0 := fun z => by unfold repc; rw [if_neg (by omega)]
    rw [e, e, e, e0, e0, e0, D_col (n := n) _ _ _ k (by omega)]
    grind
theorem pair_zero : ∀ (n : Nat) (t : Nat → Nat → Int), (∀ i j, i ≤ j → j < n → t i j + t (j + 1) i = 0) → S (n + 1) (fun i => S n fun j => t i j) = 0
  | 0, t, _ => rfl
  | n + 1, t, h => by
    have e : S (n + 1 + 1) (fun i => S (n + 1) fun j => t i j) = S (n + 1) (fun i => S n fun j => t i j) + S (n + 1) (fun i => t i n + t (n + 1) i) := by
      rw [S]
      have e1 : S (n + 1) (fun i => S (n + 1) fun j => t i j) = S (n + 1) (fun i => S n (fun j => t i j) + t i n) := rfl
      rw [e1, S_add, S_add]
      exact Int.add_assoc _ _ _
    rw [e, pair_zero n t fun i j h1 h2 => h i j h1 (by omega), S_zero fun i hi => h i n (by omega) (by omega)]
    rfl
theorem skip_skip {i j r : Nat} (h : i ≤ j) : skip i (skip j r) = skip (j + 1) (skip i r) := by
  unfold skip; repeat' split
  all_goals omega
theorem D_cadj : ∀ {n : Nat} {A : Mat} {c : Nat}, c + 1 < n → (∀ i, A i c = A i (c + 1)) → D n A = 0
  | 0, _, _, h, _ => absurd h (by omega)
  | n + 1, A, c + 1, h, e => by
    simp only [D]
    refine S_zero fun i hi => ?_
    rw [D_cadj (n := n) (c := c) (by omega) fun r => e (skip i r)]; omega
  | 0 + 1, A, 0, h, e => absurd h (by omega)
  | n + 1 + 1, A, 0, h, e => by
    have q : D (n + 1 + 1) A = S (n + 1 + 1) fun i => S (n + 1) fun j => sg i * A i 0 * (sg j * A (skip i j) 1 * D n (fun r c => A (skip i (skip j r)) (c + 1 + 1))) := by
      rw [D]
      refine S_congr fun i hi => ?_
      rw [D, ← S_mul]
    rw [q]
    refine pair_zero (n + 1) _ fun i j h1 h2 => ?_
    have e1 : skip i j = j + 1 := by unfold skip; split <;> omega
    have e2 : skip (j + 1) i = i := by unfold skip; split <;> omega
    have e3 : (fun r c => A (skip i (skip j r)) (c + 1 + 1)) = (fun r c => A (skip (j + 1) (skip i r)) (c + 1 + 1)) := by
      funext r c; rw [skip_skip h1]
    have a1 := e i
    have a2 := e (j + 1)
    simp only [Nat.zero_add] at a1 a2
    rw [e1, e2, e3, sg_succ, a1, a2]
    grind
theorem repc_comm {A : Mat} {r s : Nat} {x y : Nat → Int} (h : r ≠ s) : repc (repc A r x) s y = repc (repc A s y) r x := by
  funext i j
  unfold repc
  by_cases e1 : j = s
  · rw [if_pos e1, if_neg (by omega), if_pos e1]
  · rw [if_neg e1, if_neg e1]
theorem repc_id (A : Mat) (c : Nat) : repc A c (fun i => A i c) = A := by
  funext i j; unfold repc; split
  · rename_i e; rw [e]
  · rfl
theorem D_cpolar {n : Nat} {A : Mat} {r s : Nat} (hr : r < n) (hs : s < n) (hne : r ≠ s) (z : ∀ x : Nat → Int, D n (repc (repc A r x) s x) = 0) (x y : Nat → Int) :
    D n (repc (repc A r x) s y) = - D n (repc (repc A r y) s x) := by
  have h := z (fun j => x j + 1 * y j)
  rw [D_col _ _ _ _ hs, repc_comm hne, D_col _ _ _ _ hr, repc_comm hne, D_col _ _ _ _ hr, repc_comm hne.symm, repc_comm hne.symm, repc_comm hne.symm, repc_comm hne.symm, z x, z y] at h
  omega
theorem repc_same {A : Mat} {c i : Nat} {x : Nat → Int} : repc A c x i c = x i := if_pos rfl
theorem repc_ne {A : Mat} {c i j : Nat} {x : Nat → Int} (h : j ≠ c) : repc A c x i j = A i j := if_neg h
theorem D_ceqd : ∀ (d : Nat) {n : Nat} {A : Mat} {r : Nat}, r + 1 + d < n → (∀ i, A i r = A i (r + 1 + d)) → D n A = 0
  | 0, n, A, r, h, e => D_cadj h e
  | d + 1, n, A, r, h, e => by
    have q := D_cpolar (A := A) (n := n) (r := r + 1 + d) (s := r + 1 + d + 1) (by omega) (by omega) (by omega) (fun x => D_cadj (c := r + 1 + d) (by omega) fun i => by rw [repc_same, repc_ne (by omega), repc_same]) (fun i => A i (r + 1 + d)) (fun i => A i (r + 1 + d + 1))
    rw [repc_id, repc_id] at q
    rw [q, D_ceqd d (r := r) (by omega) fun i => ?_]
    · rfl
    · rw [repc_ne (by omega), repc_ne (by omega), repc_ne (by omega), repc_same]; exact e i
theorem D_ceq {n : Nat} {A : Mat} {r s : Nat} (hr : r < n) (hs : s < n) (hne : r ≠ s) (e : ∀ i, A i r = A i s) : D n A = 0 := by
  by_cases q : r < s
  · exact D_ceqd (s - r - 1) (r := r) (by omega) (fun i => by rw [show r + 1 + (s - r - 1) = s by omega]; exact e i)
  · exact D_ceqd (r - s - 1) (r := s) (by omega) (fun i => by rw [show s + 1 + (r - s - 1) = r by omega]; exact (e i).symm)

/-- Cramer's rule for rows -/
theorem cramer {k : Nat} (C : Mat) (x : Nat → Int) {t : Nat} (ht : t < k) : S k (fun s => D k (rep C s x) * C s t) = D k C * x t := by
  let row : Nat → Nat → Int := fun i => if i = 0 then x else C (i - 1)
  let M : Mat := fun i j => if j = 0 then row i t else row i (j - 1)
  have h0 : D (k + 1) M = 0 := D_ceq (r := 0) (s := t + 1) (by omega) (by omega) (by omega) fun i => by
    show (if 0 = 0 then row i t else row i (0 - 1)) = if t + 1 = 0 then row i t else row i (t + 1 - 1)
    rw [if_pos rfl, if_neg (by omega)]; rfl
  rw [D, S_left] at h0
  have e0 : (fun r c => M (skip 0 r) (c + 1)) = C := by
    funext r c
    show (if c + 1 = 0 then row (skip 0 r) t else row (skip 0 r) (c + 1 - 1)) = C r c
    rw [if_neg (by omega)]
    have e1 : skip 0 r = r + 1 := by unfold skip; split <;> omega
    rw [e1]; rfl
  have e2 : S k (fun i => sg (i + 1) * M (i + 1) 0 * D k (fun r c => M (skip (i + 1) r) (c + 1))) = - S k (fun s => D k (rep C s x) * C s t) := by
    have e3 : S k (fun i => sg (i + 1) * M (i + 1) 0 * D k (fun r c => M (skip (i + 1) r) (c + 1))) = S k (fun s => (-1) * (D k (rep C s x) * C s t)) := by
      refine S_congr fun s hs => ?_
      have e4 : (fun r c => M (skip (s + 1) r) (c + 1)) = mv (rep C s x) 0 s := by
        funext r c
        show (if c + 1 = 0 then row (skip (s + 1) r) t else row (skip (s + 1) r) (c + 1 - 1)) = _
        rw [if_neg (by omega)]
        unfold mv
        rw [if_neg (by omega)]
        by_cases q : r = 0
        · subst q
          have e5 : skip (s + 1) 0 = 0 := by unfold skip; split <;> omega
          rw [if_pos rfl, e5, Nat.zero_add, rep_same]; rfl
        · rw [if_neg q]
          by_cases q2 : r ≤ 0 + s
          · have e5 : skip (s + 1) r = r := by unfold skip; split <;> omega
            rw [if_pos q2, e5, rep_ne (by omega)]
            show (if r = 0 then x else C (r - 1)) (c + 1 - 1) = _
            rw [if_neg q]; rfl
          · have e5 : skip (s + 1) r = r + 1 := by unfold skip; split <;> omega
            rw [if_neg q2, e5, rep_ne (by omega)]
            show (if r + 1 = 0 then x else C (r + 1 - 1)) (c + 1 - 1) = _
            rw [if_neg (by omega)]; rfl
      have e6 : M (s + 1) 0 = C s t := rfl
      rw [e4, D_mv s (by omega), sg_succ, e6]
      have := sg_sq s
      grind
    rw [e3, S_mul]; omega
  have e7 : M 0 0 = x t := rfl
  have e8 : sg 0 = 1 := rfl
  rw [e0, e2, e7, e8] at h0
  grind

/-- the last row has nothing but its last number -/
theorem D_last : ∀ (k : Nat) {A : Mat}, (∀ j, j < k → A k j = 0) → D (k + 1) A = D k A * A k k
  | 0, A, _ => by simp [D, S, sg]
  | k + 1, A, h => by
    have e : D (k + 1 + 1) A = S (k + 1) (fun i => A (k + 1) (k + 1) * (sg i * A i 0 * D k (fun r c => A (skip i r) (c + 1)))) := by
      rw [D, S, h 0 (by omega)]
      have z : S (k + 1) (fun i => sg i * A i 0 * D (k + 1) (fun r c => A (skip i r) (c + 1))) = S (k + 1) (fun i => A (k + 1) (k + 1) * (sg i * A i 0 * D k (fun r c => A (skip i r) (c + 1)))) := by
        refine S_congr fun i hi => ?_
        have e1 : skip i k = k + 1 := by unfold skip; split <;> omega
        rw [D_last k (A := fun r c => A (skip i r) (c + 1)) (fun j hj => by rw [e1]; exact h (j + 1) (by omega)), e1]
        grind
      rw [z]; omega
    rw [e, S_mul, D]
    grind

/-! sizes -/
theorem S_abs {n : Nat} {f : Nat → Int} {c : Nat} (h : ∀ i, i < n → (f i).natAbs ≤ c) : (S n f).natAbs ≤ n * c := by
  induction n with
  | zero => simp [S]
  | succ n ih =>
    simp only [S]
    have h1 := ih fun i hi => h i (by omega)
    have h2 := h n (by omega)
    have h3 := Int.natAbs_add_le (S n f) (f n)
    rw [Nat.succ_mul]; omega
theorem sg_abs (n : Nat) : (sg n).natAbs = 1 := by unfold sg; split <;> rfl
theorem D_abs {N B : Nat} : ∀ {n : Nat} {A : Mat}, n ≤ N → (∀ i j, (A i j).natAbs ≤ B) → (D n A).natAbs ≤ (N * B) ^ n
  | 0, A, _, _ => by simp [D]
  | n + 1, A, h, hA => by
    rw [D]
    refine Nat.le_trans (S_abs (c := B * (N * B) ^ n) fun i hi => ?_) ?_
    · rw [Int.natAbs_mul, Int.natAbs_mul, sg_abs, Nat.one_mul]
      exact Nat.mul_le_mul (hA i 0) (D_abs (N := N) (B := B) (by omega) fun r c => hA _ _)
    · rw [Nat.pow_succ, Nat.mul_comm _ (N * B), ← Nat.mul_assoc]
      exact Nat.mul_le_mul_right _ (Nat.mul_le_mul_right _ h)
end WT

set_option Elab.async false
set_option linter.all false
namespace WT
open Ra64

/-- a table from a column on -/
def MM (j : Nat) (m : Table) : Mat := fun i c => (m.getD i []).getD (j + c) 0
theorem getD_less {a b : List Int} (h : a.length = b.length) (k : Int) (c : Nat) : (less a k b).getD c 0 = a.getD c 0 - k * b.getD c 0 := by
  unfold less
  rw [List.getD_eq_getElem?_getD, List.getD_eq_getElem?_getD, List.getD_eq_getElem?_getD, List.getElem?_zipWith]
  by_cases q : c < a.length
  · rw [List.getElem?_eq_getElem q, List.getElem?_eq_getElem (h ▸ q)]; rfl
  · rw [List.getElem?_eq_none (by omega), List.getElem?_eq_none (by omega)]; simp
theorem less_len {a b : List Int} (h : a.length = b.length) (k : Int) : (less a k b).length = b.length := by
  unfold less; rw [List.length_zipWith]; omega
def sb (s : Bool) : Int := if s = true then -1 else 1
theorem sb_not (s : Bool) : sb (!s) = - sb s := by cases s <;> rfl

theorem getD_mid {a b : List Int} {dn l : Table} : (a :: (dn ++ b :: l)).getD (dn.length + 1) [] = b := by
  rw [List.getD_eq_getElem?_getD, List.getElem?_cons_succ, List.getElem?_append_right (Nat.le_refl _), Nat.sub_self]; rfl
theorem getD_other {a b a' b' : List Int} {dn l : Table} {i : Nat} (h0 : i ≠ 0) (h1 : i ≠ dn.length + 1) : (a :: (dn ++ b :: l)).getD i [] = (a' :: (dn ++ b' :: l)).getD i [] := by
  obtain ⟨k, rfl⟩ : ∃ k, i = k + 1 := ⟨i - 1, by omega⟩
  rw [List.getD_eq_getElem?_getD, List.getD_eq_getElem?_getD, List.getElem?_cons_succ, List.getElem?_cons_succ, List.getElem?_append, List.getElem?_append]
  by_cases q : k < dn.length
  · rw [if_pos q, if_pos q]
  · rw [if_neg q, if_neg q]
    obtain ⟨t, ht⟩ : ∃ t, k - dn.length = t + 1 := ⟨k - dn.length - 1, by omega⟩
    rw [ht, List.getElem?_cons_succ, List.getElem?_cons_succ]
theorem meet_step {j N : Nat} {a b : List Int} {dn l : Table} (h : a.length = b.length) (k : Int) (hN : (dn ++ b :: l).length + 1 = N) :
    D N (MM j (b :: (dn ++ less a k b :: l))) = - D N (MM j (a :: (dn ++ b :: l))) := by
  have hN' : dn.length + 1 < N := by rw [List.length_append, List.length_cons] at hN; omega
  rw [← D_meet (A := MM j (a :: (dn ++ b :: l))) (r := 0) (s := dn.length + 1) (by omega) hN' (by omega) k]
  congr 1
  funext i c
  by_cases q0 : i = 0
  · subst q0
    rw [rep_ne (by omega), rep_same]
    unfold MM
    rw [getD_mid]; rfl
  · by_cases q1 : i = dn.length + 1
    · subst q1
      rw [rep_same]
      unfold MM
      rw [getD_mid, getD_mid, getD_less h]; rfl
    · rw [rep_ne q1, rep_ne q0]
      unfold MM
      rw [getD_other (a' := a) (b' := b) q0 q1]
theorem meetSign_D {j N L : Nat} {dn l : Table} : ∀ (f : Nat) (a b : List Int) (s : Bool), a.length = L → b.length = L → (dn.length + l.length) + 2 = N →
    sb (meetSign f j a b s).2.2 * D N (MM j ((meetSign f j a b s).1 :: (dn ++ (meetSign f j a b s).2.1 :: l))) = sb s * D N (MM j (a :: (dn ++ b :: l))) ∧ (meetSign f j a b s).1.length = L ∧ (meetSign f j a b s).2.1.length = L
  | 0, a, b, s, ha, hb, hN => ⟨rfl, ha, hb⟩
  | f + 1, a, b, s, ha, hb, hN => by
    rw [meetSign]
    by_cases q : at_ b j = 0
    · rw [if_pos q]; exact ⟨rfl, ha, hb⟩
    · rw [if_neg q]
      have ih := meetSign_D (j := j) (dn := dn) (l := l) (N := N) f b (less a (at_ a j / at_ b j) b) (!s) hb (by rw [less_len (ha.trans hb.symm)]; exact hb) hN
      refine ⟨?_, ih.2⟩
      rw [ih.1, meet_step (ha.trans hb.symm) _ (by rw [List.length_append, List.length_cons]; omega), sb_not]
      grind
theorem meetSign_zero {j : Nat} : ∀ (f : Nat) (a b : List Int) (s : Bool), a.length = b.length → (at_ b j).natAbs < f → at_ (meetSign f j a b s).2.1 j = 0
  | 0, a, b, s, _, h => absurd h (by omega)
  | f + 1, a, b, s, e, h => by
    rw [meetSign]
    by_cases q : at_ b j = 0
    · rw [if_pos q]; exact q
    · rw [if_neg q]
      refine meetSign_zero f b _ _ (less_len e _).symm ?_
      have e1 : at_ (less a (at_ a j / at_ b j) b) j = at_ a j % at_ b j := by
        unfold at_
        rw [getD_less e, Int.emod_def, Int.mul_comm]
      rw [e1]
      have h1 := Int.emod_nonneg (at_ a j) q
      have h2 := Int.emod_lt (at_ a j) q
      omega
abbrev Acc := List Int × Table × Bool
def fstep (j : Nat) (x : Acc) (q : List Int) : Acc := let y := meetSign ((at_ q j).natAbs + 1) j x.1 q x.2.2
  (y.1, x.2.1 ++ [y.2.1], y.2.2)
theorem fold_D {j N L : Nat} : ∀ (l : Table) (x : Acc), x.1.length = L → (∀ r ∈ l, r.length = L) → (∀ r ∈ x.2.1, at_ r j = 0 ∧ r.length = L) → x.2.1.length + l.length + 1 = N →
    sb (l.foldl (fstep j) x).2.2 * D N (MM j ((l.foldl (fstep j) x).1 :: (l.foldl (fstep j) x).2.1)) = sb x.2.2 * D N (MM j (x.1 :: (x.2.1 ++ l))) ∧
    (l.foldl (fstep j) x).1.length = L ∧ (∀ r ∈ (l.foldl (fstep j) x).2.1, at_ r j = 0 ∧ r.length = L) ∧ (l.foldl (fstep j) x).2.1.length + 1 = N
  | [], x, h1, h2, h3, h4 => ⟨by rw [List.foldl_nil, List.append_nil], h1, h3, by simpa using h4⟩
  | q :: l, x, h1, h2, h3, h4 => by
    have hq := h2 q (List.mem_cons_self ..)
    have hm := meetSign_D (j := j) (N := N) (L := L) (dn := x.2.1) (l := l) ((at_ q j).natAbs + 1) x.1 q x.2.2 h1 hq (by rw [List.length_cons] at h4; omega)
    have hz := meetSign_zero (j := j) ((at_ q j).natAbs + 1) x.1 q x.2.2 (h1.trans hq.symm) (by omega)
    rw [List.foldl_cons]
    have ih := fold_D (j := j) (N := N) (L := L) l (fstep j x q) hm.2.1 (fun r hr => h2 r (List.mem_cons_of_mem _ hr)) (fun r hr => ?_) ?_
    · refine ⟨?_, ih.2⟩
      rw [ih.1]
      show sb (meetSign ((at_ q j).natAbs + 1) j x.1 q x.2.2).2.2 * D N (MM j ((meetSign ((at_ q j).natAbs + 1) j x.1 q x.2.2).1 :: ((x.2.1 ++ [(meetSign ((at_ q j).natAbs + 1) j x.1 q x.2.2).2.1]) ++ l))) = _
      rw [List.append_assoc, List.singleton_append]
      exact hm.1
    · rcases List.mem_append.mp (show r ∈ x.2.1 ++ [(meetSign ((at_ q j).natAbs + 1) j x.1 q x.2.2).2.1] from hr) with e | e
      · exact h3 r e
      · rw [List.mem_singleton.mp e]; exact ⟨hz, hm.2.2⟩
    · show (x.2.1 ++ [_]).length + l.length + 1 = N
      rw [List.length_append, List.length_singleton]; rw [List.length_cons] at h4; omega
/-- the determinant of the specification is the determinant -/
theorem detBy_D : ∀ (f j L : Nat) (m : Table), m.length = f → (∀ r ∈ m, r.length = L) → detBy f j m = D f (MM j m)
  | 0, _, _, _, _, _ => rfl
  | f + 1, j, L, [], h, _ => by simp at h
  | f + 1, j, L, r :: l, h, hr => by
    have hf := fold_D (j := j) (N := f + 1) (L := L) l (r, [], false) (hr r (List.mem_cons_self ..)) (fun q hq => hr q (List.mem_cons_of_mem _ hq)) (fun q hq => absurd hq (by simp)) (by simpa using h)
    have e : detBy (f + 1) j (r :: l) = if (l.foldl (fstep j) (r, [], false)).2.2 = true then -(at_ (l.foldl (fstep j) (r, [], false)).1 j * detBy f (j + 1) (l.foldl (fstep j) (r, [], false)).2.1) else at_ (l.foldl (fstep j) (r, [], false)).1 j * detBy f (j + 1) (l.foldl (fstep j) (r, [], false)).2.1 := rfl
    rw [e]
    generalize l.foldl (fstep j) (r, [], false) = x at hf
    obtain ⟨h1, h2, h3, h4⟩ := hf
    rw [detBy_D f (j + 1) L x.2.1 (by omega) fun q hq => (h3 q hq).2]
    have e1 : D (f + 1) (MM j (x.1 :: x.2.1)) = at_ x.1 j * D f (MM (j + 1) x.2.1) := by
      rw [D, S_left, S_zero (n := f)]
      · have e2 : (fun r c => MM j (x.1 :: x.2.1) (skip 0 r) (c + 1)) = MM (j + 1) x.2.1 := by
          funext t c
          have e3 : skip 0 t = t + 1 := by unfold skip; split <;> omega
          rw [e3]
          unfold MM
          rw [show j + (c + 1) = j + 1 + c by omega]; rfl
        rw [e2]
        show sg 0 * (x.1.getD (j + 0) 0) * _ + 0 = x.1.getD j 0 * _
        rw [show sg 0 = 1 from rfl, Nat.add_zero, Int.one_mul, Int.add_zero]
      · intro i hi
        have z : MM j (x.1 :: x.2.1) (i + 1) 0 = 0 := by
          show (x.2.1.getD i []).getD (j + 0) 0 = 0
          have hi' : i < x.2.1.length := by omega
          have := (h3 (x.2.1.getD i []) (by rw [List.getD_eq_getElem?_getD, List.getElem?_eq_getElem hi']; exact List.getElem_mem hi')).1
          exact this
        rw [z]; omega
    have e4 : sb false = 1 := rfl
    rw [e1, e4] at h1
    have e5 : MM j (r :: ([] ++ l)) = MM j (r :: l) := rfl
    rw [e5] at h1
    rw [Int.one_mul] at h1
    rw [← h1]
    by_cases q : x.2.2 = true
    · rw [if_pos q, show sb x.2.2 = -1 by rw [q]; rfl]; omega
    · rw [if_neg q, show sb x.2.2 = 1 by unfold sb; rw [if_neg q]]; omega
end WT

set_option Elab.async false
set_option linter.all false
namespace WT
open Ra64
abbrev Vec := Nat → Int
def vec (l : List Int) : Vec := fun j => l.getD j 0
/-! what rows make -/
inductive Lat (m : Table) : Vec → Prop
  | zero : Lat m (fun _ => 0)
  | add {v : Vec} {r : List Int} (k : Int) : Lat m v → r ∈ m → Lat m (fun j => v j + k * vec r j)
theorem Lat.of_eq {m : Table} {v w : Vec} (h : Lat m v) (e : ∀ j, v j = w j) : Lat m w := by
  have : v = w := funext e
  rw [← this]; exact h
theorem Lat.lin {m : Table} {v w : Vec} (k : Int) (h : Lat m v) (h2 : Lat m w) : Lat m (fun j => v j + k * w j) := by
  induction h2 with
  | zero => exact h.of_eq fun j => by dsimp only; omega
  | @add w r k' _ hr ih => exact (Lat.add (k * k') ih hr).of_eq fun j => by grind
theorem Lat.mem {m : Table} {r : List Int} (h : r ∈ m) : Lat m (vec r) := (Lat.add 1 Lat.zero h).of_eq fun j => by omega
theorem Lat.smul {m : Table} {v : Vec} (k : Int) (h : Lat m v) : Lat m (fun j => k * v j) := (Lat.lin k Lat.zero h).of_eq fun j => by omega
theorem Lat.trans {m n : Table} {v : Vec} (h : Lat m v) (hr : ∀ r ∈ m, Lat n (vec r)) : Lat n v := by
  induction h with
  | zero => exact .zero
  | add k _ hm ih => exact ih.lin k (hr _ hm)
theorem Lat.mono {m n : Table} {v : Vec} (h : Lat m v) (hr : ∀ r ∈ m, r ∈ n) : Lat n v := h.trans fun r hm => .mem (hr r hm)
theorem Lat.split {r : List Int} {s : Table} {v : Vec} (h : Lat (r :: s) v) : ∃ (k : Int) (w : Vec), Lat s w ∧ ∀ j, v j = k * vec r j + w j := by
  induction h with
  | zero => exact ⟨0, _, .zero, fun j => by dsimp only; omega⟩
  | @add v q k _ hq ih =>
    obtain ⟨k', w, hw, e⟩ := ih
    rcases List.mem_cons.mp hq with rfl | hq
    · exact ⟨k' + k, w, hw, fun j => by dsimp only; rw [e]; grind⟩
    · exact ⟨k', _, hw.add k hq, fun j => by dsimp only; rw [e]; omega⟩
theorem Lat.vanish {m : Table} {v : Vec} {i : Nat} (h : Lat m v) (hz : ∀ r ∈ m, vec r i = 0) : v i = 0 := by
  induction h with
  | zero => rfl
  | add k _ hm ih => dsimp only; rw [ih, hz _ hm]; omega
theorem Lat.nil {v : Vec} (h : Lat [] v) : ∀ j, v j = 0 := fun j => h.vanish fun r hr => absurd hr (by simp)
def LatEq (m n : Table) : Prop := ∀ v, Lat m v ↔ Lat n v
theorem LatEq.refl (m : Table) : LatEq m m := fun _ => Iff.rfl
theorem LatEq.symm {m n : Table} (h : LatEq m n) : LatEq n m := fun v => (h v).symm
theorem LatEq.trans {l m n : Table} (h : LatEq l m) (h' : LatEq m n) : LatEq l n := fun v => (h v).trans (h' v)
theorem LatEq.of {m n : Table} (h1 : ∀ r ∈ m, Lat n (vec r)) (h2 : ∀ r ∈ n, Lat m (vec r)) : LatEq m n := fun v => ⟨fun h => h.trans h1, fun h => h.trans h2⟩
theorem LatEq.cons {m n : Table} (r : List Int) (h : LatEq m n) : LatEq (r :: m) (r :: n) := by
  refine .of (fun q hq => ?_) (fun q hq => ?_)
  · rcases List.mem_cons.mp hq with rfl | hq
    · exact .mem (List.mem_cons_self ..)
    · exact ((h _).mp (.mem hq)).mono fun z hz => List.mem_cons_of_mem _ hz
  · rcases List.mem_cons.mp hq with rfl | hq
    · exact .mem (List.mem_cons_self ..)
    · exact ((h _).mpr (.mem hq)).mono fun z hz => List.mem_cons_of_mem _ hz

/-! stairs: normal tables -/
def LeadAt (v : Vec) (j : Nat) : Prop := (∀ i, i < j → v i = 0) ∧ v j ≠ 0
theorem LeadAt.uniq {v : Vec} {i j : Nat} (h : LeadAt v i) (h' : LeadAt v j) : i = j := by
  rcases Nat.lt_trichotomy i j with q | q | q
  · exact absurd (h'.1 i q) h.2
  · exact q
  · exact absurd (h.1 j q) h'.2
def Ech : Table → Prop
  | [] => True
  | r :: s => (∃ j, LeadAt (vec r) j ∧ 0 < vec r j ∧ ∀ q ∈ s, ∀ i, i ≤ j → vec q i = 0) ∧ Ech s
def Nrm : Table → Prop
  | [] => True
  | r :: s => (∃ j, LeadAt (vec r) j ∧ 0 < vec r j ∧ (∀ q ∈ s, ∀ i, i ≤ j → vec q i = 0) ∧ ∀ q ∈ s, ∀ i, LeadAt (vec q) i → 0 ≤ vec r i ∧ vec r i < vec q i) ∧ Nrm s
theorem Nrm.ech : ∀ {t : Table}, Nrm t → Ech t
  | [], _ => trivial
  | r :: s, ⟨⟨j, h1, h2, h3, _⟩, h⟩ => ⟨⟨j, h1, h2, h3⟩, h.ech⟩
/-- what stands in the tail -/
theorem Lat.tail {r : List Int} {s : Table} {j : Nat} {v : Vec} (h : Lat (r :: s) v) (hl : LeadAt (vec r) j) (hs : ∀ q ∈ s, vec q j = 0) (hv : v j = 0) : Lat s v := by
  obtain ⟨k, w, hw, e⟩ := h.split
  have e1 := e j
  rw [hv, hw.vanish hs] at e1
  have hk : k = 0 := by
    rcases Int.mul_eq_zero.mp (show k * vec r j = 0 by omega) with z | z
    · exact z
    · exact absurd z hl.2
  exact hw.of_eq fun i => by rw [e i, hk]; omega
theorem ech_low {r : List Int} {s : Table} {j : Nat} {v : Vec} (h : Lat (r :: s) v) (hl : LeadAt (vec r) j) (hs : ∀ q ∈ s, ∀ i, i ≤ j → vec q i = 0) : ∀ i, i < j → v i = 0 := fun i hi =>
  h.vanish fun q hq => by
    rcases List.mem_cons.mp hq with rfl | hq
    · exact hl.1 i hi
    · exact hs q hq i (by omega)
theorem vec_ext {a b : List Int} (hl : a.length = b.length) (h : ∀ j, vec a j = vec b j) : a = b := by
  refine List.ext_getElem hl fun i h1 h2 => ?_
  have := h i
  unfold vec at this
  rw [List.getD_eq_getElem?_getD, List.getD_eq_getElem?_getD, List.getElem?_eq_getElem h1, List.getElem?_eq_getElem h2] at this
  exact this
/-- small at every first number: nothing -/
theorem small_zero : ∀ {s : Table} {w : Vec}, Ech s → Lat s w → (∀ q ∈ s, ∀ i, LeadAt (vec q) i → (w i).natAbs < (vec q i).natAbs) → ∀ j, w j = 0
  | [], w, _, h, _ => h.nil
  | r :: s, w, ⟨⟨j, hl, hp, hs⟩, he⟩, h, hb => by
    obtain ⟨k, u, hu, e⟩ := h.split
    have e1 := e j
    rw [hu.vanish (fun q hq => hs q hq j (Nat.le_refl j))] at e1
    have hk : k = 0 := by
      have b := hb r (List.mem_cons_self ..) j hl
      rw [e1, Int.add_zero, Int.natAbs_mul] at b
      rcases Nat.eq_zero_or_pos k.natAbs with z | z
      · omega
      · have := Nat.le_mul_of_pos_left (vec r j).natAbs z; omega
    have hw : Lat s w := hu.of_eq fun i => by rw [e i, hk]; omega
    exact small_zero he hw fun q hq => hb q (List.mem_cons_of_mem _ hq)
theorem lead_le {r : List Int} {s : Table} {j i : Nat} {v : Vec} (h : Lat (r :: s) v) (hl : LeadAt (vec r) j) (hs : ∀ q ∈ s, ∀ i, i ≤ j → vec q i = 0) (hv : LeadAt v i) : j ≤ i := by
  refine Nat.le_of_not_lt fun q => hv.2 (ech_low h hl hs i q)
/-- at the lead the head's number divides -/
theorem head_dvd {r : List Int} {s : Table} {j : Nat} {v : Vec} (h : Lat (r :: s) v) (hs : ∀ q ∈ s, vec q j = 0) : vec r j ∣ v j := by
  obtain ⟨k, w, hw, e⟩ := h.split
  rw [e j, hw.vanish hs]
  exact ⟨k, by rw [Int.mul_comm]; omega⟩
/-- one normal table alone -/
theorem nrm_unique {c : Nat} : ∀ {t t' : Table}, Nrm t → Nrm t' → (∀ r ∈ t, r.length = c) → (∀ r ∈ t', r.length = c) → LatEq t t' → t = t'
  | [], [], _, _, _, _, _ => rfl
  | [], r' :: s', _, ⟨⟨j, hl, _⟩, _⟩, _, _, h => absurd (((h _).mpr (.mem (List.mem_cons_self ..))).nil j) hl.2
  | r :: s, [], ⟨⟨j, hl, _⟩, _⟩, _, _, _, h => absurd (((h _).mp (.mem (List.mem_cons_self ..))).nil j) hl.2
  | r :: s, r' :: s', ⟨⟨j, hl, hp, hs, hr⟩, hn⟩, ⟨⟨j', hl', hp', hs', hr'⟩, hn'⟩, hc, hc', h => by
    have m : Lat (r' :: s') (vec r) := (h _).mp (.mem (List.mem_cons_self ..))
    have m' : Lat (r :: s) (vec r') := (h _).mpr (.mem (List.mem_cons_self ..))
    have ej : j = j' := Nat.le_antisymm (lead_le m' hl hs hl') (lead_le m hl' hs' hl)
    subst ej
    have ev : vec r j = vec r' j := by
      have d1 := head_dvd m' (fun q hq => hs q hq j (Nat.le_refl j))
      have d2 := head_dvd m (fun q hq => hs' q hq j (Nat.le_refl j))
      exact Int.dvd_antisymm (by omega) (by omega) d1 d2
    have es : LatEq s s' := fun v => by
      constructor
      · intro hv
        have hz : v j = 0 := hv.vanish fun q hq => hs q hq j (Nat.le_refl j)
        exact Lat.tail ((h v).mp (hv.mono fun q hq => List.mem_cons_of_mem _ hq)) hl' (fun q hq => hs' q hq j (Nat.le_refl j)) hz
      · intro hv
        have hz : v j = 0 := hv.vanish fun q hq => hs' q hq j (Nat.le_refl j)
        exact Lat.tail ((h v).mpr (hv.mono fun q hq => List.mem_cons_of_mem _ hq)) hl (fun q hq => hs q hq j (Nat.le_refl j)) hz
    have e : s = s' := nrm_unique hn hn' (fun q hq => hc q (List.mem_cons_of_mem _ hq)) (fun q hq => hc' q (List.mem_cons_of_mem _ hq)) es
    subst e
    have hd : Lat s (fun i => vec r i + (-1) * vec r' i) := by
      refine Lat.tail (r := r) (j := j) ((Lat.mem (List.mem_cons_self ..)).lin (-1) m') hl (fun q hq => hs q hq j (Nat.le_refl j)) ?_
      omega
    have z := small_zero hn.ech hd fun q hq i hi => by
      have b1 := hr q hq i hi
      have b2 := hr' q hq i hi
      omega
    have er : r = r' := vec_ext ((hc r (List.mem_cons_self ..)).trans (hc' r' (List.mem_cons_self ..)).symm) fun i => by have := z i; omega
    rw [er]
end WT

set_option Elab.async false
set_option linter.all false
namespace WT
open Ra64
theorem vec_less {a b : List Int} (h : a.length = b.length) (k : Int) (i : Nat) : vec (less a k b) i = vec a i - k * vec b i := getD_less h k i
theorem meet_len {j L : Nat} : ∀ (f : Nat) (a b : List Int), a.length = L → b.length = L → (meet f j a b).1.length = L ∧ (meet f j a b).2.length = L
  | 0, a, b, ha, hb => ⟨ha, hb⟩
  | f + 1, a, b, ha, hb => by
    rw [meet]
    by_cases q : at_ b j = 0
    · rw [if_pos q]; exact ⟨ha, hb⟩
    · rw [if_neg q]; exact meet_len f b _ hb (by rw [less_len (ha.trans hb.symm)]; exact hb)
theorem meet_zero {j : Nat} : ∀ (f : Nat) (a b : List Int), a.length = b.length → (at_ b j).natAbs < f → at_ (meet f j a b).2 j = 0
  | 0, a, b, _, h => absurd h (by omega)
  | f + 1, a, b, e, h => by
    rw [meet]
    by_cases q : at_ b j = 0
    · rw [if_pos q]; exact q
    · rw [if_neg q]
      refine meet_zero f b _ (less_len e _).symm ?_
      have e1 : at_ (less a (at_ a j / at_ b j) b) j = at_ a j % at_ b j := by
        unfold at_
        rw [getD_less e, Int.emod_def, Int.mul_comm]
      rw [e1]
      have h1 := Int.emod_nonneg (at_ a j) q
      have h2 := Int.emod_lt (at_ a j) q
      omega
theorem mem2 {a b : List Int} {dn l : Table} {r : List Int} : r ∈ a :: (dn ++ b :: l) ↔ r = a ∨ r = b ∨ r ∈ dn ++ l := by
  simp only [List.mem_cons, List.mem_append]
  constructor
  · rintro (h | h | h | h)
    · exact .inl h
    · exact .inr (.inr (.inl h))
    · exact .inr (.inl h)
    · exact .inr (.inr (.inr h))
  · rintro (h | h | h | h)
    · exact .inl h
    · exact .inr (.inr (.inl h))
    · exact .inr (.inl h)
    · exact .inr (.inr (.inr h))
theorem swap_lat {a b : List Int} {dn l : Table} (h : a.length = b.length) (k : Int) : LatEq (b :: (dn ++ less a k b :: l)) (a :: (dn ++ b :: l)) := by
  have mb : ∀ x y : List Int, Lat (x :: (dn ++ y :: l)) (vec x) := fun x y => .mem (mem2.mpr (.inl rfl))
  have mc : ∀ x y : List Int, Lat (x :: (dn ++ y :: l)) (vec y) := fun x y => .mem (mem2.mpr (.inr (.inl rfl)))
  refine .of (fun r hr => ?_) (fun r hr => ?_)
  · rcases mem2.mp hr with rfl | rfl | hr
    · exact mc _ _
    · exact ((mb a b).lin (-k) (mc a b)).of_eq fun i => by rw [vec_less h]; grind
    · exact .mem (mem2.mpr (.inr (.inr hr)))
  · rcases mem2.mp hr with rfl | rfl | hr
    · exact ((mc b (less r k b)).lin k (mb b (less r k b))).of_eq fun i => by rw [vec_less h]; omega
    · exact mb _ _
    · exact .mem (mem2.mpr (.inr (.inr hr)))
theorem meet_lat {j L : Nat} {dn l : Table} : ∀ (f : Nat) (a b : List Int), a.length = L → b.length = L → LatEq ((meet f j a b).1 :: (dn ++ (meet f j a b).2 :: l)) (a :: (dn ++ b :: l))
  | 0, a, b, ha, hb => .refl _
  | f + 1, a, b, ha, hb => by
    rw [meet]
    by_cases q : at_ b j = 0
    · rw [if_pos q]; exact .refl _
    · rw [if_neg q]
      exact (meet_lat (j := j) f b _ hb (by rw [less_len (ha.trans hb.symm)]; exact hb)).trans (swap_lat (ha.trans hb.symm) _)
abbrev Acc2 := List Int × Table
def gstep (j : Nat) (x : Acc2) (r : List Int) : Acc2 := let y := meet ((at_ r j).natAbs + 1) j x.1 r
  (y.1, x.2 ++ [y.2])
theorem gather_spec {j L : Nat} : ∀ (l : Table) (x : Acc2), x.1.length = L → (∀ r ∈ l, r.length = L) → (∀ r ∈ x.2, at_ r j = 0 ∧ r.length = L) →
    LatEq ((l.foldl (gstep j) x).1 :: (l.foldl (gstep j) x).2) (x.1 :: (x.2 ++ l)) ∧ (l.foldl (gstep j) x).1.length = L ∧ (∀ r ∈ (l.foldl (gstep j) x).2, at_ r j = 0 ∧ r.length = L) ∧ (l.foldl (gstep j) x).2.length = x.2.length + l.length
  | [], x, h1, h2, h3 => ⟨by rw [List.foldl_nil, List.append_nil]; exact .refl _, h1, h3, rfl⟩
  | q :: l, x, h1, h2, h3 => by
    have hq := h2 q (List.mem_cons_self ..)
    have hl := meet_len (j := j) ((at_ q j).natAbs + 1) x.1 q h1 hq
    have hz := meet_zero (j := j) ((at_ q j).natAbs + 1) x.1 q (h1.trans hq.symm) (by omega)
    rw [List.foldl_cons]
    have ih := gather_spec (j := j) (L := L) l (gstep j x q) hl.1 (fun r hr => h2 r (List.mem_cons_of_mem _ hr)) (fun r hr => ?_)
    · refine ⟨ih.1.trans ?_, ih.2.1, ih.2.2.1, ?_⟩
      · show LatEq ((meet ((at_ q j).natAbs + 1) j x.1 q).1 :: ((x.2 ++ [(meet ((at_ q j).natAbs + 1) j x.1 q).2]) ++ l)) _
        rw [List.append_assoc, List.singleton_append]
        exact meet_lat _ _ _ h1 hq
      · rw [ih.2.2.2]
        show (x.2 ++ [_]).length + l.length = _
        rw [List.length_append, List.length_singleton, List.length_cons]; omega
    · rcases List.mem_append.mp (show r ∈ x.2 ++ [(meet ((at_ q j).natAbs + 1) j x.1 q).2] from hr) with e | e
      · exact h3 r e
      · rw [List.mem_singleton.mp e]; exact ⟨hz, hl.2⟩
theorem neg_lat {r : List Int} {s : Table} : LatEq ((r.map fun z => -z) :: s) (r :: s) := by
  have e : ∀ i, vec (r.map fun z => -z) i = - vec r i := fun i => by
    unfold vec
    rw [List.getD_eq_getElem?_getD, List.getD_eq_getElem?_getD, List.getElem?_map]
    cases r[i]? <;> simp
  refine .of (fun q hq => ?_) (fun q hq => ?_)
  · rcases List.mem_cons.mp hq with rfl | hq
    · exact ((Lat.mem (List.mem_cons_self ..)).smul (-1)).of_eq fun i => by rw [e]; omega
    · exact .mem (List.mem_cons_of_mem _ hq)
  · rcases List.mem_cons.mp hq with rfl | hq
    · exact ((Lat.mem (List.mem_cons_self ..)).smul (-1)).of_eq fun i => by rw [e]; omega
    · exact .mem (List.mem_cons_of_mem _ hq)
theorem vec_neg (r : List Int) (i : Nat) : vec (r.map fun z => -z) i = - vec r i := by
  unfold vec
  rw [List.getD_eq_getElem?_getD, List.getD_eq_getElem?_getD, List.getElem?_map]
  cases r[i]? <;> simp
theorem vec_out {r : List Int} {i : Nat} (h : r.length ≤ i) : vec r i = 0 := by
  unfold vec
  rw [List.getD_eq_getElem?_getD, List.getElem?_eq_none h]; rfl
theorem stairs_spec {c : Nat} : ∀ (f j : Nat) (m : Table), j + f = c → (∀ r ∈ m, r.length = c) → (∀ r ∈ m, ∀ i, i < j → vec r i = 0) →
    Ech (stairs f j m) ∧ LatEq (stairs f j m) m ∧ (∀ r ∈ stairs f j m, r.length = c)
  | 0, j, m, hj, hl, hz => by
    refine ⟨trivial, .of (fun r hr => absurd hr (by simp [stairs])) (fun r hr => ?_), fun r hr => absurd hr (by simp [stairs])⟩
    refine Lat.zero.of_eq fun i => ?_
    by_cases q : i < j
    · exact (hz r hr i q).symm
    · exact (vec_out (by rw [hl r hr]; omega)).symm
  | f + 1, j, [], hj, hl, hz => ⟨trivial, .refl _, fun r hr => absurd hr (by simp [stairs])⟩
  | f + 1, j, r :: l, hj, hl, hz => by
    have g := gather_spec (j := j) (L := c) l (r, []) (hl r (List.mem_cons_self ..)) (fun q hq => hl q (List.mem_cons_of_mem _ hq)) (fun q hq => absurd hq (by simp))
    have e : stairs (f + 1) j (r :: l) = if at_ (l.foldl (gstep j) (r, [])).1 j = 0 then stairs f (j + 1) ((l.foldl (gstep j) (r, [])).1 :: (l.foldl (gstep j) (r, [])).2)
      else (if at_ (l.foldl (gstep j) (r, [])).1 j < 0 then (l.foldl (gstep j) (r, [])).1.map (fun z => -z) else (l.foldl (gstep j) (r, [])).1) :: stairs f (j + 1) (l.foldl (gstep j) (r, [])).2 := rfl
    rw [e]
    generalize l.foldl (gstep j) (r, []) = x at g
    obtain ⟨g1, g2, g3, g4⟩ := g
    have g1 : LatEq (x.1 :: x.2) (r :: l) := g1
    have hlow : ∀ q ∈ x.1 :: x.2, ∀ i, i < j → vec q i = 0 := fun q hq i hi => ((g1 _).mp (.mem hq)).vanish fun p hp => hz p hp i hi
    have hlow2 : ∀ q ∈ x.2, ∀ i, i < j + 1 → vec q i = 0 := fun q hq i hi => by
      by_cases e : i = j
      · rw [e]; exact (g3 q hq).1
      · exact hlow q (List.mem_cons_of_mem _ hq) i (by omega)
    by_cases q : at_ x.1 j = 0
    · rw [if_pos q]
      obtain ⟨i1, i2, i3⟩ := stairs_spec (c := c) f (j + 1) (x.1 :: x.2) (by omega) (fun p hp => by
        rcases List.mem_cons.mp hp with rfl | hp
        · exact g2
        · exact (g3 p hp).2) (fun p hp i hi => by
        rcases List.mem_cons.mp hp with rfl | hp
        · by_cases e : i = j
          · rw [e]; exact q
          · exact hlow _ (List.mem_cons_self ..) i (by omega)
        · exact hlow2 p hp i hi)
      exact ⟨i1, i2.trans g1, i3⟩
    · rw [if_neg q]
      obtain ⟨i1, i2, i3⟩ := stairs_spec (c := c) f (j + 1) x.2 (by omega) (fun p hp => (g3 p hp).2) hlow2
      have hs : ∀ p ∈ stairs f (j + 1) x.2, ∀ i, i ≤ j → vec p i = 0 := fun p hp i hi => ((i2 _).mp (.mem hp)).vanish fun u hu => hlow2 u hu i (by omega)
      have q' : vec x.1 j ≠ 0 := q
      by_cases neg : at_ x.1 j < 0
      · have neg' : vec x.1 j < 0 := neg
        rw [if_pos neg]
        refine ⟨⟨⟨j, ⟨fun i hi => by rw [vec_neg, hlow _ (List.mem_cons_self ..) i hi]; rfl, by rw [vec_neg]; omega⟩, by rw [vec_neg]; omega, hs⟩, i1⟩, (neg_lat.trans (i2.cons _)).trans g1, fun p hp => ?_⟩
        rcases List.mem_cons.mp hp with rfl | hp
        · rw [List.length_map]; exact g2
        · exact i3 p hp
      · have neg' : ¬ vec x.1 j < 0 := neg
        rw [if_neg neg]
        refine ⟨⟨⟨j, ⟨fun i hi => hlow _ (List.mem_cons_self ..) i hi, q'⟩, by omega, hs⟩, i1⟩, (i2.cons _).trans g1, fun p hp => ?_⟩
        rcases List.mem_cons.mp hp with rfl | hp
        · exact g2
        · exact i3 p hp
end WT

set_option Elab.async false
set_option linter.all false
namespace WT
open Ra64
theorem lead_of {r : List Int} {j : Nat} (h : LeadAt (vec r) j) : lead r = some j := by
  have hj : j < r.length := Nat.lt_of_not_le fun q => h.2 (vec_out q)
  have hv : ∀ (i : Nat) (hi : i < r.length), vec r i = r[i] := fun i hi => by
    unfold vec
    rw [List.getD_eq_getElem?_getD, List.getElem?_eq_getElem hi]; rfl
  unfold lead
  rw [List.findIdx?_eq_some_iff_getElem]
  refine ⟨hj, ?_, fun i hi => ?_⟩
  · have := h.2
    rw [hv j hj] at this
    simpa using this
  · have := h.1 i hi
    rw [hv i (by omega)] at this
    simpa using this
def rw_ (t : Table) (a : Nat) : List Int := t.getD a []
structure Stg (c : Nat) (t : Table) (ld : Nat → Nat) (i : Nat) : Prop where
  len : ∀ r ∈ t, r.length = c
  lead : ∀ a, a < t.length → LeadAt (vec (rw_ t a)) (ld a) ∧ 0 < vec (rw_ t a) (ld a)
  low : ∀ a b, a < b → b < t.length → ∀ x, x ≤ ld a → vec (rw_ t b) x = 0
  red : ∀ a b, b < a → a < i → a < t.length → 0 ≤ vec (rw_ t b) (ld a) ∧ vec (rw_ t b) (ld a) < vec (rw_ t a) (ld a)
theorem rw_mem {t : Table} {a : Nat} (h : a < t.length) : rw_ t a ∈ t := by
  unfold rw_
  rw [List.getD_eq_getElem?_getD, List.getElem?_eq_getElem h]; exact List.getElem_mem h
theorem mem_rw {t : Table} {r : List Int} (h : r ∈ t) : ∃ a, a < t.length ∧ rw_ t a = r := by
  obtain ⟨i, hi, e⟩ := List.mem_iff_getElem.mp h
  refine ⟨i, hi, ?_⟩
  unfold rw_
  rw [List.getD_eq_getElem?_getD, List.getElem?_eq_getElem hi, e]; rfl
theorem stg_start {c : Nat} : ∀ {t : Table}, Ech t → (∀ r ∈ t, r.length = c) → ∃ ld, Stg c t ld 0
  | [], _, hl => ⟨fun _ => 0, hl, fun a h => absurd h (by simp), fun a b _ h => absurd h (by simp), fun a b _ h => absurd h (by omega)⟩
  | r :: s, ⟨⟨j, h1, h2, h3⟩, h⟩, hl => by
    obtain ⟨ld, q⟩ := stg_start h fun p hp => hl p (List.mem_cons_of_mem _ hp)
    refine ⟨fun a => if a = 0 then j else ld (a - 1), hl, fun a ha => ?_, fun a b hab hb x hx => ?_, fun a b _ h => absurd h (by omega)⟩
    · match a with
      | 0 => exact ⟨h1, h2⟩
      | a + 1 => exact q.lead a (by simpa using ha)
    · match a, b, hab with
      | 0, b + 1, _ => exact h3 (rw_ s b) (rw_mem (by simpa using hb)) x hx
      | a + 1, b + 1, hab => exact q.low a b (by omega) (by simpa using hb) x hx
theorem lowered_len (t : Table) (i : Nat) : (lowered t i).length = t.length := by
  unfold lowered
  dsimp only
  split
  · rfl
  · rw [List.length_map, List.length_zipIdx]
theorem lowered_get {t : Table} {i j a : Nat} (hl : lead (rw_ t i) = some j) (ha : a < t.length) : rw_ (lowered t i) a = if a < i then less (rw_ t a) (vec (rw_ t a) j / vec (rw_ t i) j) (rw_ t i) else rw_ t a := by
  unfold lowered
  dsimp only
  have hl' : lead (t.getD i []) = some j := hl
  rw [hl']
  dsimp only
  unfold rw_
  rw [List.getD_eq_getElem?_getD, List.getElem?_map, List.getElem?_zipIdx, List.getElem?_eq_getElem ha]
  have e : t.getD a [] = t[a] := by rw [List.getD_eq_getElem?_getD, List.getElem?_eq_getElem ha]; rfl
  rw [e]
  show (if 0 + a < i then _ else _) = _
  rw [Nat.zero_add]
  rfl
theorem stg_step {c : Nat} {t : Table} {ld : Nat → Nat} {i : Nat} (h : Stg c t ld i) (hi : i < t.length) : Stg c (lowered t i) ld (i + 1) ∧ LatEq (lowered t i) t := by
  have hp := h.lead i hi
  have hlead := lead_of hp.1
  have hg : ∀ a, a < t.length → rw_ (lowered t i) a = if a < i then less (rw_ t a) (vec (rw_ t a) (ld i) / vec (rw_ t i) (ld i)) (rw_ t i) else rw_ t a := fun a ha => lowered_get hlead ha
  have hlen : ∀ a, a < t.length → (rw_ t a).length = (rw_ t i).length := fun a ha => (h.len _ (rw_mem ha)).trans (h.len _ (rw_mem hi)).symm
  have hv : ∀ a x, a < i → vec (rw_ (lowered t i) a) x = vec (rw_ t a) x - (vec (rw_ t a) (ld i) / vec (rw_ t i) (ld i)) * vec (rw_ t i) x := fun a x ha => by
    rw [hg a (by omega), if_pos ha, vec_less (hlen a (by omega))]
  have hn : ∀ a, a < t.length → ¬ a < i → rw_ (lowered t i) a = rw_ t a := fun a ha q => by rw [hg a ha, if_neg q]
  have hll : (lowered t i).length = t.length := lowered_len t i
  refine ⟨⟨fun r hr => ?_, fun a ha => ?_, fun a b hab hb x hx => ?_, fun a b hba hai ha => ?_⟩, .of (fun r hr => ?_) (fun r hr => ?_)⟩
  · obtain ⟨a, ha, rfl⟩ := mem_rw hr
    rw [hll] at ha
    by_cases q : a < i
    · rw [hg a ha, if_pos q, less_len (hlen a ha)]; exact h.len _ (rw_mem hi)
    · rw [hn a ha q]; exact h.len _ (rw_mem ha)
  · rw [hll] at ha
    by_cases q : a < i
    · have hla := h.lead a ha
      have e : ∀ x, x ≤ ld a → vec (rw_ (lowered t i) a) x = vec (rw_ t a) x := fun x hx => by
        rw [hv a x q, h.low a i q hi x hx]; omega
      exact ⟨⟨fun x hx => by rw [e x (by omega)]; exact hla.1.1 x hx, by rw [e _ (Nat.le_refl _)]; exact hla.1.2⟩, by rw [e _ (Nat.le_refl _)]; exact hla.2⟩
    · rw [hn a ha q]; exact h.lead a ha
  · rw [hll] at hb
    by_cases q : b < i
    · rw [hv b x q, h.low a b hab hb x hx, h.low a i (by omega) hi x hx]; omega
    · rw [hn b hb q]; exact h.low a b hab hb x hx
  · rw [hll] at ha
    by_cases q : a < i
    · have e1 : vec (rw_ t i) (ld a) = 0 := h.low a i q hi _ (Nat.le_refl _)
      rw [hv b _ (by omega), hv a _ q, e1]
      have := h.red a b hba q ha
      omega
    · have ea : a = i := by omega
      subst ea
      rw [hv b _ hba, hn a ha q]
      have e1 : vec (rw_ t b) (ld a) - vec (rw_ t b) (ld a) / vec (rw_ t a) (ld a) * vec (rw_ t a) (ld a) = vec (rw_ t b) (ld a) % vec (rw_ t a) (ld a) := by
        rw [Int.emod_def, Int.mul_comm]
      rw [e1]
      exact ⟨Int.emod_nonneg _ hp.1.2, Int.emod_lt_of_pos _ hp.2⟩
  · obtain ⟨a, ha, rfl⟩ := mem_rw hr
    rw [hll] at ha
    by_cases q : a < i
    · exact ((Lat.mem (rw_mem ha)).lin (-(vec (rw_ t a) (ld i) / vec (rw_ t i) (ld i))) (Lat.mem (rw_mem hi))).of_eq fun x => by rw [hv a x q]; grind
    · rw [hn a ha q]; exact .mem (rw_mem ha)
  · obtain ⟨a, ha, rfl⟩ := mem_rw hr
    have mi : Lat (lowered t i) (vec (rw_ t i)) := by
      rw [← hn i hi (by omega)]; exact .mem (rw_mem (by rw [hll]; exact hi))
    have ma : Lat (lowered t i) (vec (rw_ (lowered t i) a)) := .mem (rw_mem (by rw [hll]; exact ha))
    by_cases q : a < i
    · exact (ma.lin (vec (rw_ t a) (ld i) / vec (rw_ t i) (ld i)) mi).of_eq fun x => by rw [hv a x q]; omega
    · rw [← hn a ha q]; exact ma
theorem stg_fold {c : Nat} {ld : Nat → Nat} {t : Table} (h : Stg c t ld 0) : ∀ n, n ≤ t.length → Stg c ((List.range n).foldl lowered t) ld n ∧ LatEq ((List.range n).foldl lowered t) t ∧ ((List.range n).foldl lowered t).length = t.length
  | 0, _ => ⟨h, .refl _, rfl⟩
  | n + 1, hn => by
    obtain ⟨h1, h2, h3⟩ := stg_fold h n (by omega)
    rw [List.range_succ, List.foldl_append]
    obtain ⟨g1, g2⟩ := stg_step h1 (by omega)
    exact ⟨g1, g2.trans h2, (lowered_len _ _).trans h3⟩
theorem stg_nrm {c : Nat} : ∀ {t : Table} {ld : Nat → Nat}, Stg c t ld t.length → Nrm t
  | [], _, _ => trivial
  | r :: s, ld, h => by
    refine ⟨⟨ld 0, (h.lead 0 (by simp)).1, (h.lead 0 (by simp)).2, fun q hq i hi => ?_, fun q hq i hi => ?_⟩, stg_nrm (ld := fun a => ld (a + 1)) ⟨fun q hq => h.len q (List.mem_cons_of_mem _ hq), fun a ha => h.lead (a + 1) (by simpa using ha), fun a b hab hb x hx => h.low (a + 1) (b + 1) (by omega) (by simpa using hb) x hx, fun a b hba hai ha => h.red (a + 1) (b + 1) (by omega) (by simpa using hai) (by simpa using ha)⟩⟩
    · obtain ⟨a, ha, rfl⟩ := mem_rw hq
      exact h.low 0 (a + 1) (by omega) (by simpa using ha) i hi
    · obtain ⟨a, ha, rfl⟩ := mem_rw hq
      have e : i = ld (a + 1) := hi.uniq (h.lead (a + 1) (by simpa using ha)).1
      subst e
      exact h.red (a + 1) 0 (by omega) (by simpa using ha) (by simpa using ha)
/-- the specification's normal table is normal, and makes just the same rows -/
theorem normalOf_spec {c : Nat} {m : Table} (hl : ∀ r ∈ m, r.length = c) : Nrm (normalOf c m) ∧ LatEq (normalOf c m) m ∧ (∀ r ∈ normalOf c m, r.length = c) ∧ (normalOf c m).length = (stairs c 0 m).length := by
  obtain ⟨h1, h2, h3⟩ := stairs_spec (c := c) c 0 m (by omega) hl (fun r hr i hi => absurd hi (by omega))
  obtain ⟨ld, q⟩ := stg_start h1 h3
  obtain ⟨g1, g2, g3⟩ := stg_fold q _ (Nat.le_refl _)
  have e : normalOf c m = (List.range (stairs c 0 m).length).foldl lowered (stairs c 0 m) := rfl
  rw [e]
  generalize (List.range (stairs c 0 m).length).foldl lowered (stairs c 0 m) = t' at g1 g2 g3
  exact ⟨stg_nrm (c := c) (ld := ld) (by rw [g3]; exact g1), g2.trans h2, g1.len, g3⟩
/-- the one way to be the specification's normal table -/
theorem normalOf_unique {c : Nat} {m t : Table} (hl : ∀ r ∈ m, r.length = c) (ht : ∀ r ∈ t, r.length = c) (hn : Nrm t) (he : LatEq t m) : normalOf c m = t := by
  obtain ⟨h1, h2, h3, _⟩ := normalOf_spec hl
  exact nrm_unique h1 hn h3 ht (h2.trans he.symm)
/-! what is left of a row -/
end WT

set_option Elab.async false
set_option linter.all false
namespace WT
open Ra64
/-! where a row leads -/
theorem fp_le (l : List Int) : fp l ≤ l.length := List.findIdx_le_length
theorem vec_in {l : List Int} {i : Nat} (h : i < l.length) : vec l i = l[i] := by
  unfold vec
  rw [List.getD_eq_getElem?_getD, List.getElem?_eq_getElem h]; rfl
theorem fp_low {l : List Int} {i : Nat} (h : i < fp l) : vec l i = 0 := by
  have := List.not_of_lt_findIdx h
  rw [vec_in (Nat.lt_of_lt_of_le h (fp_le l))]
  simpa using this
theorem fp_at {l : List Int} (h : fp l < l.length) : vec l (fp l) ≠ 0 := by
  have : l[fp l] != 0 := List.findIdx_getElem (w := h)
  rw [vec_in h]
  simpa using this
theorem fp_lead {l : List Int} (h : fp l < l.length) : LeadAt (vec l) (fp l) := ⟨fun _ hi => fp_low hi, fp_at h⟩
theorem fp_of {l : List Int} {j : Nat} (h : LeadAt (vec l) j) : fp l = j ∧ j < l.length := by
  have hj : j < l.length := Nat.lt_of_not_le fun q => h.2 (vec_out q)
  have h1 : fp l < l.length := Nat.lt_of_not_le fun q => h.2 (by
    have e : fp l = l.length := Nat.le_antisymm (fp_le l) q
    exact fp_low (by omega))
  exact ⟨(fp_lead h1).uniq h, hj⟩
theorem fp_zero {l : List Int} (h : ¬ fp l < l.length) : ∀ i, vec l i = 0 := fun i => by
  by_cases q : i < l.length
  · exact fp_low (by omega)
  · exact vec_out (by omega)
/-! two rows -/
def meetF : Nat → Nat → List Int → List Int → List Int × List Int
  | 0, _, a, b => (a, b)
  | f + 1, j, a, b => if vec b j = 0 then (a, b) else meetF f j b (less a (Int.fdiv (vec a j) (vec b j)) b)
theorem meetF_len {j L : Nat} : ∀ (f : Nat) (a b : List Int), a.length = L → b.length = L → (meetF f j a b).1.length = L ∧ (meetF f j a b).2.length = L
  | 0, a, b, ha, hb => ⟨ha, hb⟩
  | f + 1, a, b, ha, hb => by
    rw [meetF]
    by_cases q : vec b j = 0
    · rw [if_pos q]; exact ⟨ha, hb⟩
    · rw [if_neg q]; exact meetF_len f b _ hb (by rw [less_len (ha.trans hb.symm)]; exact hb)
theorem fmod_lt (a : Int) {b : Int} (h : b ≠ 0) : (a - Int.fdiv a b * b).natAbs < b.natAbs := by
  have e : a - Int.fdiv a b * b = Int.fmod a b := by rw [Int.fmod_def, Int.mul_comm]
  rw [e]
  rcases Int.lt_or_gt_of_ne h with q | q
  · have h1 := Int.fmod_eq_emod (a := a) (b := b)
    have h2 := Int.emod_nonneg a h
    have h3 := Int.emod_lt a h
    rw [h1]
    split
    · rename_i z
      omega
    · rename_i z
      rcases Int.emod_nonneg a h |> Int.lt_or_eq_of_le with w | w
      · omega
      · exact absurd (.inr (Int.dvd_of_emod_eq_zero w.symm)) z
  · rw [Int.fmod_eq_emod_of_nonneg a (by omega)]
    have h2 := Int.emod_nonneg a h
    have h3 := Int.emod_lt a h
    omega
theorem meetF_step {a b : List Int} (e : a.length = b.length) (j : Nat) (h : vec b j ≠ 0) : (vec (less a (Int.fdiv (vec a j) (vec b j)) b) j).natAbs < (vec b j).natAbs := by
  rw [vec_less e]
  exact fmod_lt _ h
theorem meetF_more {j : Nat} : ∀ (f : Nat) (a b : List Int), a.length = b.length → (vec b j).natAbs < f → meetF f j a b = meetF ((vec b j).natAbs + 1) j a b
  | 0, a, b, _, h => absurd h (by omega)
  | f + 1, a, b, e, h => by
    rw [meetF, meetF]
    by_cases q : vec b j = 0
    · rw [if_pos q, if_pos q]
    · rw [if_neg q, if_neg q]
      have h1 := meetF_step e j q
      have e1 : b.length = (less a (Int.fdiv (vec a j) (vec b j)) b).length := (less_len e _).symm
      rw [meetF_more f b _ e1 (by omega)]
      rw [meetF_more (vec b j).natAbs b _ e1 (by omega)]
termination_by f => f
decreasing_by all_goals omega
/-- two rows, the second with 0 at a place -/
def clear2 (a b : List Int) (j : Nat) : List Int × List Int := meetF ((vec b j).natAbs + 1) j a b
theorem clear2_done {a b : List Int} {j : Nat} (h : vec b j = 0) : clear2 a b j = (a, b) := by
  unfold clear2
  rw [meetF, if_pos h]
theorem clear2_step {a b : List Int} {j : Nat} (e : a.length = b.length) (h : vec b j ≠ 0) : clear2 a b j = clear2 b (less a (Int.fdiv (vec a j) (vec b j)) b) j := by
  unfold clear2
  have h1 := meetF_step e j h
  rw [meetF, if_neg h]
  exact meetF_more _ _ _ (less_len e _).symm h1
theorem clear2_ind {j L : Nat} {P : List Int → List Int → Prop} (hs : ∀ a b, a.length = L → b.length = L → vec b j ≠ 0 → P a b → P b (less a (Int.fdiv (vec a j) (vec b j)) b)) :
    ∀ (n : Nat) (a b : List Int), (vec b j).natAbs ≤ n → a.length = L → b.length = L → P a b → P (clear2 a b j).1 (clear2 a b j).2 ∧ vec (clear2 a b j).2 j = 0 := by
  intro n
  induction n with
  | zero =>
    intro a b h ha hb hp
    have z : vec b j = 0 := by omega
    rw [clear2_done z]; exact ⟨hp, z⟩
  | succ n ih =>
    intro a b h ha hb hp
    by_cases z : vec b j = 0
    · rw [clear2_done z]; exact ⟨hp, z⟩
    · have e := ha.trans hb.symm
      rw [clear2_step e z]
      have h1 := meetF_step e j z
      exact ih _ _ (by omega) hb (by rw [less_len e]; exact hb) (hs a b ha hb z hp)
theorem clear2_zero {j L : Nat} {a b : List Int} (ha : a.length = L) (hb : b.length = L) : vec (clear2 a b j).2 j = 0 := (clear2_ind (P := fun _ _ => True) (fun _ _ _ _ _ _ => trivial) _ a b (Nat.le_refl _) ha hb trivial).2
theorem clear2_len {j L : Nat} {a b : List Int} (ha : a.length = L) (hb : b.length = L) : (clear2 a b j).1.length = L ∧ (clear2 a b j).2.length = L := meetF_len _ a b ha hb
theorem clear2_lat {j L : Nat} {a b : List Int} {l : Table} (ha : a.length = L) (hb : b.length = L) : LatEq ((clear2 a b j).1 :: (clear2 a b j).2 :: l) (a :: b :: l) :=
  (clear2_ind (j := j) (L := L) (P := fun x y => LatEq (x :: y :: l) (a :: b :: l)) (fun x y hx hy _ h => (swap_lat (dn := []) (hx.trans hy.symm) _).trans h) _ a b (Nat.le_refl _) ha hb (.refl _)).1
/-- at the place: not 0, if one of both wasn't -/
theorem clear2_nz {j L : Nat} {a b : List Int} (ha : a.length = L) (hb : b.length = L) (h : vec a j ≠ 0 ∨ vec b j ≠ 0) : vec (clear2 a b j).1 j ≠ 0 := by
  have q := clear2_ind (j := j) (L := L) (P := fun x y => vec x j ≠ 0 ∨ vec y j ≠ 0) (fun x y hx hy hz _ => .inl hz) _ a b (Nat.le_refl _) ha hb h
  rcases q.1 with z | z
  · exact z
  · exact absurd q.2 z
theorem clear2_low {j L i : Nat} {a b : List Int} (ha : a.length = L) (hb : b.length = L) (h1 : vec a i = 0) (h2 : vec b i = 0) : vec (clear2 a b j).1 i = 0 ∧ vec (clear2 a b j).2 i = 0 :=
  (clear2_ind (j := j) (L := L) (P := fun x y => vec x i = 0 ∧ vec y i = 0) (fun x y hx hy _ h => ⟨h.2, by rw [vec_less (hx.trans hy.symm), h.1, h.2]; omega⟩) _ a b (Nat.le_refl _) ha hb ⟨h1, h2⟩).1
/-- how large the numbers of both rows can be, on the way too -/
structure Bnd (j X : Nat) (x y : List Int) : Prop where
  one : ∀ i, (vec x i).natAbs ≤ X
  two : ∀ i, (vec y i).natAbs ≤ X
  dlt : ∀ i, (vec x j * vec y i - vec x i * vec y j).natAbs ≤ X
theorem Bnd.step {j X L : Nat} {x y : List Int} (h : Bnd j X x y) (hx : x.length = L) (hy : y.length = L) (hz : vec y j ≠ 0) : Bnd j X y (less x (Int.fdiv (vec x j) (vec y j)) y) := by
  have e := hx.trans hy.symm
  have hd : ∀ i, (vec y j * vec (less x (Int.fdiv (vec x j) (vec y j)) y) i - vec y i * vec (less x (Int.fdiv (vec x j) (vec y j)) y) j).natAbs ≤ X := fun i => by
    rw [vec_less e, vec_less e]
    have := h.dlt i
    have e1 : vec y j * (vec x i - Int.fdiv (vec x j) (vec y j) * vec y i) - vec y i * (vec x j - Int.fdiv (vec x j) (vec y j) * vec y j) = -(vec x j * vec y i - vec x i * vec y j) := by grind
    rw [e1, Int.natAbs_neg]; exact this
  refine ⟨h.two, fun i => ?_, hd⟩
  have h1 := hd i
  have h2 := meetF_step e j hz
  have h3 := h.two i
  generalize vec (less x (Int.fdiv (vec x j) (vec y j)) y) i = l at *
  generalize vec (less x (Int.fdiv (vec x j) (vec y j)) y) j = r at *
  generalize vec y i = yi at *
  generalize vec y j = yj at *
  -- |yj| |l| ≤ X + |yi| |r| ≤ X + X (|yj| - 1)
  have h4 : (yj * l).natAbs ≤ X + yi.natAbs * r.natAbs := by
    have e2 : yj * l = (yj * l - yi * r) + yi * r := by omega
    rw [e2]
    refine Nat.le_trans (Int.natAbs_add_le _ _) ?_
    rw [Int.natAbs_mul]
    omega
  have h5 : yi.natAbs * r.natAbs ≤ X * (yj.natAbs - 1) := Nat.mul_le_mul h3 (by omega)
  rw [Int.natAbs_mul] at h4
  have h6 : X + X * (yj.natAbs - 1) = yj.natAbs * X := by
    have : yj.natAbs = (yj.natAbs - 1) + 1 := by omega
    rw [this, Nat.succ_mul, Nat.add_sub_cancel, Nat.mul_comm, Nat.add_comm]
  exact Nat.le_of_mul_le_mul_left (show yj.natAbs * l.natAbs ≤ yj.natAbs * X by omega) (by omega)
theorem Bnd.start {j A B : Nat} {x y : List Int} (hA : 1 ≤ A) (hB : 1 ≤ B) (hx : ∀ i, (vec x i).natAbs ≤ A) (hy : ∀ i, (vec y i).natAbs ≤ B) : Bnd j (2 * A * B) x y := by
  have e1 : A ≤ A * B := Nat.le_mul_of_pos_right A hB
  have e2 : B ≤ A * B := Nat.le_mul_of_pos_left B hA
  have e3 : 2 * A * B = A * B + A * B := by rw [Nat.mul_assoc]; omega
  refine ⟨fun i => by have := hx i; omega, fun i => by have := hy i; omega, fun i => ?_⟩
  refine Nat.le_trans (Int.natAbs_sub_le _ _) ?_
  rw [Int.natAbs_mul, Int.natAbs_mul]
  have h1 := Nat.mul_le_mul (hx j) (hy i)
  have h2 := Nat.mul_le_mul (hx i) (hy j)
  omega
theorem Bnd.clear2 {j X L : Nat} {a b : List Int} (h : Bnd j X a b) (ha : a.length = L) (hb : b.length = L) : Bnd j X (clear2 a b j).1 (clear2 a b j).2 :=
  (clear2_ind (j := j) (L := L) (P := Bnd j X) (fun x y hx hy hz h => h.step hx hy hz) _ a b (Nat.le_refl _) ha hb h).1
/-! stairs, of any sign -/
def EchS : Table → Prop
  | [] => True
  | r :: s => (∃ j, LeadAt (vec r) j ∧ ∀ q ∈ s, ∀ i, i ≤ j → vec q i = 0) ∧ EchS s
theorem Nrm.echS : ∀ {t : Table}, Nrm t → EchS t
  | [], _ => trivial
  | r :: s, ⟨⟨j, h1, _, h3, _⟩, h⟩ => ⟨⟨j, h1, h3⟩, h.echS⟩
def addRow : Table → List Int → Table
  | [], rest => if fp rest < rest.length then [rest] else []
  | s :: t, rest => (clear2 s rest (min (fp s) (fp rest))).1 :: addRow t (clear2 s rest (min (fp s) (fp rest))).2
theorem addRow_spec {c : Nat} : ∀ {st : Table} {rest : List Int}, EchS st → (∀ r ∈ st, r.length = c) → rest.length = c → EchS (addRow st rest) ∧ LatEq (addRow st rest) (rest :: st) ∧ ∀ r ∈ addRow st rest, r.length = c
  | [], rest, _, _, hr => by
    rw [addRow]
    by_cases q : fp rest < rest.length
    · rw [if_pos q]
      exact ⟨⟨⟨fp rest, fp_lead q, fun q hq => absurd hq (by simp)⟩, trivial⟩, .refl _, fun r h => by rw [List.mem_singleton.mp h]; exact hr⟩
    · rw [if_neg q]
      refine ⟨trivial, .of (fun r h => absurd h (by simp)) (fun r h => ?_), fun r h => absurd h (by simp)⟩
      rw [List.mem_singleton.mp h]
      exact Lat.zero.of_eq fun j => (fp_zero q j).symm
  | s :: t, rest, ⟨⟨j, hl, hs⟩, he⟩, hc, hr => by
    rw [addRow]
    have hsl := hc s (List.mem_cons_self ..)
    obtain ⟨ej, hj⟩ := fp_of hl
    have hp : min (fp s) (fp rest) ≤ j := by omega
    have hp2 : min (fp s) (fp rest) ≤ fp rest := by omega
    have hnz : vec s (min (fp s) (fp rest)) ≠ 0 ∨ vec rest (min (fp s) (fp rest)) ≠ 0 := by
      by_cases q : fp s ≤ fp rest
      · left; rw [Nat.min_eq_left q, ej]; exact hl.2
      · right; rw [Nat.min_eq_right (by omega)]; exact fp_at (by omega)
    generalize min (fp s) (fp rest) = p at *
    have hlow : ∀ i, i < p → vec s i = 0 ∧ vec rest i = 0 := fun i hi => ⟨hl.1 i (by omega), fp_low (by omega)⟩
    obtain ⟨l1, l2⟩ := clear2_len (j := p) hsl hr
    have z2 := clear2_zero (j := p) hsl hr
    have nz := clear2_nz (j := p) hsl hr hnz
    have lat := clear2_lat (j := p) (l := t) hsl hr
    have low := fun i hi => clear2_low (j := p) hsl hr (hlow i hi).1 (hlow i hi).2
    obtain ⟨i1, i2, i3⟩ := addRow_spec (c := c) he (fun r h => hc r (List.mem_cons_of_mem _ h)) l2
    refine ⟨⟨⟨p, ⟨fun i hi => (low i hi).1, nz⟩, fun q hq i hi => ?_⟩, i1⟩, ?_, fun r h => ?_⟩
    · refine ((i2 _).mp (.mem hq)).vanish fun u hu => ?_
      rcases List.mem_cons.mp hu with rfl | hu
      · by_cases e : i = p
        · rw [e]; exact z2
        · exact (low i (by omega)).2
      · exact hs u hu i (by omega)
    · refine (i2.cons _).trans (lat.trans ?_)
      refine .of (fun r h => .mem ?_) (fun r h => .mem ?_)
      · simp only [List.mem_cons] at h ⊢
        rcases h with h | h | h
        · exact .inr (.inl h)
        · exact .inl h
        · exact .inr (.inr h)
      · simp only [List.mem_cons] at h ⊢
        rcases h with h | h | h
        · exact .inr (.inl h)
        · exact .inl h
        · exact .inr (.inr h)
    · rcases List.mem_cons.mp h with rfl | h
      · exact l1
      · exact i3 r h
/-! lessened rows -/
def lessS (r s : List Int) : List Int := less r (Int.fdiv (vec r (fp s)) (vec s (fp s))) s
def lessenF (v : List Int) (d : Table) : List Int := d.foldl lessS v
theorem lessenF_cons (v s : List Int) (d : Table) : lessenF v (s :: d) = lessenF (lessS v s) d := rfl
theorem lessenF_spec {c : Nat} : ∀ {d : Table} {v : List Int}, Ech d → (∀ r ∈ d, r.length = c) → v.length = c →
    (lessenF v d).length = c ∧ Lat d (fun j => vec (lessenF v d) j - vec v j) ∧ ∀ q ∈ d, ∀ i, LeadAt (vec q) i → 0 ≤ vec (lessenF v d) i ∧ vec (lessenF v d) i < vec q i
  | [], v, _, _, hv => ⟨hv, Lat.zero.of_eq fun j => by show 0 = vec v j - vec v j; omega, fun q hq => absurd hq (by simp)⟩
  | s :: d, v, ⟨⟨j, hl, hp, hs⟩, he⟩, hc, hv => by
    have hsl := hc s (List.mem_cons_self ..)
    obtain ⟨ej, hj⟩ := fp_of hl
    have e := hv.trans hsl.symm
    have hlen : (lessS v s).length = c := by unfold lessS; rw [less_len e]; exact hsl
    have hvec : ∀ i, vec (lessS v s) i = vec v i - Int.fdiv (vec v j) (vec s j) * vec s i := fun i => by
      unfold lessS; rw [vec_less e, ej]
    obtain ⟨i1, i2, i3⟩ := lessenF_spec he (fun r h => hc r (List.mem_cons_of_mem _ h)) hlen
    rw [lessenF_cons]
    refine ⟨i1, ?_, fun q hq i hi => ?_⟩
    · refine ((i2.mono fun r h => List.mem_cons_of_mem s h).lin (-(Int.fdiv (vec v j) (vec s j))) (.mem (List.mem_cons_self ..))).of_eq fun i => ?_
      rw [hvec]; grind
    · rcases List.mem_cons.mp hq with rfl | hq
      · have ei : i = j := hi.uniq hl
        subst ei
        have z := i2.vanish (i := i) fun r hr => hs r hr i (Nat.le_refl i)
        have e2 : vec (lessenF (lessS v q) d) i = vec v i - Int.fdiv (vec v i) (vec q i) * vec q i := by rw [← hvec]; omega
        rw [e2]
        have e3 : vec v i - Int.fdiv (vec v i) (vec q i) * vec q i = vec v i % vec q i := by
          rw [← Int.fmod_eq_emod_of_nonneg _ (by omega), Int.fmod_def, Int.mul_comm]
        rw [e3]
        exact ⟨Int.emod_nonneg _ hl.2, Int.emod_lt_of_pos _ hp⟩
      · exact i3 q hq i hi
def turnF (r : List Int) : List Int := if vec r (fp r) < 0 then r.map (fun z => -z) else r
def lessenAbove : Table → Table
  | [] => []
  | r :: s => lessenF (turnF r) (lessenAbove s) :: lessenAbove s
theorem lessenAbove_len : ∀ (st : Table), (lessenAbove st).length = st.length
  | [] => rfl
  | r :: s => by rw [lessenAbove, List.length_cons, List.length_cons, lessenAbove_len s]
theorem lessenAbove_spec {c : Nat} : ∀ {st : Table}, EchS st → (∀ r ∈ st, r.length = c) → Nrm (lessenAbove st) ∧ LatEq (lessenAbove st) st ∧ ∀ r ∈ lessenAbove st, r.length = c
  | [], _, _ => ⟨trivial, .refl _, fun r h => absurd h (by simp [lessenAbove])⟩
  | r :: s, ⟨⟨j, hl, hs⟩, he⟩, hc => by
    obtain ⟨i1, i2, i3⟩ := lessenAbove_spec he fun r h => hc r (List.mem_cons_of_mem _ h)
    have hrl := hc r (List.mem_cons_self ..)
    obtain ⟨ej, hj⟩ := fp_of hl
    -- the row turned above 0
    have ht : (turnF r).length = c ∧ LeadAt (vec (turnF r)) j ∧ 0 < vec (turnF r) j ∧ ∀ l : Table, LatEq (turnF r :: l) (r :: l) := by
      unfold turnF
      rw [ej]
      by_cases q : vec r j < 0
      · rw [if_pos q]
        refine ⟨by rw [List.length_map]; exact hrl, ⟨fun i hi => by rw [vec_neg, hl.1 i hi]; rfl, by rw [vec_neg]; omega⟩, by rw [vec_neg]; omega, fun l => neg_lat⟩
      · rw [if_neg q]
        have := hl.2
        exact ⟨hrl, hl, by omega, fun l => .refl _⟩
    obtain ⟨t1, t2, t3, t4⟩ := ht
    obtain ⟨f1, f2, f3⟩ := lessenF_spec i1.ech i3 t1
    rw [lessenAbove]
    have hs' : ∀ q ∈ lessenAbove s, ∀ i, i ≤ j → vec q i = 0 := fun q hq i hi => ((i2 _).mp (.mem hq)).vanish fun u hu => hs u hu i hi
    have hsame : ∀ i, i ≤ j → vec (lessenF (turnF r) (lessenAbove s)) i = vec (turnF r) i := fun i hi => by
      have := f2.vanish (i := i) fun u hu => hs' u hu i hi
      omega
    refine ⟨⟨⟨j, ⟨fun i hi => by rw [hsame i (by omega)]; exact t2.1 i hi, by rw [hsame j (Nat.le_refl j)]; exact t2.2⟩, by rw [hsame j (Nat.le_refl j)]; exact t3, hs', f3⟩, i1⟩, ?_, fun q hq => ?_⟩
    · refine LatEq.trans ?_ ((t4 _).trans (i2.cons r))
      have f2' : ∀ {x : List Int}, Lat (x :: lessenAbove s) (fun j => vec (lessenF (turnF r) (lessenAbove s)) j - vec (turnF r) j) := fun {x} => f2.mono fun u hu => List.mem_cons_of_mem _ hu
      refine .of (fun q hq => ?_) (fun q hq => ?_)
      · rcases List.mem_cons.mp hq with rfl | hq
        · exact (f2'.lin 1 (.mem (List.mem_cons_self ..))).of_eq fun i => by omega
        · exact .mem (List.mem_cons_of_mem _ hq)
      · rcases List.mem_cons.mp hq with rfl | hq
        · exact ((Lat.mem (List.mem_cons_self ..)).lin (-1) f2').of_eq fun i => by omega
        · exact .mem (List.mem_cons_of_mem _ hq)
    · rcases List.mem_cons.mp hq with rfl | hq
      · exact f1
      · exact i3 q hq
/-! the normal table -/
def normalF (m : Table) : Table := m.foldl (fun st r => lessenAbove (addRow st r)) []
theorem normalF_snoc (m : Table) (r : List Int) : normalF (m ++ [r]) = lessenAbove (addRow (normalF m) r) := by
  unfold normalF; rw [List.foldl_append]; rfl
theorem normal_step {c : Nat} {st m : Table} {r : List Int} (h : Nrm st) (hl : ∀ q ∈ st, q.length = c) (hr : r.length = c) (he : LatEq st m) : Nrm (lessenAbove (addRow st r)) ∧ (∀ q ∈ lessenAbove (addRow st r), q.length = c) ∧ LatEq (lessenAbove (addRow st r)) (m ++ [r]) := by
  obtain ⟨a1, a2, a3⟩ := addRow_spec h.echS hl hr
  obtain ⟨b1, b2, b3⟩ := lessenAbove_spec a1 a3
  refine ⟨b1, b3, b2.trans (a2.trans ((he.cons r).trans ?_))⟩
  refine .of (fun q hq => .mem ?_) (fun q hq => .mem ?_)
  · rcases List.mem_cons.mp hq with rfl | hq
    · exact List.mem_append_right _ (List.mem_singleton.mpr rfl)
    · exact List.mem_append_left _ hq
  · rcases List.mem_append.mp hq with hq | hq
    · exact List.mem_cons_of_mem _ hq
    · rw [List.mem_singleton.mp hq]; exact List.mem_cons_self ..
theorem normalF_take {c : Nat} {m : Table} (hl : ∀ r ∈ m, r.length = c) : ∀ n, n ≤ m.length → Nrm (normalF (m.take n)) ∧ (∀ q ∈ normalF (m.take n), q.length = c) ∧ LatEq (normalF (m.take n)) (m.take n)
  | 0, _ => ⟨trivial, fun q hq => absurd hq (by simp [normalF]), .refl _⟩
  | n + 1, hn => by
    obtain ⟨h1, h2, h3⟩ := normalF_take hl n (by omega)
    have e : m.take (n + 1) = m.take n ++ [m[n]] := by rw [List.take_add_one, List.getElem?_eq_getElem hn]; rfl
    rw [e, normalF_snoc]
    exact normal_step h1 h2 (hl _ (List.getElem_mem _)) h3
theorem normalF_spec {c : Nat} {m : Table} (hl : ∀ r ∈ m, r.length = c) : Nrm (normalF m) ∧ (∀ q ∈ normalF m, q.length = c) ∧ LatEq (normalF m) m := by
  have := normalF_take hl m.length (Nat.le_refl _)
  rwa [List.take_length] at this
theorem normalF_eq {c : Nat} {m : Table} (hl : ∀ r ∈ m, r.length = c) : normalOf c m = normalF m := by
  obtain ⟨h1, h2, h3⟩ := normalF_spec hl
  exact normalOf_unique hl h2 h1 h3
end WT

set_option Elab.async false
set_option linter.all false
namespace WT
open Ra64
/-! how large the numbers are on the way -/
def Le (A : Nat) (r : List Int) : Prop := ∀ x, (vec r x).natAbs ≤ A
theorem Le.mono {A B : Nat} {r : List Int} (h : Le A r) (hab : A ≤ B) : Le B r := fun x => Nat.le_trans (h x) hab
theorem Le.mem {A : Nat} {r : List Int} (h : Le A r) : ∀ z ∈ r, z.natAbs ≤ A := fun z hz => by
  obtain ⟨i, hi, rfl⟩ := List.mem_iff_getElem.mp hz
  have := h i
  rwa [vec_in hi] at this
theorem Le.of_mem {A : Nat} {r : List Int} (h : ∀ z ∈ r, z.natAbs ≤ A) : Le A r := fun x => by
  by_cases q : x < r.length
  · rw [vec_in q]; exact h _ (List.getElem_mem q)
  · rw [vec_out (by omega)]; exact Nat.zero_le _
theorem pow_step {A B n i : Nat} (hA : 1 ≤ A) (hi : i ≤ n) : A ^ i * B ≤ A ^ n * B := Nat.mul_le_mul_right B (Nat.pow_le_pow_right hA hi)
theorem clear2_le {A B c p : Nat} {s r : List Int} (hA : 1 ≤ A) (hB : 1 ≤ B) (hs : s.length = c) (hr : r.length = c) (h1 : Le A s) (h2 : Le B r) : Le (2 * A * B) (clear2 s r p).1 ∧ Le (2 * A * B) (clear2 s r p).2 := by
  have b := (Bnd.start (j := p) hA hB h1 h2).clear2 hs hr
  exact ⟨b.one, b.two⟩
theorem addRow_le {A c : Nat} (hA : 1 ≤ A) : ∀ {st : Table} {r : List Int} {B : Nat}, 1 ≤ B → (∀ s ∈ st, s.length = c) → r.length = c → (∀ s ∈ st, Le A s) → Le B r → ∀ q ∈ addRow st r, Le ((2 * A) ^ st.length * B) q
  | [], r, B, hB, _, _, _, h, q, hq => by
    rw [addRow] at hq
    by_cases z : fp r < r.length
    · rw [if_pos z] at hq
      rw [List.mem_singleton.mp hq]
      simpa using h
    · rw [if_neg z] at hq; exact absurd hq (by simp)
  | s :: t, r, B, hB, hl, hr, hs, h, q, hq => by
    obtain ⟨l1, l2⟩ := clear2_len (j := min (fp s) (fp r)) (hl s (List.mem_cons_self ..)) hr
    obtain ⟨c1, c2⟩ := clear2_le (p := min (fp s) (fp r)) hA hB (hl s (List.mem_cons_self ..)) hr (hs s (List.mem_cons_self ..)) h
    have hX : 1 ≤ 2 * A * B := Nat.mul_pos (by omega) hB
    rw [addRow] at hq
    have e : (2 * A) ^ (s :: t).length * B = (2 * A) ^ t.length * (2 * A * B) := by
      rw [List.length_cons, Nat.pow_succ, Nat.mul_assoc]
    rw [e]
    rcases List.mem_cons.mp hq with rfl | hq
    · exact c1.mono (Nat.le_mul_of_pos_left _ (Nat.pow_pos (by omega)))
    · exact addRow_le hA hX (fun u hu => hl u (List.mem_cons_of_mem _ hu)) l2 (fun u hu => hs u (List.mem_cons_of_mem _ hu)) c2 q hq
theorem addRow_len : ∀ (st : Table) (r : List Int), (addRow st r).length ≤ st.length + 1
  | [], r => by
    rw [addRow]
    split <;> simp
  | s :: t, r => by
    rw [addRow, List.length_cons, List.length_cons]
    have := addRow_len t (clear2 s r (min (fp s) (fp r))).2
    omega
theorem lessS_le {A R : Nat} {v s : List Int} (e : v.length = s.length) (h1 : Le R v) (h2 : Le A s) : Le (R * (1 + A)) (lessS v s) := fun x => by
  unfold lessS
  rw [vec_less e]
  refine Nat.le_trans (Int.natAbs_sub_le _ _) ?_
  rw [Int.natAbs_mul]
  have h3 := Nat.mul_le_mul (Nat.le_trans (Int.natAbs_fdiv_le_natAbs (vec v (fp s)) (vec s (fp s))) (h1 (fp s))) (h2 x)
  have h4 := h1 x
  rw [Nat.mul_add, Nat.mul_one]
  omega
theorem lessS_len {c : Nat} {v s : List Int} (hv : v.length = c) (hs : s.length = c) : (lessS v s).length = c := by
  unfold lessS; rw [less_len (hv.trans hs.symm)]; exact hs
theorem turnF_le {A : Nat} {r : List Int} (h : Le A r) : Le A (turnF r) := fun x => by
  unfold turnF
  split
  · rw [vec_neg, Int.natAbs_neg]; exact h x
  · exact h x
theorem turnF_len (r : List Int) : (turnF r).length = r.length := by
  unfold turnF
  split
  · exact List.length_map _
  · rfl
theorem lessenAbove_drop : ∀ (st : Table) (i : Nat), lessenAbove (st.drop i) = (lessenAbove st).drop i
  | [], i => by simp [lessenAbove]
  | r :: s, 0 => rfl
  | r :: s, i + 1 => by
    rw [List.drop_succ_cons, lessenAbove, List.drop_succ_cons, lessenAbove_drop s i]
theorem Ech.echS : ∀ {t : Table}, Ech t → EchS t
  | [], _ => trivial
  | r :: s, ⟨⟨j, h1, _, h3⟩, h⟩ => ⟨⟨j, h1, h3⟩, h.echS⟩
theorem EchS.drop : ∀ {st : Table} (i : Nat), EchS st → EchS (st.drop i)
  | [], i, _ => by simp [EchS]
  | r :: s, 0, h => h
  | r :: s, i + 1, h => by
    rw [List.drop_succ_cons]
    exact EchS.drop i h.2
theorem EchS.get : ∀ {st : Table} {i : Nat}, EchS st → i < st.length → ∃ j, LeadAt (vec (st.getD i [])) j
  | [], i, _, h => absurd h (by simp)
  | r :: s, 0, ⟨⟨j, h, _⟩, _⟩, _ => ⟨j, h⟩
  | r :: s, i + 1, ⟨_, h⟩, hi => EchS.get (st := s) (i := i) h (by simpa using hi)
theorem nrm_len0 : ∀ {c : Nat} {t : Table}, Nrm t → (∀ r ∈ t, r.length = c) → t.length ≤ c := fun {c t} hn hl => by
  have key : ∀ (t : Table) (i : Nat), Nrm t → (∀ r ∈ t, r.length = c) → (∀ r ∈ t, ∀ x, x < i → vec r x = 0) → i ≤ c → t.length + i ≤ c := by
    intro t
    induction t with
    | nil => intro i _ _ _ hi; simpa using hi
    | cons r s ih =>
      intro i hn hl hz hi
      obtain ⟨⟨j, h1, _, h3, _⟩, hn'⟩ := hn
      have hj : i ≤ j := Nat.le_of_not_lt fun q => h1.2 (hz r (List.mem_cons_self ..) j q)
      have hjc : j < c := by
        have := (fp_of h1).2
        rwa [hl r (List.mem_cons_self ..)] at this
      have := ih (j + 1) hn' (fun q hq => hl q (List.mem_cons_of_mem _ hq)) (fun q hq x hx => h3 q hq x (by omega)) (by omega)
      rw [List.length_cons]; omega
  have := key t 0 hn hl (fun r _ x hx => absurd hx (by omega)) (Nat.zero_le _)
  omega
end WT

set_option Elab.async false
set_option linter.all false
namespace WT
open Ra64
/-! columns, several at once -/
theorem D_zcol {n : Nat} (A : Mat) {c : Nat} (hc : c < n) : D n (repc A c fun _ => 0) = 0 := by
  have h := D_col A (fun _ => 0) (fun _ => 0) 1 hc
  simp only [Int.mul_zero, Int.add_zero, Int.one_mul] at h
  omega
theorem D_csum {n : Nat} (A : Mat) {c : Nat} (hc : c < n) (m : Nat) (l : Nat → Int) (B : Mat) : D n (repc A c fun i => S m fun s => l s * B i s) = S m fun s => l s * D n (repc A c fun i => B i s) := by
  induction m with
  | zero => simp only [S]; exact D_zcol A hc
  | succ m ih => simp only [S]; rw [D_col A (fun i => S m fun s => l s * B i s) (fun i => B i m) (l m) hc, ih]
theorem S_dvd {n : Nat} {f : Nat → Int} {g : Int} (h : ∀ i, i < n → g ∣ f i) : g ∣ S n f := by
  induction n with
  | zero => exact ⟨0, by simp [S]⟩
  | succ n ih => exact Int.dvd_add (ih fun i hi => h i (by omega)) (h n (by omega))
/-- rows that are made of others -/
theorem D_dvd_rows {g : Int} {k r : Nat} {B : Mat} (h : ∀ a : Nat → Nat, (∀ i, i < k → a i < r) → g ∣ D k (fun i j => B (a i) j)) (x : Mat) (hx : ∀ i, i < k → ∃ l : Nat → Int, ∀ j, j < k → x i j = S r fun s => l s * B s j) : g ∣ D k x := by
  have key : ∀ t, t ≤ k → ∀ a : Nat → Nat, (∀ i, i < k → a i < r) → g ∣ D k (fun i j => if i < t then x i j else B (a i) j) := by
    intro t
    induction t with
    | zero => exact fun _ a ha => by simpa using h a ha
    | succ t ih =>
      intro ht a ha
      obtain ⟨l, hl⟩ := hx t (by omega)
      have e : D k (fun i j => if i < t + 1 then x i j else B (a i) j) = D k (rep (fun i j => if i < t then x i j else B (a i) j) t fun j => S r fun s => l s * B s j) := D_congr fun i hi j hj => by
        by_cases q : i = t
        · subst q
          rw [rep_same, if_pos (by omega)]; exact hl j hj
        · rw [rep_ne q]
          by_cases q2 : i < t
          · rw [if_pos q2, if_pos (by omega)]
          · rw [if_neg q2, if_neg (by omega)]
      rw [e, D_sum _ (by omega)]
      refine S_dvd fun s hs => Int.dvd_mul_of_dvd_right ?_
      have e2 : D k (rep (fun i j => if i < t then x i j else B (a i) j) t (B s)) = D k (fun i j => if i < t then x i j else B ((fun i => if i = t then s else a i) i) j) := D_congr fun i hi j hj => by
        by_cases q : i = t
        · subst q
          rw [rep_same, if_neg (by omega)]; simp
        · rw [rep_ne q]
          simp [q]
      rw [e2]
      exact ih (by omega) _ fun i hi => by
        show (if i = t then s else a i) < r
        split
        · exact hs
        · exact ha i hi
  rcases Nat.eq_zero_or_pos k with hk | hk
  · subst hk
    exact h (fun _ => 0) fun i hi => absurd hi (by omega)
  by_cases hr : 0 < r
  · have := key k (Nat.le_refl k) (fun _ => 0) fun i _ => hr
    rwa [D_congr (B := x) fun i hi j hj => by rw [if_pos hi]] at this
  · -- no rows: the first row is nothing
    have hr0 : r = 0 := by omega
    subst hr0
    have z : D k x = 0 := by
      rw [← D_zrow x hk]
      exact D_congr fun i hi j hj => by
        by_cases q : i = 0
        · subst q
          obtain ⟨l, hl⟩ := hx 0 hk
          rw [rep_same, hl j hj]; rfl
        · rw [rep_ne q]
    rw [z]; exact Int.dvd_zero g
theorem D_dvd_cols {g : Int} {k c : Nat} {B : Mat} (h : ∀ b : Nat → Nat, (∀ i, i < k → b i < c) → g ∣ D k (fun i j => B i (b j))) (x : Mat) (hx : ∀ j, j < k → ∃ l : Nat → Int, ∀ i, i < k → x i j = S c fun s => l s * B i s) : g ∣ D k x := by
  have key : ∀ t, t ≤ k → ∀ b : Nat → Nat, (∀ i, i < k → b i < c) → g ∣ D k (fun i j => if j < t then x i j else B i (b j)) := by
    intro t
    induction t with
    | zero => exact fun _ b hb => by simpa using h b hb
    | succ t ih =>
      intro ht b hb
      obtain ⟨l, hl⟩ := hx t (by omega)
      have e : D k (fun i j => if j < t + 1 then x i j else B i (b j)) = D k (repc (fun i j => if j < t then x i j else B i (b j)) t fun i => S c fun s => l s * B i s) := D_congr fun i hi j hj => by
        by_cases q : j = t
        · subst q
          rw [repc_same, if_pos (by omega)]; exact hl i hi
        · rw [repc_ne q]
          by_cases q2 : j < t
          · rw [if_pos q2, if_pos (by omega)]
          · rw [if_neg q2, if_neg (by omega)]
      rw [e, D_csum _ (by omega)]
      refine S_dvd fun s hs => Int.dvd_mul_of_dvd_right ?_
      have e2 : D k (repc (fun i j => if j < t then x i j else B i (b j)) t fun i => B i s) = D k (fun i j => if j < t then x i j else B i ((fun i => if i = t then s else b i) j)) := D_congr fun i hi j hj => by
        by_cases q : j = t
        · subst q
          rw [repc_same, if_neg (by omega)]; simp
        · rw [repc_ne q]
          simp [q]
      rw [e2]
      exact ih (by omega) _ fun i hi => by
        show (if i = t then s else b i) < c
        split
        · exact hs
        · exact hb i hi
  rcases Nat.eq_zero_or_pos k with hk | hk
  · subst hk
    exact h (fun _ => 0) fun i hi => absurd hi (by omega)
  by_cases hc : 0 < c
  · have := key k (Nat.le_refl k) (fun _ => 0) fun i _ => hc
    rwa [D_congr (B := x) fun i hi j hj => by rw [if_pos hj]] at this
  · have hc0 : c = 0 := by omega
    subst hc0
    have z : D k x = 0 := by
      rw [← D_zcol x hk]
      exact D_congr fun i hi j hj => by
        by_cases q : j = 0
        · subst q
          obtain ⟨l, hl⟩ := hx 0 hk
          rw [repc_same, hl i hi]; rfl
        · rw [repc_ne q]
    rw [z]; exact Int.dvd_zero g

/-! g divides all k-minors -/
def Dv (g : Int) (k r c : Nat) (A : Mat) : Prop := ∀ a b : Nat → Nat, (∀ i, i < k → a i < r) → (∀ j, j < k → b j < c) → g ∣ D k (fun i j => A (a i) (b j))
theorem Dv.rows {g : Int} {k r r' c : Nat} {A A' : Mat} (h : Dv g k r c A) (hx : ∀ i, i < r' → ∃ l : Nat → Int, ∀ j, j < c → A' i j = S r fun s => l s * A s j) : Dv g k r' c A' := fun a b ha hb =>
  D_dvd_rows (B := fun s j => A s (b j)) (fun a' ha' => h a' b ha' hb) _ fun i hi => by
    obtain ⟨l, hl⟩ := hx (a i) (ha i hi)
    exact ⟨l, fun j hj => hl (b j) (hb j hj)⟩
theorem Dv.cols {g : Int} {k r c c' : Nat} {A A' : Mat} (h : Dv g k r c A) (hx : ∀ j, j < c' → ∃ l : Nat → Int, ∀ i, i < r → A' i j = S c fun s => l s * A i s) : Dv g k r c' A' := fun a b ha hb =>
  D_dvd_cols (B := fun i s => A (a i) s) (fun b' hb' => h a b' ha hb') _ fun j hj => by
    obtain ⟨l, hl⟩ := hx (b j) (hb j hj)
    exact ⟨l, fun i hi => hl (a i) (ha i hi)⟩
/-- in order is enough -/
def swf (a : Nat → Nat) (i : Nat) : Nat → Nat := fun x => if x = i then a (i + 1) else if x = i + 1 then a i else a x
def wt (k : Nat) (a : Nat → Nat) : Nat := match k with
  | 0 => 0
  | k + 1 => wt k a + k * a k
theorem wt_congr {k : Nat} {a b : Nat → Nat} (h : ∀ i, i < k → a i = b i) : wt k a = wt k b := by
  induction k with
  | zero => rfl
  | succ k ih => simp only [wt]; rw [ih fun i hi => h i (by omega), h k (by omega)]
theorem wt_swap {k : Nat} {a : Nat → Nat} {i : Nat} (hi : i + 1 < k) (h : a (i + 1) < a i) : wt k a < wt k (swf a i) := by
  induction k with
  | zero => omega
  | succ k ih =>
    simp only [wt]
    by_cases q : i + 1 = k
    · subst q
      simp only [wt]
      have e1 : wt i (swf a i) = wt i a := wt_congr fun x hx => by unfold swf; rw [if_neg (by omega), if_neg (by omega)]
      have e2 : swf a i i = a (i + 1) := by unfold swf; rw [if_pos rfl]
      have e3 : swf a i (i + 1) = a i := by unfold swf; rw [if_neg (by omega), if_pos rfl]
      rw [e1, e2, e3, Nat.succ_mul, Nat.succ_mul]
      have := Nat.mul_le_mul_left i (Nat.le_of_lt h)
      omega
    · have e1 : swf a i k = a k := by unfold swf; rw [if_neg (by omega), if_neg (by omega)]
      rw [e1]
      have := ih (by omega)
      omega
theorem wt_le {k r : Nat} {a : Nat → Nat} (h : ∀ i, i < k → a i < r) : wt k a ≤ k * k * r := by
  induction k with
  | zero => simp [wt]
  | succ k ih =>
    simp only [wt]
    have h1 := ih fun i hi => h i (by omega)
    have h2 : k * a k ≤ k * r := Nat.mul_le_mul_left k (Nat.le_of_lt (h k (by omega)))
    have e : (k + 1) * (k + 1) * r = k * k * r + k * r + (k + 1) * r := by
      rw [show (k + 1) * (k + 1) = k * k + k + (k + 1) by rw [Nat.mul_succ, Nat.succ_mul], Nat.add_mul, Nat.add_mul]
    rw [e]; omega
theorem sort_ind {k r : Nat} {P : (Nat → Nat) → Prop} (hinc : ∀ a, (∀ i, i + 1 < k → a i < a (i + 1)) → (∀ i, i < k → a i < r) → P a) (heq : ∀ a i, i + 1 < k → a i = a (i + 1) → P a) (hsw : ∀ a i, i + 1 < k → P (swf a i) → P a) :
    ∀ a, (∀ i, i < k → a i < r) → P a := by
  have key : ∀ n a, (∀ i, i < k → a i < r) → k * k * r - wt k a ≤ n → P a := by
    intro n
    induction n with
    | zero =>
      intro a ha hn
      by_cases q : ∀ i, i + 1 < k → a i < a (i + 1)
      · exact hinc a q ha
      · obtain ⟨i, hi⟩ := Classical.not_forall.mp q
        obtain ⟨hik, hni⟩ := Classical.not_imp.mp hi
        by_cases e : a i = a (i + 1)
        · exact heq a i hik e
        · have h1 := wt_swap hik (show a (i + 1) < a i by omega)
          have h2 : wt k (swf a i) ≤ k * k * r := wt_le fun x hx => by
            unfold swf
            split
            · exact ha _ (by omega)
            · split
              · exact ha _ (by omega)
              · exact ha x hx
          omega
    | succ n ih =>
      intro a ha hn
      by_cases q : ∀ i, i + 1 < k → a i < a (i + 1)
      · exact hinc a q ha
      · obtain ⟨i, hi⟩ := Classical.not_forall.mp q
        obtain ⟨hik, hni⟩ := Classical.not_imp.mp hi
        by_cases e : a i = a (i + 1)
        · exact heq a i hik e
        · have h1 := wt_swap hik (show a (i + 1) < a i by omega)
          have hs : ∀ x, x < k → swf a i x < r := fun x hx => by
            unfold swf
            split
            · exact ha _ (by omega)
            · split
              · exact ha _ (by omega)
              · exact ha x hx
          have h2 := wt_le hs
          exact hsw a i hik (ih _ hs (by omega))
  exact fun a ha => key _ a ha (Nat.le_refl _)
theorem swf_rows (k : Nat) (B : Mat) (a : Nat → Nat) {i : Nat} (hi : i + 1 < k) : D k (fun x j => B (swf a i x) j) = - D k (fun x j => B (a x) j) := by
  rw [← D_swap (A := fun x j => B (a x) j) (r := i) (s := i + 1) (by omega) hi (by omega)]
  refine D_congr fun x hx j hj => ?_
  unfold swf
  by_cases q : x = i
  · subst q
    rw [if_pos rfl, rep_ne (by omega), rep_same]
  · rw [if_neg q]
    by_cases q2 : x = i + 1
    · subst q2
      rw [if_pos rfl, rep_same]
    · rw [if_neg q2, rep_ne q2, rep_ne q]
theorem swf_cols (k : Nat) (B : Mat) (b : Nat → Nat) {i : Nat} (hi : i + 1 < k) : D k (fun x j => B x (swf b i j)) = - D k (fun x j => B x (b j)) := by
  have q := D_cpolar (n := k) (A := fun x j => B x (b j)) (r := i) (s := i + 1) (by omega) hi (by omega) (fun x => D_cadj hi fun y => by rw [repc_same, repc_ne (by omega), repc_same]) (fun x => B x (b (i + 1))) (fun x => B x (b i))
  have e1 : D k (repc (repc (fun x j => B x (b j)) i fun x => B x (b (i + 1))) (i + 1) fun x => B x (b i)) = D k (fun x j => B x (swf b i j)) := D_congr fun x hx j hj => by
    unfold swf
    by_cases q : j = i
    · subst q
      rw [if_pos rfl, repc_ne (by omega), repc_same]
    · rw [if_neg q]
      by_cases q2 : j = i + 1
      · subst q2
        rw [if_pos rfl, repc_same]
      · rw [if_neg q2, repc_ne q2, repc_ne q]
  have e2 : D k (repc (repc (fun x j => B x (b j)) i fun x => B x (b i)) (i + 1) fun x => B x (b (i + 1))) = D k (fun x j => B x (b j)) := D_congr fun x hx j hj => by
    by_cases q2 : j = i + 1
    · subst q2; rw [repc_same]
    · rw [repc_ne q2]
      by_cases q : j = i
      · subst q; rw [repc_same]
      · rw [repc_ne q]
  rw [← e1, q, e2]
theorem Dv.of_inc {g : Int} {k r c : Nat} {A : Mat} (h : ∀ a b : Nat → Nat, (∀ i, i + 1 < k → a i < a (i + 1)) → (∀ i, i + 1 < k → b i < b (i + 1)) → (∀ i, i < k → a i < r) → (∀ j, j < k → b j < c) → g ∣ D k (fun i j => A (a i) (b j))) : Dv g k r c A := by
  intro a b ha hb
  refine sort_ind (k := k) (r := r) (P := fun a => g ∣ D k (fun i j => A (a i) (b j))) (fun a hai ha => ?_) (fun a i hi e => ?_) (fun a i hi hp => ?_) a ha
  · refine sort_ind (k := k) (r := c) (P := fun b => g ∣ D k (fun i j => A (a i) (b j))) (fun b hbi hb => h a b hai hbi ha hb) (fun b i hi e => ?_) (fun b i hi hp => ?_) b hb
    · rw [D_cadj hi fun x => by rw [e]]; exact Int.dvd_zero g
    · rw [swf_cols k (fun x j => A (a x) j) b hi] at hp
      exact Int.dvd_neg.mp hp
  · rw [D_adj hi (by rw [e])]; exact Int.dvd_zero g
  · rw [swf_rows k (fun x j => A x (b j)) a hi] at hp
    exact Int.dvd_neg.mp hp
end WT

set_option Elab.async false
set_option linter.all false
namespace WT
open Ra64
theorem cdvd {g : Nat} {z : Int} : (g : Int) ∣ z ↔ g ∣ z.natAbs := by rw [← Int.natCast_dvd_natCast, Int.dvd_natAbs]
/-! choices -/
theorem choices_mem : ∀ {k : Nat} {l : List Nat} {a : List Nat}, l.Pairwise (· < ·) → (a ∈ choices k l ↔ a.length = k ∧ a.Pairwise (· < ·) ∧ ∀ x ∈ a, x ∈ l)
  | 0, l, a, _ => by
    simp only [choices, List.mem_singleton]
    constructor
    · rintro rfl; exact ⟨rfl, List.Pairwise.nil, fun x hx => absurd hx (by simp)⟩
    · rintro ⟨h, _⟩; exact List.eq_nil_of_length_eq_zero h
  | k + 1, [], a, _ => by
    simp only [choices]
    constructor
    · intro h; exact absurd h (by simp)
    · rintro ⟨h1, _, h3⟩
      cases a with
      | nil => simp at h1
      | cons x a => exact absurd (h3 x (List.mem_cons_self ..)) (by simp)
  | k + 1, x :: l, a, hl => by
    obtain ⟨hx, hl'⟩ := List.pairwise_cons.mp hl
    simp only [choices, List.mem_append, List.mem_map]
    constructor
    · rintro (⟨b, hb, rfl⟩ | h)
      · obtain ⟨h1, h2, h3⟩ := (choices_mem hl').mp hb
        refine ⟨by simp [h1], List.pairwise_cons.mpr ⟨fun y hy => hx y (h3 y hy), h2⟩, fun y hy => ?_⟩
        rcases List.mem_cons.mp hy with rfl | hy
        · exact List.mem_cons_self ..
        · exact List.mem_cons_of_mem _ (h3 y hy)
      · obtain ⟨h1, h2, h3⟩ := (choices_mem hl').mp h
        exact ⟨h1, h2, fun y hy => List.mem_cons_of_mem _ (h3 y hy)⟩
    · rintro ⟨h1, h2, h3⟩
      cases a with
      | nil => simp at h1
      | cons y a =>
        obtain ⟨hy, h2'⟩ := List.pairwise_cons.mp h2
        rcases List.mem_cons.mp (h3 y (List.mem_cons_self ..)) with rfl | hyl
        · left
          refine ⟨a, (choices_mem hl').mpr ⟨by simpa using h1, h2', fun z hz => ?_⟩, rfl⟩
          rcases List.mem_cons.mp (h3 z (List.mem_cons_of_mem _ hz)) with rfl | q
          · exact absurd (hy z hz) (Nat.lt_irrefl z)
          · exact q
        · right
          refine (choices_mem hl').mpr ⟨h1, h2, fun z hz => ?_⟩
          rcases List.mem_cons.mp (h3 z hz) with rfl | q
          · rcases List.mem_cons.mp hz with e | hz
            · rw [e]; exact hyl
            · have := hx y hyl
              have := hy z hz
              omega
          · exact q
theorem choices_range {k n : Nat} {a : List Nat} : a ∈ choices k (List.range n) ↔ a.length = k ∧ a.Pairwise (· < ·) ∧ ∀ x ∈ a, x < n := by
  rw [choices_mem List.pairwise_lt_range]
  simp only [List.mem_range]
/-! a fold of gcd -/
theorem gcd_fold {α : Type} (f : α → Nat) : ∀ (l : List α) (g0 g : Nat), g ∣ l.foldl (fun h b => Nat.gcd h (f b)) g0 ↔ g ∣ g0 ∧ ∀ b ∈ l, g ∣ f b
  | [], g0, g => by simp
  | x :: l, g0, g => by
    rw [List.foldl_cons, gcd_fold f l, Nat.dvd_gcd_iff]
    simp only [List.mem_cons, forall_eq_or_imp]
    exact and_assoc
theorem gcd_fold2 {α β : Type} (f : α → β → Nat) (lb : List β) : ∀ (l : List α) (g0 g : Nat), g ∣ l.foldl (fun h a => lb.foldl (fun h b => Nat.gcd h (f a b)) h) g0 ↔ g ∣ g0 ∧ ∀ a ∈ l, ∀ b ∈ lb, g ∣ f a b
  | [], g0, g => by simp
  | x :: l, g0, g => by
    rw [List.foldl_cons, gcd_fold2 f lb l, gcd_fold]
    simp only [List.mem_cons, forall_eq_or_imp]
    exact and_assoc
theorem cross_D {m : Table} {k : Nat} {a b : List Nat} (ha : a.length = k) (hb : b.length = k) : detBy k 0 (cross m a b) = D k (fun i j => MM 0 m (a.getD i 0) (b.getD j 0)) := by
  rw [detBy_D k 0 k (cross m a b) (by unfold cross; rw [List.length_map, ha]) (fun r hr => by
    unfold cross at hr
    obtain ⟨i, _, rfl⟩ := List.mem_map.mp hr
    rw [List.length_map, hb])]
  refine D_congr fun i hi j hj => ?_
  unfold MM cross
  rw [Nat.zero_add, Nat.zero_add, List.getD_eq_getElem?_getD (l := List.map _ a), List.getElem?_map, List.getElem?_eq_getElem (by omega)]
  show (b.map fun j => (m.getD a[i] []).getD j 0).getD j 0 = _
  rw [List.getD_eq_getElem?_getD, List.getElem?_map, List.getElem?_eq_getElem (by omega), List.getD_eq_getElem?_getD (l := a), List.getElem?_eq_getElem (by omega), List.getD_eq_getElem?_getD (l := b), List.getElem?_eq_getElem (by omega)]
  rfl
theorem inc_lt {k : Nat} {a : Nat → Nat} (h : ∀ i, i + 1 < k → a i < a (i + 1)) : ∀ {i j : Nat}, i < j → j < k → a i < a j := by
  intro i j hij
  induction j with
  | zero => omega
  | succ j ih =>
    intro hj
    by_cases q : i = j
    · subst q; exact h i hj
    · exact Nat.lt_trans (ih (by omega) (by omega)) (h j hj)
theorem pairwise_of_inc {k : Nat} {a : Nat → Nat} (h : ∀ i, i + 1 < k → a i < a (i + 1)) : ((List.range k).map a).Pairwise (· < ·) := by
  rw [List.pairwise_iff_getElem]
  intro i j hi hj hij
  rw [List.length_map, List.length_range] at hi hj
  rw [List.getElem_map, List.getElem_map, List.getElem_range, List.getElem_range]
  exact inc_lt h hij hj
/-- the specification's gcd of all minors, by what divides it -/
theorem minorsGcd_dvd {m : Table} {c k g : Nat} : g ∣ minorsGcd m c k ↔ Dv (g : Int) k m.length c (MM 0 m) := by
  unfold minorsGcd
  rw [gcd_fold2 (fun a b => (detBy k 0 (cross m a b)).natAbs)]
  constructor
  · rintro ⟨_, h⟩
    refine .of_inc fun a b hai hbi ha hb => ?_
    have h1 := h ((List.range k).map a) (choices_range.mpr ⟨by simp, pairwise_of_inc hai, fun x hx => by
      obtain ⟨i, hi, rfl⟩ := List.mem_map.mp hx
      exact ha i (List.mem_range.mp hi)⟩) ((List.range k).map b) (choices_range.mpr ⟨by simp, pairwise_of_inc hbi, fun x hx => by
      obtain ⟨i, hi, rfl⟩ := List.mem_map.mp hx
      exact hb i (List.mem_range.mp hi)⟩)
    rw [cross_D (k := k) (by simp) (by simp)] at h1
    have e : D k (fun i j => MM 0 m (((List.range k).map a).getD i 0) (((List.range k).map b).getD j 0)) = D k (fun i j => MM 0 m (a i) (b j)) := D_congr fun i hi j hj => by
      rw [List.getD_eq_getElem?_getD, List.getElem?_map, List.getElem?_range hi, List.getD_eq_getElem?_getD, List.getElem?_map, List.getElem?_range hj]; rfl
    rw [e] at h1
    exact cdvd.mpr h1
  · intro h
    refine ⟨Nat.dvd_zero g, fun a ha b hb => ?_⟩
    obtain ⟨a1, a2, a3⟩ := choices_range.mp ha
    obtain ⟨b1, b2, b3⟩ := choices_range.mp hb
    rw [cross_D a1 b1]
    refine cdvd.mp (h (fun i => a.getD i 0) (fun j => b.getD j 0) (fun i hi => ?_) (fun j hj => ?_))
    · (try dsimp only)
      rw [List.getD_eq_getElem?_getD, List.getElem?_eq_getElem (by omega)]
      exact a3 _ (List.getElem_mem _)
    · (try dsimp only)
      rw [List.getD_eq_getElem?_getD, List.getElem?_eq_getElem (by omega)]
      exact b3 _ (List.getElem_mem _)
/-- a number told by what divides it: the gcd of the k-minors -/
structure IsG (G : Nat) (k r c : Nat) (A : Mat) : Prop where
  iff : ∀ g : Nat, g ∣ G ↔ Dv (g : Int) k r c A
theorem IsG.uniq {G G' k r c : Nat} {A : Mat} (h : IsG G k r c A) (h' : IsG G' k r c A) : G = G' :=
  Nat.dvd_antisymm ((h'.iff G).mpr ((h.iff G).mp (Nat.dvd_refl G))) ((h.iff G').mpr ((h'.iff G').mp (Nat.dvd_refl G')))
theorem minorsGcd_isG (m : Table) (c k : Nat) : IsG (minorsGcd m c k) k m.length c (MM 0 m) := ⟨fun _ => minorsGcd_dvd⟩
theorem IsG.zero {r c : Nat} {A : Mat} : IsG 1 0 r c A := ⟨fun g => ⟨fun h => by
  have e : g = 1 := Nat.dvd_one.mp h
  subst e
  exact fun a b _ _ => ⟨_, (Int.one_mul _).symm⟩, fun h => by
  have := h (fun _ => 0) (fun _ => 0) (fun i hi => absurd hi (by omega)) (fun i hi => absurd hi (by omega))
  have q : (g : Int) ∣ 1 := this
  exact Int.natCast_dvd_natCast.mp q⟩⟩
/-- one number ahead that divides all: the minors behind it, times it -/
theorem block_dv {g d : Int} {k r c : Nat} {A : Mat} (h00 : A 0 0 = d) (hr0 : ∀ j, 0 < j → j < c + 1 → A 0 j = 0) (hc0 : ∀ i, 0 < i → i < r + 1 → A i 0 = 0) (hd : ∀ i j, 0 < i → i < r + 1 → 0 < j → j < c + 1 → d ∣ A i j) :
    Dv g (k + 1) (r + 1) (c + 1) A ↔ ∀ a b : Nat → Nat, (∀ i, i < k → a i < r) → (∀ j, j < k → b j < c) → g ∣ d * D k (fun i j => A (a i + 1) (b j + 1)) := by
  constructor
  · intro h a b ha hb
    have h1 := h (fun i => if i = 0 then 0 else a (i - 1) + 1) (fun j => if j = 0 then 0 else b (j - 1) + 1) (fun i hi => by
      (try dsimp only); split
      · omega
      · have := ha (i - 1) (by omega); omega) (fun j hj => by
      (try dsimp only); split
      · omega
      · have := hb (j - 1) (by omega); omega)
    have e : D (k + 1) (fun i j => A (if i = 0 then 0 else a (i - 1) + 1) (if j = 0 then 0 else b (j - 1) + 1)) = d * D k (fun i j => A (a i + 1) (b j + 1)) := by
      rw [D, S_left, S_zero (n := k)]
      · have e2 : D k (fun r c => A (if skip 0 r = 0 then 0 else a (skip 0 r - 1) + 1) (if c + 1 = 0 then 0 else b (c + 1 - 1) + 1)) = D k (fun i j => A (a i + 1) (b j + 1)) := D_congr fun i hi j hj => by
          have e3 : skip 0 i = i + 1 := by unfold skip; split <;> omega
          rw [e3, if_neg (by omega), if_neg (by omega)]; rfl
        rw [e2, if_pos rfl, if_pos rfl, h00, show sg 0 = 1 from rfl, Int.one_mul, Int.add_zero]
      · intro i hi
        rw [if_neg (by omega), if_pos rfl, hc0 _ (by omega) (by have := ha (i + 1 - 1) (by omega); omega)]; omega
    rw [e] at h1
    exact h1
  · intro h
    -- all minors without the first row, or without the first column
    have low : ∀ a b : Nat → Nat, (∀ i, i < k + 1 → 0 < a i ∧ a i < r + 1) → (∀ j, j < k + 1 → b j < c + 1) → (∀ j, j < k → 0 < b (j + 1)) → g ∣ D (k + 1) (fun i j => A (a i) (b j)) := fun a b ha hb hb1 => by
      rw [D]
      refine S_dvd fun i hi => ?_
      have hai := ha i hi
      have q : g ∣ d * D k (fun x y => A (a (skip i x)) (b (y + 1))) := by
        have := h (fun x => a (skip i x) - 1) (fun y => b (y + 1) - 1) (fun x hx => by have := ha (skip i x) (skip_lt hx); (try dsimp only); omega) (fun y hy => by have := hb (y + 1) (by omega); have := hb1 y hy; (try dsimp only); omega)
        have e : D k (fun x y => A (a (skip i x) - 1 + 1) (b (y + 1) - 1 + 1)) = D k (fun x y => A (a (skip i x)) (b (y + 1))) := D_congr fun x hx y hy => by
          have h1 := ha (skip i x) (skip_lt hx)
          have h2 := hb1 y hy
          rw [show a (skip i x) - 1 + 1 = a (skip i x) by omega, show b (y + 1) - 1 + 1 = b (y + 1) by omega]
        rw [e] at this
        exact this
      by_cases z : b 0 = 0
      · (try dsimp only)
        rw [z, hc0 _ hai.1 hai.2, Int.mul_zero, Int.zero_mul]; exact Int.dvd_zero g
      · obtain ⟨e, he⟩ := hd (a i) (b 0) hai.1 hai.2 (by omega) (hb 0 (by omega))
        (try dsimp only)
        rw [he]
        obtain ⟨f, hf⟩ := q
        exact ⟨sg i * e * f, by rw [show sg i * (d * e) * D k (fun x y => A (a (skip i x)) (b (y + 1))) = sg i * e * (d * D k (fun x y => A (a (skip i x)) (b (y + 1)))) by grind, hf]; grind⟩
    refine .of_inc fun a b hai hbi ha hb => ?_
    have hb1 : ∀ j, j < k → 0 < b (j + 1) := fun j hj => by
      have := inc_lt hbi (show 0 < j + 1 by omega) (by omega); omega
    by_cases z : a 0 = 0
    · -- the first row is there
      rw [D]
      refine S_dvd fun i hi => ?_
      by_cases i0 : i = 0
      · subst i0
        (try dsimp only)
        rw [z]
        by_cases zb : b 0 = 0
        · rw [zb, h00]
          have := h (fun x => a (x + 1) - 1) (fun y => b (y + 1) - 1) (fun x hx => by have := inc_lt hai (show 0 < x + 1 by omega) (by omega); have := ha (x + 1) (by omega); (try dsimp only); omega) (fun y hy => by have := hb1 y hy; have := hb (y + 1) (by omega); (try dsimp only); omega)
          have e : D k (fun x y => A (a (x + 1) - 1 + 1) (b (y + 1) - 1 + 1)) = D k (fun r c => A (a (skip 0 r)) (b (c + 1))) := D_congr fun x hx y hy => by
            have e3 : skip 0 x = x + 1 := by unfold skip; split <;> omega
            have h1 := inc_lt hai (show 0 < x + 1 by omega) (by omega)
            have h2 := hb1 y hy
            rw [e3, show a (x + 1) - 1 + 1 = a (x + 1) by omega, show b (y + 1) - 1 + 1 = b (y + 1) by omega]
          rw [e] at this
          rw [show sg 0 = 1 from rfl, Int.one_mul]
          exact this
        · rw [hr0 _ (by omega) (hb 0 (by omega)), Int.mul_zero, Int.zero_mul]; exact Int.dvd_zero g
      · -- the row of nothing but 0 is left in
        have hk : 0 < k := by omega
        have e : D k (fun r c => A (a (skip i r)) (b (c + 1))) = 0 := by
          have e4 : (fun r c => A (a (skip i r)) (b (c + 1))) = rep (fun r c => A (a (skip i r)) (b (c + 1))) 0 ((fun r c => A (a (skip i r)) (b (c + 1))) 0) := (rep_id _ _).symm
          rw [e4, ← D_zrow (fun r c => A (a (skip i r)) (b (c + 1))) hk]
          refine D_congr fun x hx y hy => ?_
          by_cases q : x = 0
          · subst q
            rw [rep_same, rep_same]
            have e3 : skip i 0 = 0 := by unfold skip; split <;> omega
            (try dsimp only)
            rw [e3, z]
            exact hr0 _ (hb1 y hy) (hb (y + 1) (by omega))
          · rw [rep_ne q, rep_ne q]
        (try dsimp only)
        rw [e, Int.mul_zero]; exact Int.dvd_zero g
    · exact low a b (fun i hi => ⟨by
        by_cases i0 : i = 0
        · subst i0; omega
        · have := inc_lt hai (show 0 < i by omega) hi; omega, ha i hi⟩) hb hb1
theorem IsG.block {G d : Nat} {k r c : Nat} {A : Mat} (hpos : 0 < d) (h00 : A 0 0 = (d : Int)) (hr0 : ∀ j, 0 < j → j < c + 1 → A 0 j = 0) (hc0 : ∀ i, 0 < i → i < r + 1 → A i 0 = 0) (hd : ∀ i j, 0 < i → i < r + 1 → 0 < j → j < c + 1 → (d : Int) ∣ A i j)
    (h : IsG G k r c (fun i j => A (i + 1) (j + 1))) : IsG (d * G) (k + 1) (r + 1) (c + 1) A where
  iff g := by
    rw [block_dv h00 hr0 hc0 hd]
    constructor
    · intro hg a b ha hb
      have h1 := (h.iff G).mp (Nat.dvd_refl G) a b ha hb
      have h2 : ((d * G : Nat) : Int) ∣ (d : Int) * D k (fun i j => A (a i + 1) (b j + 1)) := by
        rw [Int.natCast_mul]; exact Int.mul_dvd_mul_left _ h1
      exact Int.dvd_trans (Int.natCast_dvd_natCast.mpr hg) h2
    · intro hg
      -- g / gcd(g, d) divides all the minors
      have hq : ∀ e : Nat, g ∣ d * e ↔ g / Nat.gcd g d ∣ e := fun e => by
        rcases Nat.eq_zero_or_pos (Nat.gcd g d) with z | z
        · obtain ⟨z1, z2⟩ := Nat.gcd_eq_zero_iff.mp z
          omega
        · obtain ⟨g', hg'⟩ := Nat.gcd_dvd_left g d
          obtain ⟨d', hd'⟩ := Nat.gcd_dvd_right g d
          generalize hn : Nat.gcd g d = n at *
          have cop : Nat.Coprime g' d' := by
            have := Nat.gcd_mul_left n g' d'
            rw [← hg', ← hd', hn] at this
            exact Nat.eq_of_mul_eq_mul_left z (by rw [Nat.mul_one]; exact this.symm)
          have e1 : g / n = g' := by rw [hg']; exact Nat.mul_div_cancel_left g' z
          rw [e1, hg', hd', Nat.mul_assoc, Nat.mul_dvd_mul_iff_left z]
          exact ⟨fun h => Nat.Coprime.dvd_of_dvd_mul_left cop h, fun h => Nat.dvd_trans h (Nat.dvd_mul_left _ _)⟩
      rw [hq]
      refine (h.iff _).mpr fun a b ha hb => ?_
      refine cdvd.mpr ((hq _).mp ?_)
      have := cdvd.mp (hg a b ha hb)
      rw [Int.natAbs_mul, Int.natAbs_natCast] at this
      exact this
end WT

set_option Elab.async false
set_option linter.all false
namespace WT
open Ra64
theorem Lat.coef {m : Table} {v : Vec} (h : Lat m v) : ∃ l : Nat → Int, ∀ j, v j = S m.length fun s => l s * MM 0 m s j := by
  induction h with
  | zero => exact ⟨fun _ => 0, fun j => (S_zero fun i _ => by dsimp only; omega).symm⟩
  | @add v r k _ hr ih =>
    obtain ⟨l, hl⟩ := ih
    obtain ⟨i, hi, e⟩ := List.mem_iff_getElem.mp hr
    refine ⟨fun s => l s + (if s = i then k else 0), fun j => ?_⟩
    have e1 : (fun s => (l s + (if s = i then k else 0)) * MM 0 m s j) = fun s => l s * MM 0 m s j + (if s = i then k else 0) * MM 0 m s j := by funext s; grind
    have e2 : MM 0 m i j = vec r j := by
      unfold MM vec
      rw [Nat.zero_add, List.getD_eq_getElem?_getD (l := m), List.getElem?_eq_getElem hi, e]; rfl
    have e3 : (S m.length fun s => (if s = i then k else 0) * MM 0 m s j) = k * vec r j := by
      rw [S_one hi (fun s hs hne => by rw [if_neg hne]; omega), if_pos rfl, e2]
    rw [e1, S_add, e3, ← hl j]
theorem Dv.lat {g : Int} {k c : Nat} {m t : Table} (h : Dv g k m.length c (MM 0 m)) (ht : ∀ r ∈ t, Lat m (vec r)) : Dv g k t.length c (MM 0 t) :=
  h.rows fun i hi => by
    obtain ⟨l, hl⟩ := (ht _ (rw_mem hi)).coef
    refine ⟨l, fun j _ => ?_⟩
    rw [← hl j]
    unfold MM vec rw_
    rw [Nat.zero_add]
theorem IsG.lat {G k c : Nat} {m t : Table} (h : IsG G k m.length c (MM 0 m)) (e : LatEq t m) : IsG G k t.length c (MM 0 t) :=
  ⟨fun g => (h.iff g).trans ⟨fun q => q.lat fun r hr => (e _).mp (.mem hr), fun q => q.lat fun r hr => (e _).mpr (.mem hr)⟩⟩
theorem inc_ge {k : Nat} {a : Nat → Nat} (h : ∀ i, i + 1 < k → a i < a (i + 1)) : ∀ {i : Nat}, i < k → i ≤ a i := by
  intro i
  induction i with
  | zero => omega
  | succ i ih => intro hi; have := ih (by omega); have := h i hi; omega
theorem dv_rows_none {k r c : Nat} {A : Mat} (h : r < k) : Dv 0 k r c A := .of_inc fun a b hai _ ha _ => by
  have h1 := inc_ge hai (show k - 1 < k by omega)
  have h2 := ha (k - 1) (by omega)
  omega
theorem dv_cols_none {k r c : Nat} {A : Mat} (h : c < k) : Dv 0 k r c A := .of_inc fun a b _ hbi _ hb => by
  have h1 := inc_ge hbi (show k - 1 < k by omega)
  have h2 := hb (k - 1) (by omega)
  omega
theorem IsG.le {G k r c : Nat} {A : Mat} (h : IsG G k r c A) (hG : G ≠ 0) : k ≤ r ∧ k ≤ c := by
  constructor
  · exact Nat.le_of_not_lt fun q => hG (Nat.eq_zero_of_zero_dvd ((h.iff 0).mpr (dv_rows_none q)))
  · exact Nat.le_of_not_lt fun q => hG (Nat.eq_zero_of_zero_dvd ((h.iff 0).mpr (dv_cols_none q)))
theorem D_tri : ∀ {k : Nat} {A : Mat}, (∀ i, i < k → A i i ≠ 0) → (∀ i j, j < i → i < k → A i j = 0) → D k A ≠ 0
  | 0, _, _, _ => by simp [D]
  | k + 1, A, hd, hz => by
    rw [D, S_left, S_zero (n := k) fun i hi => by rw [hz (i + 1) 0 (by omega) (by omega)]; omega]
    have ih := D_tri (k := k) (A := fun r c => A (skip 0 r) (c + 1)) (fun i hi => by
      have e3 : skip 0 i = i + 1 := by unfold skip; split <;> omega
      rw [e3]; exact hd (i + 1) (by omega)) (fun i j hj hi => by
      have e3 : skip 0 i = i + 1 := by unfold skip; split <;> omega
      rw [e3]; exact hz (i + 1) (j + 1) (by omega) (by omega))
    have h0 := hd 0 (by omega)
    rw [show sg 0 = 1 from rfl, Int.one_mul, Int.add_zero]
    exact Int.mul_ne_zero h0 ih
theorem ech_minor {c : Nat} {t : Table} (he : Ech t) (hl : ∀ r ∈ t, r.length = c) {k : Nat} (hk : k ≤ t.length) : ¬ Dv 0 k t.length c (MM 0 t) := by
  obtain ⟨ld, q⟩ := stg_start he hl
  intro h
  have hv : ∀ i x, MM 0 t i x = vec (rw_ t i) x := fun i x => by unfold MM vec rw_; rw [Nat.zero_add]
  have h1 := h (fun i => i) ld (fun i hi => by omega) (fun j hj => Nat.lt_of_not_le fun z => (q.lead j (by omega)).1.2 (vec_out (by rw [q.len _ (rw_mem (by omega))]; exact z)))
  refine D_tri (fun i hi => ?_) (fun i j hj hi => ?_) (Int.zero_dvd.mp h1)
  · rw [hv]; exact (q.lead i (by omega)).1.2
  · rw [hv]; exact q.low j i hj (by omega) _ (Nat.le_refl _)
/-- the rank of the specification, by minors -/
theorem rank_minors {c : Nat} {m : Table} (hl : ∀ r ∈ m, r.length = c) (k : Nat) : minorsGcd m c k = 0 ↔ (stairs c 0 m).length < k := by
  obtain ⟨h1, h2, h3⟩ := stairs_spec (c := c) c 0 m (by omega) hl (fun r hr i hi => absurd hi (by omega))
  have g := (minorsGcd_isG m c k).lat h2
  constructor
  · intro e
    refine Nat.lt_of_not_le fun q => ech_minor h1 h3 q ((g.iff 0).mp (by rw [e]; exact Nat.dvd_refl 0))
  · intro q
    exact Nat.eq_zero_of_zero_dvd ((g.iff 0).mpr (dv_rows_none q))
theorem rank_is {c k : Nat} {m : Table} (hl : ∀ r ∈ m, r.length = c) (h1 : minorsGcd m c k ≠ 0) (h2 : minorsGcd m c (k + 1) = 0) : (stairs c 0 m).length = k := by
  have a := (rank_minors hl (k + 1)).mp h2
  have b : ¬ (stairs c 0 m).length < k := fun z => h1 ((rank_minors hl k).mpr z)
  omega
def prodN : List Nat → Nat
  | [] => 1
  | d :: l => d * prodN l
theorem prodN_snoc : ∀ (l : List Nat) (d : Nat), prodN (l ++ [d]) = prodN l * d
  | [], d => by simp [prodN]
  | x :: l, d => by rw [List.cons_append, prodN, prodN, prodN_snoc l d, Nat.mul_assoc]
theorem prodN_pos : ∀ {l : List Nat}, (∀ d ∈ l, 0 < d) → 0 < prodN l
  | [], _ => Nat.one_pos
  | d :: l, h => Nat.mul_pos (h d (List.mem_cons_self ..)) (prodN_pos fun x hx => h x (List.mem_cons_of_mem _ hx))
/-- the one way to be the specification's divisors -/
theorem divisorsOf_eq {c : Nat} {m : Table} {ds : List Nat} (hl : ∀ r ∈ m, r.length = c) (hpos : ∀ d ∈ ds, 0 < d) (h : ∀ j, j ≤ ds.length → minorsGcd m c j = prodN (ds.take j)) (h0 : minorsGcd m c (ds.length + 1) = 0) : divisorsOf m c = ds := by
  have hne : ∀ j, j ≤ ds.length → minorsGcd m c j ≠ 0 := fun j hj => by
    rw [h j hj]
    exact Nat.ne_of_gt (prodN_pos fun d hd => hpos d (List.mem_of_mem_take hd))
  have hk : (normalOf c m).length = ds.length := by
    rw [(normalOf_spec hl).2.2.2]
    exact rank_is hl (hne _ (Nat.le_refl _)) h0
  unfold divisorsOf
  dsimp only
  rw [hk]
  refine List.ext_getElem (by simp) fun i h1 h2 => ?_
  rw [List.getElem_map, List.getElem_range]
  have hle := (minorsGcd_isG m c (i + 1)).le (hne (i + 1) (by omega))
  have hg : ∀ j d, j ≤ i + 1 → ((List.range (min m.length c + 1)).map (minorsGcd m c)).getD j d = minorsGcd m c j := fun j d hj => by
    rw [List.getD_eq_getElem?_getD, List.getElem?_map, List.getElem?_range (by omega)]; rfl
  rw [hg _ _ (Nat.le_refl _), hg _ _ (by omega), h (i + 1) (by omega), h i (by omega), List.take_add_one, List.getElem?_eq_getElem h2]
  show prodN (ds.take i ++ [ds[i]]) / _ = _
  rw [prodN_snoc]
  exact Nat.mul_div_cancel_left _ (prodN_pos fun d hd => hpos d (List.mem_of_mem_take hd))
end WT

set_option Elab.async false
set_option linter.all false
namespace WT
open Ra64
/-! turned over -/
theorem S_swap (f : Nat → Nat → Int) (n : Nat) : ∀ m, (S n fun i => S m fun j => f i j) = S m fun j => S n fun i => f i j
  | 0 => S_zero fun i _ => rfl
  | m + 1 => by
    show (S n fun i => S m (fun j => f i j) + f i m) = S m (fun j => S n fun i => f i j) + S n fun i => f i m
    rw [S_add, S_swap f n m]
theorem skip_succ (i r : Nat) : skip (i + 1) (r + 1) = skip i r + 1 := by unfold skip; split <;> split <;> omega
theorem skip_00 (i : Nat) : skip (i + 1) 0 = 0 := by unfold skip; rw [if_pos (by omega)]
theorem skip_0 (r : Nat) : skip 0 r = r + 1 := by unfold skip; rw [if_neg (by omega)]
theorem D_first : ∀ (n : Nat) (A : Mat), D (n + 1) A = S (n + 1) fun j => sg j * A 0 j * D n (fun r c => A (r + 1) (skip j c))
  | 0, A => by
    show S 1 _ = S 1 _
    refine S_congr fun i hi => ?_
    have e : i = 0 := by omega
    subst e; rfl
  | n + 1, A => by
    rw [D, S_left (n + 1) (fun i => sg i * A i 0 * D (n + 1) (fun r c => A (skip i r) (c + 1))), S_left (n + 1) (fun j => sg j * A 0 j * D (n + 1) (fun r c => A (r + 1) (skip j c)))]
    have e0 : D (n + 1) (fun r c => A (skip 0 r) (c + 1)) = D (n + 1) (fun r c => A (r + 1) (skip 0 c)) := D_congr fun i hi j hj => by rw [skip_0, skip_0]
    rw [e0]
    congr 1
    have e1 : ∀ i, i < n + 1 → sg (i + 1) * A (i + 1) 0 * D (n + 1) (fun r c => A (skip (i + 1) r) (c + 1)) = S (n + 1) fun j => sg (i + 1) * A (i + 1) 0 * (sg j * A 0 (j + 1) * D n (fun r c => A (skip i r + 1) (skip j c + 1))) := fun i hi => by
      rw [D_first n (fun r c => A (skip (i + 1) r) (c + 1)), ← S_mul]
      refine S_congr fun j hj => ?_
      rw [skip_00]
      congr 2
      exact D_congr fun a ha b hb => by rw [skip_succ]
    have e2 : ∀ j, j < n + 1 → sg (j + 1) * A 0 (j + 1) * D (n + 1) (fun r c => A (r + 1) (skip (j + 1) c)) = S (n + 1) fun i => sg (j + 1) * A 0 (j + 1) * (sg i * A (i + 1) 0 * D n (fun r c => A (skip i r + 1) (skip j c + 1))) := fun j hj => by
      rw [D, ← S_mul]
      refine S_congr fun i hi => ?_
      rw [skip_00]
      congr 2
      exact D_congr fun a ha b hb => by rw [skip_succ]
    rw [S_congr e1, S_congr e2, S_swap]
    refine S_congr fun j hj => S_congr fun i hi => ?_
    rw [sg_succ, sg_succ]
    grind
theorem D_tr : ∀ (n : Nat) (A : Mat), D n (fun i j => A j i) = D n A
  | 0, A => rfl
  | n + 1, A => by
    rw [D_first n A, D]
    refine S_congr fun i hi => ?_
    rw [D_tr n (fun r c => A (r + 1) (skip i c))]
theorem D_row0 {n i : Nat} {A : Mat} (hi : i < n) (h : ∀ j, j < n → A i j = 0) : D n A = 0 := by
  rw [← D_zrow A hi]
  refine D_congr fun x hx y hy => ?_
  by_cases q : x = i
  · subst q; rw [rep_same]; exact h y hy
  · rw [rep_ne q]
theorem cramer_col {k : Nat} (P : Mat) (y : Nat → Int) {i : Nat} (hi : i < k) : S k (fun s => D k (repc P s y) * P i s) = D k P * y i := by
  have h := cramer (fun a b => P b a) y hi
  rw [D_tr k P] at h
  rw [← h]
  refine S_congr fun s hs => ?_
  congr 1
  rw [← D_tr k (repc P s y)]
  refine D_congr fun a ha b hb => ?_
  unfold repc rep
  by_cases q : a = s
  · rw [if_pos q, if_pos q]
  · rw [if_neg q, if_neg q]
theorem inc_id {r : Nat} {a : Nat → Nat} (h : ∀ i, i + 1 < r → a i < a (i + 1)) (hr : ∀ i, i < r → a i < r) : ∀ i, i < r → a i = i := by
  have up : ∀ d i, i + d + 1 = r → a i ≤ i := by
    intro d
    induction d with
    | zero => intro i e; have := hr i (by omega); omega
    | succ d ih => intro i e; have h1 := ih (i + 1) (by omega); have h2 := h i (by omega); omega
  intro i hi
  have h1 := inc_ge h hi
  have h2 := up (r - 1 - i) i (by omega)
  omega
/-! how large minors can be -/
def Mb (M r R C : Nat) (A : Mat) : Prop := ∀ a b : Nat → Nat, (∀ i, i < r → a i < R) → (∀ j, j < r → b j < C) → (D r (fun i j => A (a i) (b j))).natAbs ≤ M
theorem Mb.of_inc {M r R C : Nat} {A : Mat} (h : ∀ a b : Nat → Nat, (∀ i, i + 1 < r → a i < a (i + 1)) → (∀ i, i + 1 < r → b i < b (i + 1)) → (∀ i, i < r → a i < R) → (∀ j, j < r → b j < C) → (D r (fun i j => A (a i) (b j))).natAbs ≤ M) : Mb M r R C A := by
  intro a b ha hb
  refine sort_ind (k := r) (r := R) (P := fun a => (D r (fun i j => A (a i) (b j))).natAbs ≤ M) (fun a hai ha => ?_) (fun a i hi e => ?_) (fun a i hi hp => ?_) a ha
  · refine sort_ind (k := r) (r := C) (P := fun b => (D r (fun i j => A (a i) (b j))).natAbs ≤ M) (fun b hbi hb => h a b hai hbi ha hb) (fun b i hi e => ?_) (fun b i hi hp => ?_) b hb
    · rw [D_cadj hi fun x => by rw [e]]; exact Nat.zero_le M
    · rw [swf_cols r (fun x j => A (a x) j) b hi, Int.natAbs_neg] at hp
      exact hp
  · rw [D_adj hi (by rw [e])]; exact Nat.zero_le M
  · rw [swf_rows r (fun x j => A x (b j)) a hi, Int.natAbs_neg] at hp
    exact hp
theorem Mb.of_cells {B N r R C : Nat} {A : Mat} (hr : r ≤ N) (hN : 1 ≤ N) (hB : 1 ≤ B) (h : ∀ i j, (A i j).natAbs ≤ B) : Mb ((N * B) ^ N) r R C A := fun a b _ _ =>
  Nat.le_trans (D_abs (N := N) hr fun i j => h _ _) (Nat.pow_le_pow_right (Nat.mul_pos hN hB) hr)
/-- a minor of stairs is no larger than those of the table that makes the same -/
theorem minor_le {M r k R C : Nat} {A B : Mat} {J : Nat → Nat} (hrk : r ≤ k) (hAB : ∀ i, i < k → ∃ l : Nat → Int, ∀ x, x < C → A i x = S R fun s => l s * B s x) (hBA : ∀ i, i < R → ∃ l : Nat → Int, ∀ x, x < C → B i x = S k fun s => l s * A s x)
    (hJ : ∀ j, j < r → J j < C) (hlow : ∀ i, r ≤ i → i < k → ∀ j, j < r → A i (J j) = 0) (hM : Mb M r R C B) : (D r (fun i j => A i (J j))).natAbs ≤ M := by
  by_cases hz : D r (fun i j => A i (J j)) = 0
  · rw [hz]; exact Nat.zero_le M
  have hA : Dv (D r (fun i j => A i (J j))) r k r (fun i j => A i (J j)) := .of_inc fun a b hai hbi ha hb => by
    have eb := inc_id hbi hb
    by_cases q : ∀ i, i < r → a i < r
    · have ea := inc_id hai q
      rw [D_congr (A := fun i j => A (a i) (J (b j))) (B := fun i j => A i (J j)) fun i hi j hj => by rw [ea i hi, eb j hj]]
      exact Int.dvd_refl _
    · obtain ⟨i, hi⟩ := Classical.not_forall.mp q
      obtain ⟨hir, hia⟩ := Classical.not_imp.mp hi
      rw [D_row0 hir (A := fun i j => A (a i) (J (b j))) fun j hj => hlow _ (by omega) (ha i hir) _ (hb j hj)]
      exact Int.dvd_zero _
  have hB : Dv (D r (fun i j => A i (J j))) r R r (fun i j => B i (J j)) := hA.rows fun i hi => by
    obtain ⟨l, hl⟩ := hBA i hi
    exact ⟨l, fun j hj => hl _ (hJ j hj)⟩
  have hn : ¬ Dv 0 r R r (fun i j => B i (J j)) := fun h0 => by
    have h1 : Dv 0 r k r (fun i j => A i (J j)) := h0.rows fun i hi => by
      obtain ⟨l, hl⟩ := hAB i hi
      exact ⟨l, fun j hj => hl _ (hJ j hj)⟩
    exact hz (Int.zero_dvd.mp (h1 (fun i => i) (fun j => j) (fun i hi => by omega) (fun j hj => hj)))
  have hex : ∃ a b : Nat → Nat, (∀ i, i < r → a i < R) ∧ (∀ j, j < r → b j < r) ∧ D r (fun i j => B (a i) (J (b j))) ≠ 0 := Classical.byContradiction fun hno => hn fun a b ha hb => by
    have : D r (fun i j => B (a i) (J (b j))) = 0 := Classical.byContradiction fun z => hno ⟨a, b, ha, hb, z⟩
    show (0 : Int) ∣ D r (fun i j => B (a i) (J (b j)))
    rw [this]; exact Int.dvd_refl 0
  obtain ⟨a, b, ha, hb, hne⟩ := hex
  have h1 := hB a b ha hb
  have h2 : (D r (fun i j => A i (J j))).natAbs ≤ (D r (fun i j => B (a i) (J (b j)))).natAbs := Nat.le_of_dvd (Int.natAbs_pos.mpr hne) (Int.natAbs_dvd_natAbs.mpr h1)
  exact Nat.le_trans h2 (hM a (fun j => J (b j)) ha fun j hj => hJ _ (hb j hj))
theorem tri_le : ∀ {k : Nat} {A : Mat}, (∀ i, i < k → A i i ≠ 0) → (∀ i j, j < i → i < k → A i j = 0) → ∀ i, i < k → (A i i).natAbs ≤ (D k A).natAbs
  | 0, _, _, _, i, hi => absurd hi (by omega)
  | k + 1, A, hd, hz, i, hi => by
    have e : D (k + 1) A = A 0 0 * D k (fun r c => A (r + 1) (c + 1)) := by
      rw [D, S_left, S_zero (n := k) fun i hi => by rw [hz (i + 1) 0 (by omega) (by omega)]; omega]
      have e2 : D k (fun r c => A (skip 0 r) (c + 1)) = D k (fun r c => A (r + 1) (c + 1)) := D_congr fun i hi j hj => by rw [skip_0]
      rw [e2, show sg 0 = 1 from rfl, Int.one_mul, Int.add_zero]
    have hd' : ∀ i, i < k → A (i + 1) (i + 1) ≠ 0 := fun i hi => hd (i + 1) (by omega)
    have hz' : ∀ i j, j < i → i < k → A (i + 1) (j + 1) = 0 := fun i j hj hi => hz (i + 1) (j + 1) (by omega) (by omega)
    have nz := D_tri (A := fun r c => A (r + 1) (c + 1)) hd' hz'
    rw [e, Int.natAbs_mul]
    match i with
    | 0 => exact Nat.le_mul_of_pos_right _ (Int.natAbs_pos.mpr nz)
    | i + 1 => exact Nat.le_trans (tri_le (A := fun r c => A (r + 1) (c + 1)) hd' hz' i (by omega)) (Nat.le_mul_of_pos_left _ (Int.natAbs_pos.mpr (hd 0 (by omega))))
theorem D_tri_succ {k : Nat} {A : Mat} (hz : ∀ i j, j < i → i < k + 1 → A i j = 0) : D (k + 1) A = D k A * A k k := D_last k fun j hj => hz k j hj (by omega)
theorem tri_lead : ∀ {k : Nat} {A : Mat}, (∀ i, i < k → A i i ≠ 0) → (∀ i j, j < i → i < k → A i j = 0) → ∀ r, r ≤ k → (D r A).natAbs ≤ (D k A).natAbs
  | 0, _, _, _, r, hr => by
    have e : r = 0 := by omega
    subst e; exact Nat.le_refl _
  | k + 1, A, hd, hz, r, hr => by
    by_cases q : r = k + 1
    · subst q; exact Nat.le_refl _
    · rw [D_tri_succ hz, Int.natAbs_mul]
      exact Nat.le_trans (tri_lead (fun i hi => hd i (by omega)) (fun i j hj hi => hz i j hj (by omega)) r (by omega)) (Nat.le_mul_of_pos_right _ (Int.natAbs_pos.mpr (hd k (by omega))))
/-! normal tables by their places -/
theorem nrm_stg {c : Nat} : ∀ {t : Table}, Nrm t → (∀ r ∈ t, r.length = c) → ∃ ld, Stg c t ld t.length
  | [], _, hl => ⟨fun _ => 0, hl, fun a h => absurd h (by simp), fun a b _ h => absurd h (by simp), fun a b _ h => absurd h (by simp)⟩
  | r :: s, ⟨⟨j, h1, h2, h3, h4⟩, h⟩, hl => by
    obtain ⟨ld, q⟩ := nrm_stg h fun p hp => hl p (List.mem_cons_of_mem _ hp)
    refine ⟨fun a => if a = 0 then j else ld (a - 1), hl, fun a ha => ?_, fun a b hab hb x hx => ?_, fun a b hba _ ha => ?_⟩
    · match a with
      | 0 => exact ⟨h1, h2⟩
      | a + 1 => exact q.lead a (by simpa using ha)
    · match a, b, hab with
      | 0, b + 1, _ => exact h3 (rw_ s b) (rw_mem (by simpa using hb)) x hx
      | a + 1, b + 1, hab => exact q.low a b (by omega) (by simpa using hb) x hx
    · match a, b, hba with
      | a + 1, 0, _ => exact h4 (rw_ s a) (rw_mem (by simpa using ha)) _ (q.lead a (by simpa using ha)).1
      | a + 1, b + 1, hba => exact q.red a b (by omega) (by simpa using ha) (by simpa using ha)
theorem MM_vec (t : Table) (i x : Nat) : MM 0 t i x = vec (rw_ t i) x := by unfold MM vec rw_; rw [Nat.zero_add]
theorem Stg.ld_lt {c : Nat} {t : Table} {ld : Nat → Nat} {n : Nat} (q : Stg c t ld n) {a : Nat} (ha : a < t.length) : ld a < c := Nat.lt_of_not_le fun z => (q.lead a ha).1.2 (vec_out (by rw [q.len _ (rw_mem ha)]; exact z))
theorem Stg.ld_inc {c : Nat} {t : Table} {ld : Nat → Nat} {n : Nat} (q : Stg c t ld n) {a b : Nat} (hab : a < b) (hb : b < t.length) : ld a < ld b := Nat.lt_of_not_le fun z => (q.lead b hb).1.2 (q.low a b hab hb _ z)
theorem Lat.rows {m t : Table} (h : ∀ r ∈ t, Lat m (vec r)) {C : Nat} : ∀ i, i < t.length → ∃ l : Nat → Int, ∀ x, x < C → MM 0 t i x = S m.length fun s => l s * MM 0 m s x := fun i hi => by
  obtain ⟨l, hl⟩ := (h _ (rw_mem hi)).coef
  exact ⟨l, fun x _ => by rw [← hl x]; exact MM_vec t i x⟩
/-- how large a normal table's numbers can be -/
theorem nrm_cells {c M : Nat} {t m : Table} (hn : Nrm t) (hl : ∀ r ∈ t, r.length = c) (he : LatEq t m) (hM : Mb M t.length m.length c (MM 0 m)) : ∀ r ∈ t, ∀ x, (vec r x).natAbs ≤ t.length * M := by
  intro r hr x
  obtain ⟨i, hi, rfl⟩ := mem_rw hr
  by_cases hx : x < c
  · obtain ⟨ld, q⟩ := nrm_stg hn hl
    let P : Mat := fun a s => vec (rw_ t a) (ld s)
    have hd : ∀ a, a < t.length → P a a ≠ 0 := fun a ha => (q.lead a ha).1.2
    have hz : ∀ a s, s < a → a < t.length → P a s = 0 := fun a s hs ha => q.low s a hs ha _ (Nat.le_refl _)
    have nz := D_tri hd hz
    have hP : ∀ a s, a < t.length → s < t.length → (P a s).natAbs ≤ (D t.length P).natAbs := fun a s ha hs => by
      refine Nat.le_trans ?_ (tri_le hd hz s hs)
      rcases Nat.lt_trichotomy a s with w | w | w
      · have := q.red s a w hs hs
        have h2 : 0 ≤ P a s ∧ P a s < P s s := this
        omega
      · rw [w]; exact Nat.le_refl _
      · rw [hz a s w ha]; exact Nat.zero_le _
    have hmin : ∀ s, s < t.length → (D t.length (repc P s fun a => vec (rw_ t a) x)).natAbs ≤ M := fun s hs => by
      have h1 := minor_le (M := M) (r := t.length) (k := t.length) (R := m.length) (C := c) (A := MM 0 t) (B := MM 0 m) (J := fun y => if y = s then x else ld y) (Nat.le_refl _)
        (Lat.rows fun r hr => (he _).mp (.mem hr)) (Lat.rows fun r hr => (he _).mpr (.mem hr)) (fun j hj => by
          show (if j = s then x else ld j) < c
          split
          · exact hx
          · exact q.ld_lt hj) (fun i h1 h2 => absurd h2 (by omega)) hM
      rw [D_congr (A := repc P s fun a => vec (rw_ t a) x) (B := fun i j => MM 0 t i (if j = s then x else ld j)) fun a ha b hb => ?_]
      · exact h1
      · unfold repc
        rw [MM_vec]
        by_cases w : b = s
        · rw [if_pos w, if_pos w]
        · rw [if_neg w, if_neg w]
    have hcr := cramer_col P (fun a => vec (rw_ t a) x) hi
    have habs : (S t.length (fun s => D t.length (repc P s fun a => vec (rw_ t a) x) * P i s)).natAbs ≤ t.length * (M * (D t.length P).natAbs) := S_abs fun s hs => by
      rw [Int.natAbs_mul]
      exact Nat.mul_le_mul (hmin s hs) (hP i s hi hs)
    rw [hcr, Int.natAbs_mul, ← Nat.mul_assoc, Nat.mul_comm] at habs
    exact Nat.le_of_mul_le_mul_right habs (Int.natAbs_pos.mpr nz)
  · rw [vec_out (by rw [hl _ hr]; omega)]
    exact Nat.zero_le _
end WT

set_option Elab.async false
set_option linter.all false
namespace WT
open Ra64
/-! turned over -/
def turnO (c : Nat) (t : Table) : Table := (List.range c).map (colAt t)
theorem turnO_len (c : Nat) (t : Table) : (turnO c t).length = c := by unfold turnO; rw [List.length_map, List.length_range]
theorem turnO_rows {c : Nat} {t : Table} : ∀ r ∈ turnO c t, r.length = t.length := fun r hr => by
  obtain ⟨j, _, rfl⟩ := List.mem_map.mp hr
  exact colAt_len t j
theorem vec_colAt (t : Table) (j y : Nat) : vec (colAt t j) y = MM 0 t y j := by
  unfold vec colAt MM
  rw [Nat.zero_add, List.getD_eq_getElem?_getD, List.getElem?_map, List.getD_eq_getElem?_getD (l := t)]
  cases t[y]? <;> simp
theorem turnO_take {c i : Nat} {t : Table} (hi : i ≤ c) {x : Nat} (hx : x < i) (y : Nat) : MM 0 ((turnO c t).take i) x y = MM 0 t y x := by
  rw [MM_vec, ← vec_colAt]
  unfold rw_ turnO
  rw [List.getD_eq_getElem?_getD, List.getElem?_take, if_pos hx, List.getElem?_map, List.getElem?_range (by omega)]; rfl
theorem turnO_MM {c : Nat} {t : Table} {x : Nat} (hx : x < c) (y : Nat) : MM 0 (turnO c t) x y = MM 0 t y x := by
  have := turnO_take (t := t) (Nat.le_refl c) hx y
  rwa [List.take_of_length_le (by rw [turnO_len]; exact Nat.le_refl _)] at this
/-! what is known of a table's minors -/
structure Good (M c : Nat) (t : Table) : Prop where
  le : ∀ i r, i ≤ c → r ≤ t.length → (∀ a, r ≤ a → a < t.length → ∀ x, x < i → MM 0 t a x = 0) → ∀ b : Nat → Nat, (∀ y, y < r → b y < i) → (D r (fun x y => MM 0 t x (b y))).natAbs ≤ M
theorem Good.of_lat {M c : Nat} {t m : Table} (he : LatEq t m) (hM : ∀ r, r ≤ t.length → Mb M r m.length c (MM 0 m)) : Good M c t :=
  ⟨fun i r hi hr hv b hb => minor_le hr (Lat.rows fun r hr => (he _).mp (.mem hr)) (Lat.rows fun r hr => (he _).mpr (.mem hr)) (fun j hj => by have := hb j hj; omega) (fun a h1 h2 j hj => hv a h1 h2 _ (hb j hj)) (hM r hr)⟩
theorem Good.of_sq {M c : Nat} {t : Table} (hl : t.length = c) (hd : ∀ i, i < c → MM 0 t i i ≠ 0) (hz : ∀ i j, j < i → i < c → MM 0 t i j = 0) (hM : (D c (MM 0 t)).natAbs ≤ M) : Good M c t := by
  refine ⟨fun i r hi hr hv b hb => ?_⟩
  have hir : i ≤ r := Nat.le_of_not_lt fun q => hd r (by omega) (hv r (Nat.le_refl r) (by omega) r q)
  refine sort_ind (k := r) (r := r) (P := fun b => (D r (fun x y => MM 0 t x (b y))).natAbs ≤ M) (fun b hbi hb => ?_) (fun b i hi e => ?_) (fun b i hi hp => ?_) b (fun y hy => by have := hb y hy; omega)
  · have eb := inc_id hbi hb
    rw [D_congr (A := fun x y => MM 0 t x (b y)) (B := MM 0 t) fun x hx y hy => by rw [eb y hy]]
    exact Nat.le_trans (tri_lead hd hz r (by omega)) hM
  · rw [D_cadj hi fun x => by rw [e]]; exact Nat.zero_le M
  · rw [swf_cols r (MM 0 t) b hi, Int.natAbs_neg] at hp
    exact hp
theorem Good.mb {M c : Nat} {t : Table} (h : Good M c t) {i r r' : Nat} (hi : i ≤ c) (hrr : r ≤ r') (hv : ∀ a, r ≤ a → a < t.length → ∀ x, x < i → MM 0 t a x = 0) : Mb M r' t.length i (MM 0 t) := .of_inc fun a b hai hbi ha hb => by
  by_cases q : ∀ x, x < r' → a x < r
  · have e : r' = r := by
      rcases Nat.eq_zero_or_pos r' with z | z
      · omega
      · have h1 := inc_ge hai (show r' - 1 < r' by omega)
        have h2 := q (r' - 1) (by omega)
        omega
    subst e
    have ea := inc_id hai q
    have hr : r' ≤ t.length := by
      rcases Nat.eq_zero_or_pos r' with z | z
      · omega
      · have h1 := ha (r' - 1) (by omega)
        rw [ea _ (by omega)] at h1; omega
    rw [D_congr (A := fun x y => MM 0 t (a x) (b y)) (B := fun x y => MM 0 t x (b y)) fun x hx y hy => by rw [ea x hx]]
    exact h.le i r' hi hr hv b hb
  · obtain ⟨x, hx⟩ := Classical.not_forall.mp q
    obtain ⟨hxr, hxa⟩ := Classical.not_imp.mp hx
    rw [D_row0 hxr (A := fun x y => MM 0 t (a x) (b y)) fun y hy => hv _ (by omega) (ha x hxr) _ (hb y hy)]
    exact Nat.zero_le M
theorem Good.mb_turn {M c : Nat} {t : Table} (h : Good M c t) {i r r' : Nat} (hi : i ≤ c) (hrr : r ≤ r') (hv : ∀ a, r ≤ a → a < t.length → ∀ x, x < i → MM 0 t a x = 0) : Mb M r' i t.length (MM 0 ((turnO c t).take i)) := fun a b ha hb => by
  have h1 := h.mb hi hrr hv b a hb ha
  rw [← D_tr] at h1
  rw [D_congr (B := fun x y => MM 0 t (b y) (a x)) fun x hx y hy => turnO_take hi (ha x hx) _]
  exact h1
/-- how many lead ahead of a place -/
theorem count_lead {k i : Nat} {ld : Nat → Nat} (h : ∀ a b, a < b → b < k → ld a < ld b) : ∃ r, r ≤ k ∧ ∀ a, a < k → (ld a < i ↔ a < r) := by
  induction k with
  | zero => exact ⟨0, Nat.le_refl 0, fun a ha => absurd ha (by omega)⟩
  | succ k ih =>
    by_cases q : ld k < i
    · refine ⟨k + 1, Nat.le_refl _, fun a ha => ⟨fun _ => ha, fun _ => ?_⟩⟩
      by_cases e : a = k
      · rw [e]; exact q
      · have := h a k (by omega) (by omega); omega
    · obtain ⟨r, hr, hh⟩ := ih fun a b hab hb => h a b hab (by omega)
      refine ⟨r, by omega, fun a ha => ?_⟩
      by_cases e : a = k
      · subst e
        exact ⟨fun z => absurd z q, fun z => by omega⟩
      · exact hh a (by omega)
theorem nrm_len {c : Nat} {t : Table} (hn : Nrm t) (hl : ∀ r ∈ t, r.length = c) : t.length ≤ c := by
  obtain ⟨ld, q⟩ := nrm_stg hn hl
  rcases Nat.eq_zero_or_pos t.length with z | z
  · omega
  · have h1 := inc_ge (k := t.length) (a := ld) (fun i hi => q.ld_inc (by omega) hi) (show t.length - 1 < t.length by omega)
    have h2 := q.ld_lt (show t.length - 1 < t.length by omega)
    omega
theorem nrm_sq {c : Nat} {t : Table} (hn : Nrm t) (hl : ∀ r ∈ t, r.length = c) (hc : t.length = c) : (∀ i, i < c → LeadAt (vec (rw_ t i)) i ∧ 0 < MM 0 t i i) ∧ ∀ i j, j < i → i < c → MM 0 t i j = 0 := by
  obtain ⟨ld, q⟩ := nrm_stg hn hl
  have e : ∀ i, i < t.length → ld i = i := inc_id (fun i hi => q.ld_inc (by omega) hi) (fun i hi => by rw [hc]; exact q.ld_lt hi)
  refine ⟨fun i hi => ?_, fun i j hj hi => ?_⟩
  · have h1 := q.lead i (by omega)
    rw [e i (by omega)] at h1
    exact ⟨h1.1, by rw [MM_vec]; exact h1.2⟩
  · have h1 := q.low j i hj (by omega) j (by rw [e j (by omega)]; exact Nat.le_refl j)
    rw [MM_vec]; exact h1
/-- the tables on the way, when a table is turned over -/
theorem turn_mb {M c : Nat} {t N : Table} (hn : Nrm t) (hl : ∀ r ∈ t, r.length = c) (hg : Good M c t) {i : Nat} (hi : i ≤ c) (hN : LatEq N ((turnO c t).take i)) (hNl : ∀ r ∈ N, r.length = t.length) : Mb M N.length ((turnO c t).take i).length t.length (MM 0 ((turnO c t).take i)) ∧ (i = c → t.length ≤ N.length) := by
  obtain ⟨ld, q⟩ := nrm_stg hn hl
  obtain ⟨r, hr, hcnt⟩ := count_lead (k := t.length) (i := i) (ld := ld) fun a b hab hb => q.ld_inc hab hb
  have hlen : ((turnO c t).take i).length = i := by rw [List.length_take, turnO_len]; omega
  have hv : ∀ a, r ≤ a → a < t.length → ∀ x, x < i → MM 0 t a x = 0 := fun a h1 h2 x hx => by
    have h3 : ¬ ld a < i := fun z => by have := (hcnt a h2).mp z; omega
    rw [MM_vec]; exact (q.lead a h2).1.1 x (by omega)
  have hrN : r ≤ N.length := Nat.le_of_not_lt fun z => by
    have h0 : Dv 0 r N.length t.length (MM 0 N) := dv_rows_none z
    have h1 : Dv 0 r ((turnO c t).take i).length t.length (MM 0 ((turnO c t).take i)) := h0.lat fun p hp => (hN _).mpr (.mem hp)
    have h2 := h1 ld (fun x => x) (fun s hs => by rw [hlen]; exact (hcnt s (by omega)).mpr hs) (fun x hx => by omega)
    have h3 : D r (fun s x => MM 0 ((turnO c t).take i) (ld s) x) = D r (fun x s => MM 0 t x (ld s)) := by
      rw [← D_tr r (fun x s => MM 0 t x (ld s))]
      exact D_congr fun s hs x hx => turnO_take hi ((hcnt s (by omega)).mpr hs) _
    rw [h3] at h2
    refine D_tri (fun a ha => ?_) (fun a s hs ha => ?_) (Int.zero_dvd.mp h2)
    · rw [MM_vec]; exact (q.lead a (by omega)).1.2
    · rw [MM_vec]; exact q.low s a hs (by omega) _ (Nat.le_refl _)
  refine ⟨by rw [hlen]; exact hg.mb_turn hi hrN hv, fun e => ?_⟩
  rcases Nat.eq_zero_or_pos t.length with z | z
  · omega
  · have := (hcnt (t.length - 1) (by omega)).mp (by rw [e]; exact q.ld_lt (by omega))
    omega
theorem IsG.tr {G k r c : Nat} {A : Mat} (h : IsG G k r c A) : IsG G k c r (fun i j => A j i) :=
  ⟨fun g => (h.iff g).trans ⟨fun q a b ha hb => by rw [D_tr k (fun i j => A (b i) (a j))]; exact q b a hb ha, fun q a b ha hb => by rw [← D_tr k (fun i j => A (a i) (b j))]; exact q b a hb ha⟩⟩
theorem IsG.congr {G k r c : Nat} {A B : Mat} (h : IsG G k r c A) (e : ∀ i, i < r → ∀ j, j < c → A i j = B i j) : IsG G k r c B :=
  ⟨fun g => (h.iff g).trans ⟨fun q a b ha hb => by rw [← D_congr (A := fun i j => A (a i) (b j)) fun i hi j hj => e _ (ha i hi) _ (hb j hj)]; exact q a b ha hb, fun q a b ha hb => by rw [D_congr (B := fun i j => B (a i) (b j)) fun i hi j hj => e _ (ha i hi) _ (hb j hj)]; exact q a b ha hb⟩⟩
/-! the rounds -/
structure DInv (G : Nat → Nat) (M : Nat) (t : Table) (c : Nat) : Prop where
  nrm : Nrm t
  len : ∀ r ∈ t, r.length = c
  pos : 1 ≤ t.length
  k8 : t.length ≤ 8
  c8 : c ≤ 8
  good : Good M c t
  cell : ∀ r ∈ t, ∀ x, (vec r x).natAbs ≤ 8 * M
  isg : ∀ j, IsG (G j) j t.length c (MM 0 t)
theorem DInv.way {G : Nat → Nat} {M : Nat} {t : Table} {c : Nat} (h : DInv G M t c) {i : Nat} (hi : i ≤ c) : ∀ r ∈ normalF ((turnO c t).take i), ∀ x, (vec r x).natAbs ≤ 8 * M := by
  obtain ⟨h1, h2, h3⟩ := normalF_take (c := t.length) (m := turnO c t) turnO_rows i (by rw [turnO_len]; exact hi)
  obtain ⟨m1, _⟩ := turn_mb h.nrm h.len h.good hi h3 h2
  intro r hr x
  have h4 := nrm_cells h1 h2 h3 m1 r hr x
  have h5 : (normalF ((turnO c t).take i)).length ≤ 8 := Nat.le_trans (nrm_len h1 h2) h.k8
  exact Nat.le_trans h4 (Nat.mul_le_mul_right M h5)
theorem DInv.next {G : Nat → Nat} {M : Nat} {t : Table} {c : Nat} (h : DInv G M t c) : DInv G M (normalF (turnO c t)) t.length ∧ (normalF (turnO c t)).length = t.length := by
  obtain ⟨h1, h2, h3⟩ := normalF_spec (c := t.length) (m := turnO c t) turnO_rows
  have htk : (turnO c t).take c = turnO c t := List.take_of_length_le (by rw [turnO_len]; exact Nat.le_refl _)
  have hw := h.way (Nat.le_refl c)
  obtain ⟨m1, m2⟩ := turn_mb h.nrm h.len h.good (Nat.le_refl c) (N := normalF (turnO c t)) (by rw [htk]; exact h3) h2
  rw [htk] at m1 hw
  have hlen : (normalF (turnO c t)).length = t.length := Nat.le_antisymm (nrm_len h1 h2) (m2 rfl)
  obtain ⟨s1, s2⟩ := nrm_sq h1 h2 hlen
  refine ⟨⟨h1, h2, by rw [hlen]; exact h.pos, by rw [hlen]; exact h.k8, h.k8, ?_, hw, fun j => ?_⟩, hlen⟩
  · refine .of_sq hlen (fun i hi => by have := (s1 i hi).2; omega) s2 ?_
    have := minor_le (M := M) (r := t.length) (k := (normalF (turnO c t)).length) (R := (turnO c t).length) (C := t.length) (A := MM 0 (normalF (turnO c t))) (B := MM 0 (turnO c t)) (J := fun x => x) (by omega)
      (Lat.rows fun r hr => (h3 _).mp (.mem hr)) (Lat.rows fun r hr => (h3 _).mpr (.mem hr)) (fun j hj => hj) (fun i h1 h2 => absurd h2 (by omega)) (by rw [hlen] at m1; exact m1)
    exact this
  · have g1 : IsG (G j) j c t.length (fun i x => MM 0 t x i) := (h.isg j).tr
    have g2 : IsG (G j) j (turnO c t).length t.length (MM 0 (turnO c t)) := by
      rw [turnO_len]
      exact g1.congr fun i hi x hx => (turnO_MM hi x).symm
    exact g2.lat h3
/-! the rounds come to an end -/
def psum : Nat → Mat → Nat
  | 0, _ => 0
  | k + 1, A => psum k A + (D (k + 1) A).natAbs
theorem psum_le {A B : Mat} : ∀ {k : Nat}, (∀ i, i ≤ k → (D i A).natAbs ≤ (D i B).natAbs) → psum k A ≤ psum k B
  | 0, _ => Nat.le_refl _
  | k + 1, h => Nat.add_le_add (psum_le fun i hi => h i (by omega)) (h (k + 1) (Nat.le_refl _))
theorem psum_eq {A B : Mat} : ∀ {k : Nat}, (∀ i, i ≤ k → (D i A).natAbs ≤ (D i B).natAbs) → psum k B ≤ psum k A → ∀ i, i ≤ k → (D i A).natAbs = (D i B).natAbs
  | 0, _, _, i, hi => by
    have e : i = 0 := by omega
    subst e; rfl
  | k + 1, h, hs, i, hi => by
    have h1 := psum_le (k := k) fun i hi => h i (by omega)
    have h2 := h (k + 1) (Nat.le_refl _)
    simp only [psum] at hs
    by_cases q : i = k + 1
    · subst q; omega
    · exact psum_eq (k := k) (fun i hi => h i (by omega)) (by omega) i (by omega)
def IsDg (t : Table) : Prop := ∀ i, i < t.length → ∀ x, i < x → MM 0 t i x = 0
/-- normal, and of the numbers of a table that has nothing right of its diagonal: alone on the diagonal -/
theorem diag_of : ∀ (s : Table) (i : Nat) (W : Nat → Vec), Nrm s → (∀ a, a < s.length → LeadAt (vec (rw_ s a)) (i + a)) → (∀ b, i ≤ b → b < i + s.length → Lat s (W b)) → (∀ b x, i ≤ b → b < i + s.length → x < i ∨ b < x → W b x = 0) → (∀ b, i ≤ b → b < i + s.length → W b b = vec (rw_ s (b - i)) b) →
    ∀ a, a < s.length → ∀ x, x ≠ i + a → vec (rw_ s a) x = 0
  | [], i, W, _, _, _, _, _, a, ha, _, _ => absurd ha (by simp)
  | r :: s, i, W, ⟨⟨j, hl, hp, hs, hr⟩, hn⟩, hld, hW, hz, hd, a, ha, x, hx => by
    have ej : j = i := hl.uniq (hld 0 (by simp))
    subst ej
    have hlt : j < j + (r :: s).length := by simp
    -- the first row is alone
    have hr0 : ∀ y, y ≠ j → vec r y = 0 := fun y hy => by
      have m1 : Lat (r :: s) (fun y => vec r y + (-1) * W j y) := (Lat.mem (List.mem_cons_self ..)).lin (-1) (hW j (Nat.le_refl j) hlt)
      have hjj : W j j = vec r j := by
        have := hd j (Nat.le_refl j) hlt
        rw [Nat.sub_self] at this; exact this
      have m2 : Lat s (fun y => vec r y + (-1) * W j y) := m1.tail hl (fun q hq => hs q hq j (Nat.le_refl j)) (by rw [hjj]; omega)
      have m3 := small_zero hn.ech m2 fun q hq z hz' => by
        have b := hr q hq z hz'
        have hzj : j < z := Nat.lt_of_not_le fun w => hz'.2 (hs q hq z w)
        have e0 : W j z = 0 := hz j z (Nat.le_refl j) hlt (.inr hzj)
        rw [e0]
        omega
      have m4 := m3 y
      by_cases w : y < j
      · exact hl.1 y w
      · have e0 : W j y = 0 := hz j y (Nat.le_refl j) hlt (.inr (by omega))
        rw [e0] at m4; omega
    match a with
    | 0 => exact hr0 x (by omega)
    | a + 1 =>
      refine diag_of s (j + 1) (fun b y => if y = j then 0 else W b y) hn (fun a ha => ?_) (fun b hb1 hb2 => ?_) (fun b y hb1 hb2 hy => ?_) (fun b hb1 hb2 => ?_) a (by simpa using ha) x (by omega)
      · have := hld (a + 1) (by simpa using ha)
        rw [show j + 1 + a = j + (a + 1) by omega]; exact this
      · have hb3 : b < j + (r :: s).length := by rw [List.length_cons]; omega
        have m1 := hW b (by omega) hb3
        obtain ⟨e, he⟩ := head_dvd m1 fun q hq => hs q hq j (Nat.le_refl j)
        have m2 : Lat (r :: s) (fun y => if y = j then 0 else W b y) := (m1.lin (-e) (Lat.mem (List.mem_cons_self ..))).of_eq fun y => by
          by_cases w : y = j
          · subst w; rw [if_pos rfl, he]; grind
          · rw [if_neg w, hr0 y w]; omega
        exact m2.tail hl (fun q hq => hs q hq j (Nat.le_refl j)) (if_pos rfl)
      · have hb3 : b < j + (r :: s).length := by rw [List.length_cons]; omega
        (try dsimp only)
        by_cases w : y = j
        · rw [if_pos w]
        · rw [if_neg w]
          exact hz b y (by omega) hb3 (by omega)
      · have hb3 : b < j + (r :: s).length := by rw [List.length_cons]; omega
        (try dsimp only)
        rw [if_neg (by omega), hd b (by omega) hb3, show b - j = (b - (j + 1)) + 1 by omega]; rfl
/-- a round of square tables: the leading minors are no larger; if they stay, the numbers are alone on the diagonal -/
theorem round_le {G : Nat → Nat} {M : Nat} {t : Table} {c : Nat} (h : DInv G M t c) (hsq : t.length = c) : psum c (MM 0 (normalF (turnO c t))) ≤ psum c (MM 0 t) ∧ (psum c (MM 0 t) ≤ psum c (MM 0 (normalF (turnO c t))) → IsDg (normalF (turnO c t))) := by
  obtain ⟨n1, n2⟩ := h.next
  obtain ⟨h1, h2, h3⟩ := normalF_spec (c := t.length) (m := turnO c t) turnO_rows
  obtain ⟨s1, s2⟩ := nrm_sq h1 h2 n2
  obtain ⟨u1, u2⟩ := nrm_sq h.nrm h.len hsq
  have htr : ∀ i, i ≤ c → D i (MM 0 (turnO c t)) = D i (MM 0 t) := fun i hi => by
    rw [← D_tr i (MM 0 t)]
    exact D_congr fun x hx y hy => turnO_MM (by omega) y
  have hle : ∀ i, i ≤ c → (D i (MM 0 (normalF (turnO c t)))).natAbs ≤ (D i (MM 0 t)).natAbs := fun i hi => by
    have hA : Dv (D i (MM 0 (normalF (turnO c t)))) i (normalF (turnO c t)).length i (MM 0 (normalF (turnO c t))) := .of_inc fun a b hai hbi ha hb => by
      have eb := inc_id hbi hb
      by_cases q : ∀ x, x < i → a x < i
      · have ea := inc_id hai q
        rw [D_congr (A := fun x y => MM 0 (normalF (turnO c t)) (a x) (b y)) (B := MM 0 (normalF (turnO c t))) fun x hx y hy => by rw [ea x hx, eb y hy]]
        exact Int.dvd_refl _
      · obtain ⟨x, hx⟩ := Classical.not_forall.mp q
        obtain ⟨hxr, hxa⟩ := Classical.not_imp.mp hx
        rw [D_row0 hxr (A := fun x y => MM 0 (normalF (turnO c t)) (a x) (b y)) fun y hy => s2 _ _ (by have := hb y hy; omega) (by have := ha x hxr; omega)]
        exact Int.dvd_zero _
    have hB : Dv (D i (MM 0 (normalF (turnO c t)))) i (turnO c t).length i (MM 0 (turnO c t)) := hA.rows (Lat.rows fun r hr => (h3 _).mpr (.mem hr))
    have hB2 := hB (fun x => x) (fun x => x) (fun x hx => by rw [turnO_len]; omega) (fun x hx => hx)
    have e : D i (fun x y => MM 0 (turnO c t) x y) = D i (MM 0 t) := htr i hi
    rw [e] at hB2
    have nz : D i (MM 0 t) ≠ 0 := D_tri (fun x hx => by have := (u1 x (by omega)).2; omega) (fun x y hy hx => u2 x y hy (by omega))
    exact Nat.le_of_dvd (Int.natAbs_pos.mpr nz) (Int.natAbs_dvd_natAbs.mpr hB2)
  refine ⟨psum_le hle, fun hs => ?_⟩
  have heq := psum_eq hle hs
  -- the numbers on the diagonal stay
  have hdia : ∀ i, i < c → MM 0 (normalF (turnO c t)) i i = MM 0 t i i := fun i hi => by
    have e1 := heq (i + 1) (by omega)
    have e0 := heq i (by omega)
    have d1 : D (i + 1) (MM 0 (normalF (turnO c t))) = D i (MM 0 (normalF (turnO c t))) * MM 0 (normalF (turnO c t)) i i := D_tri_succ fun x y hy hx => s2 x y hy (by omega)
    have d2 : D (i + 1) (MM 0 t) = D i (MM 0 t) * MM 0 t i i := D_tri_succ fun x y hy hx => u2 x y hy (by omega)
    have nz : D i (MM 0 t) ≠ 0 := D_tri (fun x hx => by have := (u1 x (by omega)).2; omega) (fun x y hy hx => u2 x y hy (by omega))
    rw [d1, d2, Int.natAbs_mul, Int.natAbs_mul, e0] at e1
    have e2 := Nat.eq_of_mul_eq_mul_left (Int.natAbs_pos.mpr nz) e1
    have p1 := (s1 i (by omega)).2
    have p2 := (u1 i hi).2
    omega
  intro a ha x hx
  have := diag_of (normalF (turnO c t)) 0 (fun b => vec (rw_ (turnO c t) b)) h1 (fun a ha => by rw [Nat.zero_add]; exact (s1 a (by omega)).1) (fun b _ hb => (h3 _).mpr (.mem (rw_mem (by rw [turnO_len]; omega))))
    (fun b x _ hb hx => by
      (try dsimp only)
      rw [← MM_vec, turnO_MM (by omega)]
      by_cases w : x < c
      · exact u2 x b (by omega) w
      · rw [MM_vec]
        show vec (t.getD x []) b = 0
        rw [List.getD_eq_getElem?_getD, List.getElem?_eq_none (by omega)]; rfl)
    (fun b _ hb => by
      (try dsimp only)
      rw [← MM_vec, ← MM_vec, turnO_MM (by omega), Nat.sub_zero, hdia b (by omega)])
    a ha x (by omega)
  rw [MM_vec]; exact this
open Classical in
noncomputable def mu (t : Table) (c : Nat) : Nat := if t.length = c then (if IsDg t then 0 else 1 + psum c (MM 0 t)) else 2 + psum t.length (MM 0 (normalF (turnO c t)))
theorem mu_lt {G : Nat → Nat} {M : Nat} {t : Table} {c : Nat} (h : DInv G M t c) (hn : ¬ IsDg t) : mu (normalF (turnO c t)) t.length < mu t c := by
  obtain ⟨n1, n2⟩ := h.next
  unfold mu
  rw [if_pos n2]
  by_cases hsq : t.length = c
  · rw [if_pos hsq, if_neg hn]
    obtain ⟨r1, r2⟩ := round_le h hsq
    by_cases q : IsDg (normalF (turnO c t))
    · rw [if_pos q]; omega
    · rw [if_neg q, hsq]
      have : ¬ psum c (MM 0 t) ≤ psum c (MM 0 (normalF (turnO c t))) := fun z => q (r2 z)
      omega
  · rw [if_neg hsq]
    by_cases q : IsDg (normalF (turnO c t))
    · rw [if_pos q]; omega
    · rw [if_neg q]; omega
end WT

set_option Elab.async false
set_option linter.all false
namespace WT
open Ra64
/-! numbers on a diagonal -/
def dgf (f : Nat → Int) : Mat := fun i x => if i = x then f i else 0
theorem S_pair {N q : Nat} {h : Nat → Int} (h0 : 0 < q) (hq : q < N) (hz : ∀ i, i < N → i ≠ 0 → i ≠ q → h i = 0) : S N h = h 0 + h q := by
  obtain ⟨N', rfl⟩ : ∃ N', N = N' + 1 := ⟨N - 1, by omega⟩
  rw [S_left, S_one (r := q - 1) (by omega) (fun i hi hne => hz (i + 1) (by omega) (by omega) (by omega)), show q - 1 + 1 = q by omega]
def two (q : Nat) (u00 u01 u10 u11 : Int) : Mat := fun i s => if i = 0 then (if s = 0 then u00 else if s = q then u01 else 0) else if i = q then (if s = 0 then u10 else if s = q then u11 else 0) else if s = i then 1 else 0
theorem trade_dv {g : Int} {k N q : Nat} {f f' : Nat → Int} {u00 u01 u10 u11 v00 v01 v10 v11 : Int} (h0 : 0 < q) (hq : q < N) (hf : ∀ i, i ≠ 0 → i ≠ q → f' i = f i)
    (e00 : u00 * f 0 * v00 + u01 * f q * v10 = f' 0) (e01 : u00 * f 0 * v01 + u01 * f q * v11 = 0) (e10 : u10 * f 0 * v00 + u11 * f q * v10 = 0) (e11 : u10 * f 0 * v01 + u11 * f q * v11 = f' q)
    (h : Dv g k N N (dgf f)) : Dv g k N N (dgf f') := by
  have h1 : Dv g k N N (fun i x => two q u00 u01 u10 u11 i x * f x) := h.rows fun i hi => ⟨fun s => two q u00 u01 u10 u11 i s, fun x hx => by
    rw [S_one hx fun s hs hne => by unfold dgf; rw [if_neg hne]; omega]
    unfold dgf; rw [if_pos rfl]⟩
  refine h1.cols fun x hx => ⟨fun s => two q v00 v10 v01 v11 x s, fun i hi => ?_⟩
  show dgf f' i x = S N fun s => two q v00 v10 v01 v11 x s * (two q u00 u01 u10 u11 i s * f s)
  clear h1 h
  have z0 : ∀ a b c d, two q a b c d 0 0 = a := fun a b c d => by unfold two; rw [if_pos rfl, if_pos rfl]
  have z1 : ∀ a b c d, two q a b c d 0 q = b := fun a b c d => by unfold two; rw [if_pos rfl, if_neg (by omega), if_pos rfl]
  have z2 : ∀ a b c d, two q a b c d q 0 = c := fun a b c d => by unfold two; rw [if_neg (by omega), if_pos rfl, if_pos rfl]
  have z3 : ∀ a b c d, two q a b c d q q = d := fun a b c d => by unfold two; rw [if_neg (by omega), if_pos rfl, if_neg (by omega), if_pos rfl]
  have zo : ∀ a b c d i s, (i = 0 ∨ i = q) → s ≠ 0 → s ≠ q → two q a b c d i s = 0 := fun a b c d i s hi h1 h2 => by
    unfold two
    rcases hi with e | e
    · rw [if_pos e, if_neg h1, if_neg h2]
    · rw [if_neg (by omega), if_pos e, if_neg h1, if_neg h2]
  have zi : ∀ a b c d i s, i ≠ 0 → i ≠ q → two q a b c d i s = if s = i then 1 else 0 := fun a b c d i s h1 h2 => by
    unfold two; rw [if_neg h1, if_neg h2]
  by_cases hx2 : x = 0 ∨ x = q
  · rw [S_pair h0 hq fun s hs n1 n2 => by rw [zo _ _ _ _ x s hx2 n1 n2]; omega]
    by_cases hi2 : i = 0 ∨ i = q
    · rcases hx2 with rfl | rfl <;> rcases hi2 with rfl | rfl
      · rw [z0, z1, z0, z1]; unfold dgf; rw [if_pos rfl]; grind
      · rw [z0, z1, z2, z3]; unfold dgf; rw [if_neg (by omega)]; grind
      · rw [z2, z3, z0, z1]; unfold dgf; rw [if_neg (by omega)]; grind
      · rw [z2, z3, z2, z3]; unfold dgf; rw [if_pos rfl]; grind
    · have hi3 : i ≠ 0 ∧ i ≠ q := ⟨fun e => hi2 (.inl e), fun e => hi2 (.inr e)⟩
      rw [zi _ _ _ _ i 0 hi3.1 hi3.2, zi _ _ _ _ i q hi3.1 hi3.2, if_neg (by omega), if_neg (by omega)]
      unfold dgf
      rw [if_neg (by omega)]; omega
  · have hx3 : x ≠ 0 ∧ x ≠ q := ⟨fun e => hx2 (.inl e), fun e => hx2 (.inr e)⟩
    rw [S_one hx fun s hs hne => by rw [zi _ _ _ _ x s hx3.1 hx3.2, if_neg hne]; omega, zi _ _ _ _ x x hx3.1 hx3.2, if_pos rfl]
    by_cases hi2 : i = 0 ∨ i = q
    · rw [zo _ _ _ _ i x hi2 hx3.1 hx3.2]
      unfold dgf
      rw [if_neg (by omega)]; omega
    · have hi3 : i ≠ 0 ∧ i ≠ q := ⟨fun e => hi2 (.inl e), fun e => hi2 (.inr e)⟩
      rw [zi _ _ _ _ i x hi3.1 hi3.2]
      unfold dgf
      by_cases w : i = x
      · rw [if_pos w, if_pos w.symm, hf i hi3.1 hi3.2, w]; omega
      · rw [if_neg w, if_neg (fun e => w e.symm)]; omega
theorem bezout (a b : Nat) : ∃ x y : Int, x * a + y * b = (Nat.gcd a b : Nat) := by
  induction a, b using Nat.gcd.induction with
  | H0 n => exact ⟨0, 1, by simp⟩
  | H1 m n hm ih =>
    obtain ⟨x, y, e⟩ := ih
    refine ⟨y - x * ((n / m : Nat) : Int), x, ?_⟩
    rw [Nat.gcd_rec, ← e]
    have h := Nat.div_add_mod n m
    have h2 : (n : Int) = (m : Int) * ((n / m : Nat) : Int) + ((n % m : Nat) : Int) := by
      rw [← Int.natCast_mul, ← Int.natCast_add, h]
    generalize ((n / m : Nat) : Int) = u at *
    generalize ((n % m : Nat) : Int) = w at *
    rw [h2]
    grind
/-- two numbers traded for their gcd and lcm -/
theorem trade {g : Int} {k N q a b : Nat} {f f' : Nat → Int} (h0 : 0 < q) (hq : q < N) (hab : 0 < a) (hf : ∀ i, i ≠ 0 → i ≠ q → f' i = f i) (ha : f 0 = (a : Int)) (hb : f q = (b : Int)) (ha' : f' 0 = ((Nat.gcd a b : Nat) : Int)) (hb' : f' q = ((a / Nat.gcd a b * b : Nat) : Int)) :
    Dv g k N N (dgf f) ↔ Dv g k N N (dgf f') := by
  have hg : 0 < Nat.gcd a b := Nat.gcd_pos_of_pos_left b hab
  obtain ⟨x, y, hxy⟩ := bezout a b
  obtain ⟨a', ea⟩ := Nat.gcd_dvd_left a b
  obtain ⟨b', eb⟩ := Nat.gcd_dvd_right a b
  generalize hgd : Nat.gcd a b = d at *
  have e1 : a / d = a' := by rw [ea]; exact Nat.mul_div_cancel_left a' hg
  rw [e1] at hb'
  have ea2 : (a : Int) = (d : Int) * (a' : Int) := by rw [← Int.natCast_mul, ← ea]
  have eb2 : (b : Int) = (d : Int) * (b' : Int) := by rw [← Int.natCast_mul, ← eb]
  rw [Int.natCast_mul] at hb'
  have one : x * (a' : Int) + y * (b' : Int) = 1 := by
    have hd : (d : Int) ≠ 0 := by omega
    refine Int.eq_of_mul_eq_mul_left hd ?_
    rw [ea2, eb2] at hxy
    grind
  generalize (a' : Int) = A at *
  generalize (b' : Int) = B at *
  generalize (d : Int) = d' at *
  rw [ea2] at ha
  rw [eb2] at hb hb'
  constructor
  · refine trade_dv (u00 := x) (u01 := y) (u10 := -B) (u11 := A) (v00 := 1) (v01 := -(y * B)) (v10 := 1) (v11 := x * A) h0 hq hf ?_ ?_ ?_ ?_
    · rw [ha, hb, ha']; grind
    · rw [ha, hb]; grind
    · rw [ha, hb]; grind
    · rw [ha, hb, hb']; grind
  · refine trade_dv (u00 := A) (u01 := -y) (u10 := B) (u11 := x) (v00 := x * A) (v01 := y * B) (v10 := -1) (v11 := 1) h0 hq (fun i h1 h2 => (hf i h1 h2).symm) ?_ ?_ ?_ ?_
    · rw [ha', hb', ha]; grind
    · rw [ha', hb']; grind
    · rw [ha', hb']; grind
    · rw [ha', hb', hb]; grind
/-! the chain -/
def inner : Nat → List Nat → Nat × List Nat
  | a, [] => (a, [])
  | a, n :: l => ((inner (Nat.gcd a n) l).1, (a / Nat.gcd a n * n) :: (inner (Nat.gcd a n) l).2)
theorem inner_len : ∀ (l : List Nat) (a : Nat), (inner a l).2.length = l.length
  | [], a => rfl
  | n :: l, a => by rw [inner, List.length_cons, List.length_cons, inner_len l]
def divF : List Nat → List Nat
  | [] => []
  | a :: l => (inner a l).1 :: divF (inner a l).2
termination_by l => l.length
decreasing_by rw [inner_len]; simp
theorem inner_dvd : ∀ (l : List Nat) (a : Nat), (inner a l).1 ∣ a
  | [], a => Nat.dvd_refl a
  | n :: l, a => by rw [inner]; exact Nat.dvd_trans (inner_dvd l _) (Nat.gcd_dvd_left a n)
theorem inner_dvds : ∀ (l : List Nat) (a : Nat), ∀ z ∈ (inner a l).2, (inner a l).1 ∣ z
  | [], a, z, hz => absurd hz (by simp [inner])
  | n :: l, a, z, hz => by
    rw [inner] at hz ⊢
    rcases List.mem_cons.mp hz with rfl | hz
    · exact Nat.dvd_trans (Nat.dvd_trans (inner_dvd l _) (Nat.gcd_dvd_right a n)) (Nat.dvd_mul_left _ _)
    · exact inner_dvds l _ z hz
theorem lcm_mul {a n : Nat} (ha : 0 < a) : Nat.gcd a n * (a / Nat.gcd a n * n) = a * n := by
  rw [← Nat.mul_assoc, Nat.mul_div_cancel' (Nat.gcd_dvd_left a n)]
theorem inner_pos : ∀ (l : List Nat) (a : Nat), 0 < a → (∀ z ∈ l, 0 < z) → 0 < (inner a l).1 ∧ ∀ z ∈ (inner a l).2, 0 < z
  | [], a, ha, _ => ⟨ha, fun z hz => absurd hz (by simp [inner])⟩
  | n :: l, a, ha, hl => by
    rw [inner]
    have hg : 0 < Nat.gcd a n := Nat.gcd_pos_of_pos_left n ha
    obtain ⟨h1, h2⟩ := inner_pos l (Nat.gcd a n) hg fun z hz => hl z (List.mem_cons_of_mem _ hz)
    refine ⟨h1, fun z hz => ?_⟩
    rcases List.mem_cons.mp hz with rfl | hz
    · have h3 := lcm_mul (n := n) ha
      have h4 : 0 < a * n := Nat.mul_pos ha (hl n (List.mem_cons_self ..))
      rw [← h3] at h4
      exact Nat.pos_of_mul_pos_left h4
    · exact h2 z hz
theorem inner_prod : ∀ (l : List Nat) (a : Nat), 0 < a → (inner a l).1 * prodN (inner a l).2 = a * prodN l
  | [], a, _ => rfl
  | n :: l, a, ha => by
    rw [inner]
    show (inner (Nat.gcd a n) l).1 * ((a / Nat.gcd a n * n) * prodN (inner (Nat.gcd a n) l).2) = a * (n * prodN l)
    have ih := inner_prod l (Nat.gcd a n) (Nat.gcd_pos_of_pos_left n ha)
    have h3 := lcm_mul (n := n) ha
    rw [Nat.mul_left_comm, ih, Nat.mul_left_comm, ← Nat.mul_assoc, h3, Nat.mul_assoc]
def dgN (L : List Nat) : Mat := dgf fun i => ((L.getD i 0 : Nat) : Int)
theorem getD_app {L1 L2 : List Nat} {x : Nat} : (L1 ++ x :: L2).getD L1.length 0 = x := by
  rw [List.getD_eq_getElem?_getD, List.getElem?_append_right (Nat.le_refl _), Nat.sub_self]; rfl
theorem getD_app_ne {L1 L2 : List Nat} {x y i : Nat} (h : i ≠ L1.length) : (L1 ++ x :: L2).getD i 0 = (L1 ++ y :: L2).getD i 0 := by
  rw [List.getD_eq_getElem?_getD, List.getD_eq_getElem?_getD]
  by_cases q : i < L1.length
  · rw [List.getElem?_append_left q, List.getElem?_append_left q]
  · rw [List.getElem?_append_right (by omega), List.getElem?_append_right (by omega)]
    obtain ⟨d, hd⟩ : ∃ d, i - L1.length = d + 1 := ⟨i - L1.length - 1, by omega⟩
    rw [hd]; rfl
theorem inner_dv {g : Int} {k : Nat} : ∀ (l : List Nat) (a : Nat) (pre : List Nat) (N : Nat), 0 < a → N = 1 + pre.length + l.length → (Dv g k N N (dgN (a :: (pre ++ l))) ↔ Dv g k N N (dgN ((inner a l).1 :: (pre ++ (inner a l).2))))
  | [], a, pre, N, _, _ => Iff.rfl
  | n :: l, a, pre, N, ha, hN => by
    rw [inner]
    have h1 : Dv g k N N (dgN (a :: (pre ++ n :: l))) ↔ Dv g k N N (dgN (Nat.gcd a n :: (pre ++ (a / Nat.gcd a n * n) :: l))) := by
      rw [List.length_cons] at hN
      refine trade (a := a) (b := n) (q := pre.length + 1) (by omega) (by omega) ha (fun i h1 h2 => ?_) rfl ?_ rfl ?_
      · obtain ⟨j, rfl⟩ : ∃ j, i = j + 1 := ⟨i - 1, by omega⟩
        show (((pre ++ (a / Nat.gcd a n * n) :: l).getD j 0 : Nat) : Int) = ((pre ++ n :: l).getD j 0 : Nat)
        rw [getD_app_ne (by omega)]
      · show (((pre ++ n :: l).getD pre.length 0 : Nat) : Int) = _
        rw [getD_app]
      · show (((pre ++ (a / Nat.gcd a n * n) :: l).getD pre.length 0 : Nat) : Int) = _
        rw [getD_app]
    refine h1.trans ?_
    have h2 := inner_dv (g := g) (k := k) l (Nat.gcd a n) (pre ++ [a / Nat.gcd a n * n]) N (Nat.gcd_pos_of_pos_left n ha) (by rw [List.length_append, List.length_singleton, hN, List.length_cons]; omega)
    rw [List.append_assoc, List.append_assoc, List.singleton_append, List.singleton_append] at h2
    exact h2
theorem divF_cons (a : Nat) (l : List Nat) : divF (a :: l) = (inner a l).1 :: divF (inner a l).2 := by rw [divF]
theorem divF_nil : divF [] = [] := by rw [divF]
theorem chain_isG : ∀ (n : Nat) (L : List Nat), L.length = n → (∀ z ∈ L, 0 < z) → (divF L).length = n ∧ (∀ d ∈ divF L, 0 < d) ∧ ∀ j, j ≤ n → IsG (prodN ((divF L).take j)) j n n (dgN L)
  | 0, L, hL, hp => by
    have e : L = [] := List.eq_nil_of_length_eq_zero hL
    subst e
    rw [divF_nil]
    refine ⟨rfl, fun d hd => absurd hd (by simp), fun j hj => ?_⟩
    have ej : j = 0 := by omega
    subst ej
    exact IsG.zero
  | n + 1, [], hL, hp => absurd hL (by simp)
  | n + 1, a :: l, hL, hp => by
    have hl : l.length = n := by simpa using hL
    obtain ⟨p1, p2⟩ := inner_pos l a (hp a (List.mem_cons_self ..)) fun z hz => hp z (List.mem_cons_of_mem _ hz)
    obtain ⟨c1, c2, c3⟩ := chain_isG n (inner a l).2 (by rw [inner_len]; exact hl) p2
    rw [divF_cons]
    refine ⟨by rw [List.length_cons, c1], fun d hd => ?_, fun j hj => ?_⟩
    · rcases List.mem_cons.mp hd with rfl | hd
      · exact p1
      · exact c2 d hd
    · match j with
      | 0 => exact IsG.zero
      | j + 1 =>
        have h1 : IsG ((inner a l).1 * prodN ((divF (inner a l).2).take j)) (j + 1) (n + 1) (n + 1) (dgN ((inner a l).1 :: (inner a l).2)) := by
          refine IsG.block p1 rfl (fun x hx _ => ?_) (fun x hx _ => ?_) (fun x y hx1 hx2 hy1 hy2 => ?_) ((c3 j (by omega)).congr fun x hx y hy => ?_)
          · unfold dgN dgf; rw [if_neg (by omega)]
          · unfold dgN dgf; rw [if_neg (by omega)]
          · unfold dgN dgf
            split
            · obtain ⟨w, rfl⟩ : ∃ w, x = w + 1 := ⟨x - 1, by omega⟩
              show _ ∣ (((inner a l).2.getD w 0 : Nat) : Int)
              rw [List.getD_eq_getElem?_getD]
              cases e : (inner a l).2[w]? with
              | none => exact Int.dvd_zero _
              | some z => exact Int.natCast_dvd_natCast.mpr (inner_dvds l a z (List.mem_of_getElem? e))
            · exact Int.dvd_zero _
          · unfold dgN dgf
            by_cases w : x = y
            · rw [if_pos w, if_pos (by omega)]; rfl
            · rw [if_neg w, if_neg (by omega)]
        refine ⟨fun g => (h1.iff g).trans ?_⟩
        exact (inner_dv (g := (g : Int)) (k := j + 1) l a [] (n + 1) (hp a (List.mem_cons_self ..)) (by rw [hl]; simp; omega)).symm
/-! the end of the rounds -/
def diagN (t : Table) : List Nat := (List.range t.length).map fun i => (MM 0 t i i).toNat
theorem diagN_len (t : Table) : (diagN t).length = t.length := by unfold diagN; rw [List.length_map, List.length_range]
theorem diag_facts {c : Nat} {t : Table} (hn : Nrm t) (hl : ∀ r ∈ t, r.length = c) (hd : IsDg t) : ∀ i, i < t.length → 0 < MM 0 t i i ∧ ∀ x, x ≠ i → MM 0 t i x = 0 := by
  obtain ⟨ld, q⟩ := nrm_stg hn hl
  intro i hi
  have h1 := inc_ge (k := t.length) (a := ld) (fun i hi => q.ld_inc (by omega) hi) hi
  have h2 := q.lead i hi
  have e : ld i = i := Nat.le_antisymm (Nat.le_of_not_lt fun w => h2.1.2 (by rw [← MM_vec]; exact hd i hi _ w)) h1
  rw [e] at h2
  refine ⟨by rw [MM_vec]; exact h2.2, fun x hx => ?_⟩
  by_cases w : x < i
  · rw [MM_vec]; exact h2.1.1 x w
  · exact hd i hi x (by omega)
theorem diagN_pos {c : Nat} {t : Table} (hn : Nrm t) (hl : ∀ r ∈ t, r.length = c) (hd : IsDg t) : ∀ z ∈ diagN t, 0 < z := fun z hz => by
  obtain ⟨i, hi, rfl⟩ := List.mem_map.mp hz
  have := (diag_facts hn hl hd i (List.mem_range.mp hi)).1
  omega
theorem diagN_get {t : Table} {i : Nat} (hi : i < t.length) : (diagN t).getD i 0 = (MM 0 t i i).toNat := by
  unfold diagN
  rw [List.getD_eq_getElem?_getD, List.getElem?_map, List.getElem?_range hi]; rfl
theorem IsG.dg {G j c : Nat} {t : Table} (hn : Nrm t) (hl : ∀ r ∈ t, r.length = c) (hd : IsDg t) (h : IsG G j t.length c (MM 0 t)) : IsG G j t.length t.length (dgN (diagN t)) := by
  have hkc := nrm_len hn hl
  have hcell : ∀ i, i < t.length → ∀ x, dgN (diagN t) i x = if x < t.length then MM 0 t i x else 0 := fun i hi x => by
    obtain ⟨f1, f2⟩ := diag_facts hn hl hd i hi
    unfold dgN dgf
    by_cases w : i = x
    · subst w
      rw [if_pos rfl, if_pos hi]
      show (((diagN t).getD i 0 : Nat) : Int) = _
      rw [diagN_get hi]; omega
    · rw [if_neg w]
      split
      · exact (f2 x (fun e => w e.symm)).symm
      · rfl
  refine ⟨fun g => (h.iff g).trans ⟨fun q => q.cols fun x hx => ⟨fun s => if s = x then 1 else 0, fun i hi => ?_⟩, fun q => q.cols fun x hx => ⟨fun s => if s = x then 1 else 0, fun i hi => ?_⟩⟩⟩
  · show _ = S c fun s => (if s = x then 1 else 0) * MM 0 t i s
    rw [S_one (r := x) (by omega) fun s hs hne => by rw [if_neg hne]; omega, if_pos rfl, hcell i hi, if_pos hx]; omega
  · show _ = S t.length fun s => (if s = x then 1 else 0) * dgN (diagN t) i s
    by_cases w : x < t.length
    · rw [S_one (r := x) w fun s hs hne => by rw [if_neg hne]; omega, if_pos rfl, hcell i hi, if_pos w]; omega
    · rw [S_zero fun s hs => by rw [if_neg (by omega)]; omega]
      exact (diag_facts hn hl hd i hi).2 x (by omega)
theorem IsG.none {k r c : Nat} {A : Mat} (h : r < k) : IsG 0 k r c A := ⟨fun g => ⟨fun _ a b ha hb => by
  have := dv_rows_none (c := c) (A := A) h a b ha hb
  rw [Int.zero_dvd.mp this]; exact Int.dvd_zero _, fun _ => Nat.dvd_zero g⟩⟩
/-- the divisors -/
theorem divisors_end {c0 c : Nat} {m t : Table} (hm : ∀ r ∈ m, r.length = c0) (hn : Nrm t) (hl : ∀ r ∈ t, r.length = c) (hd : IsDg t) (hg : ∀ j, IsG (minorsGcd m c0 j) j t.length c (MM 0 t)) : divisorsOf m c0 = divF (diagN t) := by
  obtain ⟨c1, c2, c3⟩ := chain_isG t.length (diagN t) (diagN_len t) (diagN_pos hn hl hd)
  refine divisorsOf_eq hm c2 (fun j hj => ?_) ?_
  · rw [c1] at hj
    exact ((hg j).dg hn hl hd).uniq (c3 j hj)
  · rw [c1]
    exact (hg _).uniq (IsG.none (by omega))
/-- the start -/
theorem DInv.start {c : Nat} {m : Table} (hl : ∀ r ∈ m, r.length = c) (hc : c ≤ 8) {B : Nat} (hB : 1 ≤ B) (hcell : ∀ r ∈ m, ∀ x, (vec r x).natAbs ≤ B) (hne : normalF m ≠ []) : DInv (minorsGcd m c) ((8 * B) ^ 8) (normalF m) c := by
  obtain ⟨h1, h2, h3⟩ := normalF_spec hl
  have hk : (normalF m).length ≤ c := nrm_len h1 h2
  have hcells : ∀ i j, (MM 0 m i j).natAbs ≤ B := fun i j => by
    rw [MM_vec]
    by_cases q : i < m.length
    · exact hcell _ (rw_mem q) j
    · unfold rw_
      rw [List.getD_eq_getElem?_getD, List.getElem?_eq_none (by omega)]
      exact Nat.zero_le _
  have hmb : ∀ r, r ≤ (normalF m).length → Mb ((8 * B) ^ 8) r m.length c (MM 0 m) := fun r hr => .of_cells (by omega) (by omega) hB hcells
  refine ⟨h1, h2, ?_, by omega, hc, .of_lat h3 hmb, fun r hr x => ?_, fun j => (minorsGcd_isG m c j).lat h3⟩
  · cases e : normalF m with
    | nil => exact absurd e hne
    | cons a l => simp
  · exact Nat.le_trans (nrm_cells h1 h2 h3 (hmb _ (Nat.le_refl _)) r hr x) (Nat.mul_le_mul_right _ (by omega))
/-- how large the tables on the way are, of a table of small numbers -/
theorem way_cells {c : Nat} {m : Table} (hl : ∀ r ∈ m, r.length = c) (hc : c ≤ 8) {B : Nat} (hB : 1 ≤ B) (hcell : ∀ r ∈ m, ∀ x, (vec r x).natAbs ≤ B) {n : Nat} (hn : n ≤ m.length) : ∀ r ∈ normalF (m.take n), ∀ x, (vec r x).natAbs ≤ 8 * (8 * B) ^ 8 := by
  obtain ⟨h1, h2, h3⟩ := normalF_take hl n hn
  have hk := nrm_len h1 h2
  have hcells : ∀ i j, (MM 0 (m.take n) i j).natAbs ≤ B := fun i j => by
    rw [MM_vec]
    by_cases q : i < (m.take n).length
    · exact hcell _ (List.mem_of_mem_take (rw_mem q)) j
    · unfold rw_
      rw [List.getD_eq_getElem?_getD, List.getElem?_eq_none (by omega)]
      exact Nat.zero_le _
  intro r hr x
  exact Nat.le_trans (nrm_cells h1 h2 h3 (.of_cells (by omega) (by omega) hB hcells) r hr x) (Nat.mul_le_mul_right _ (by omega))
theorem divisors_none {c : Nat} {m : Table} (hl : ∀ r ∈ m, r.length = c) (h : normalF m = []) : divisorsOf m c = [] := by
  unfold divisorsOf
  dsimp only
  rw [normalF_eq hl, h]; rfl
end WT

set_option Elab.async false
set_option linter.all false
set_option maxRecDepth 100000
namespace WD
open PySem L2
def top (i : Nat) : Stmt := PySem.Challenge.pw_wholetables_s04_divisors.main.body.getD i (.Pass ⟨0, 0, 0, 0⟩)
abbrev d_divisors : Stmt := top 3
abbrev d_within : Stmt := top 4
abbrev d_split_rows : Stmt := top 5
abbrev d_column_at : Stmt := top 6
abbrev d_first_place : Stmt := top 7
abbrev d_normal_of : Stmt := top 8
abbrev d_add_row : Stmt := top 9
abbrev d_clear_second : Stmt := top 10
abbrev d_lessen_above : Stmt := top 11
abbrev d_turn_above_zero : Stmt := top 12
abbrev d_lessen : Stmt := top 13
abbrev d_take_away : Stmt := top 14
abbrev d_divisors_of : Stmt := top 15
abbrev d_is_diagonal : Stmt := top 16
abbrev d_turn_over : Stmt := top 17
abbrev d_divide_in_turn : Stmt := top 18
abbrev d_common_divisor : Stmt := top 19
end WD

set_option Elab.async false
set_option linter.all false
set_option maxRecDepth 100000
namespace WD
open PySem L2 WT
/-! tables on the heap -/
structure RowsAt (H : Hp) (as : List Addr) (m : List (List Int)) : Prop where
  len : as.length = m.length
  row : ∀ (i : Nat) (a : Addr), as[i]? = some a → H a = some (.lst ((m.getD i []).map V.int))
structure TabAt (H : Hp) (p : Addr) (m : List (List Int)) : Prop where
  ex : ∃ as : List Addr, H p = some (.lst (as.map V.ref)) ∧ RowsAt H as m
theorem RowsAt.same {H H' : Hp} {as : List Addr} {m : List (List Int)} (h : RowsAt H as m) (s : Same H H') : RowsAt H' as m := ⟨h.len, fun i a e => s _ _ (h.row i a e)⟩
theorem TabAt.same {H H' : Hp} {p : Addr} {m : List (List Int)} (h : TabAt H p m) (s : Same H H') : TabAt H' p m := by
  obtain ⟨as, h1, h2⟩ := h.ex
  exact ⟨as, s _ _ h1, h2.same s⟩
theorem same_upd {H : Hp} {a : Addr} {o : HO} (h : H a = none) : Same H (upd H a o) := fun b u e => by
  rw [upd_ne (ne_of_none e h)]; exact e
theorem same_upd2 {H H' : Hp} {a : Addr} {o : HO} (s : Same H H') (h : H a = none) : Same H (upd H' a o) := fun b u e => by
  rw [upd_ne (ne_of_none e h)]; exact s b u e
/-- a new list of rows, as it grows -/
structure Grow (H H' : Hp) (D : Addr) (m : List (List Int)) : Prop where
  same : Same H H'
  ex : ∃ as : List Addr, H' D = some (.lst (as.map V.ref)) ∧ as.length = m.length ∧ ∀ (j : Nat) (a : Addr), as[j]? = some a → a ≠ D ∧ H' a = some (.lst ((m.getD j []).map V.int))
theorem Grow.start {H : Hp} {D : Addr} (hD : H D = none) : Grow H (upd H D (.lst [])) D [] := ⟨same_upd hD, [], upd_same, rfl, fun j a e => by simp at e⟩
theorem Grow.tab {H H' : Hp} {D : Addr} {m : List (List Int)} (h : Grow H H' D m) : TabAt H' D m := by
  obtain ⟨as, h1, h2, h3⟩ := h.ex
  exact ⟨as, h1, h2, fun i a e => (h3 i a e).2⟩
theorem Grow.more {H H' H'' : Hp} {D : Addr} {m : List (List Int)} (h : Grow H H' D m) (s : Same H' H'') : Grow H H'' D m := by
  obtain ⟨as, h1, h2, h3⟩ := h.ex
  exact ⟨h.same.trans s, as, s _ _ h1, h2, fun j a e => ⟨(h3 j a e).1, s _ _ (h3 j a e).2⟩⟩
theorem getD_snoc {m : List (List Int)} {r : List Int} {j : Nat} : (m ++ [r]).getD j [] = if j < m.length then m.getD j [] else if j = m.length then r else [] := by
  rw [List.getD_eq_getElem?_getD, List.getElem?_append]
  by_cases q : j < m.length
  · rw [if_pos q, if_pos q, List.getD_eq_getElem?_getD]
  · rw [if_neg q, if_neg q]
    by_cases e : j = m.length
    · rw [if_pos e, e, Nat.sub_self]; rfl
    · rw [if_neg e]
      obtain ⟨d, hd⟩ : ∃ d, j - m.length = d + 1 := ⟨j - m.length - 1, by omega⟩
      rw [hd]; rfl
theorem Grow.push {H H' : Hp} {D p : Addr} {m : List (List Int)} {r : List Int} (hD : H D = none) (h : Grow H H' D m) (hp : p ≠ D) (hr : H' p = some (.lst (r.map V.int))) : ∃ acc, H' D = some (.lst acc) ∧ acc.length = m.length ∧ Grow H (upd H' D (.lst (acc ++ [V.ref p]))) D (m ++ [r]) := by
  obtain ⟨as, h1, h2, h3⟩ := h.ex
  refine ⟨_, h1, by rw [List.length_map, h2], same_upd2 h.same hD, as ++ [p], by rw [upd_same, List.map_append]; rfl, by rw [List.length_append, List.length_append, h2]; rfl, fun j a e => ?_⟩
  rw [List.getElem?_append] at e
  by_cases q : j < as.length
  · rw [if_pos q] at e
    obtain ⟨z1, z2⟩ := h3 j a e
    refine ⟨z1, ?_⟩
    rw [upd_ne z1, getD_snoc, if_pos (by omega)]; exact z2
  · rw [if_neg q] at e
    have ej : j = as.length := by
      have := (List.getElem?_eq_some_iff.mp e).1
      simp at this; omega
    have ea : a = p := by rw [ej, Nat.sub_self] at e; simpa using e.symm
    subst ea ej
    refine ⟨hp, ?_⟩
    rw [upd_ne hp, getD_snoc, if_neg (by omega), if_pos h2]; exact hr
theorem getD_T {m : List (List Int)} {i : Nat} (hi : i < m.length) : m.getD i [] = m[i] := by
  rw [List.getD_eq_getElem?_getD, List.getElem?_eq_getElem hi]; rfl
theorem mem_getD {m : List (List Int)} {i : Nat} (hi : i < m.length) : m.getD i [] ∈ m := by
  rw [getD_T hi]; exact List.getElem_mem hi
theorem take_snoc {m : List (List Int)} {i : Nat} (hi : i < m.length) : m.take (i + 1) = m.take i ++ [m.getD i []] := by
  rw [List.take_add_one, List.getElem?_eq_getElem hi, getD_T hi]; rfl
theorem takeI_snoc {l : List Int} {i : Nat} (hi : i < l.length) : l.take (i + 1) = l.take i ++ [l.getD i 0] := by
  rw [List.take_add_one, List.getElem?_eq_getElem hi, List.getD_eq_getElem?_getD, List.getElem?_eq_getElem hi]; rfl
theorem at_int {l : List Int} {j : Nat} {z : Int} (e : z = (j : Int)) (h : j < l.length) : atI (l.map V.int) z = some (V.int (l.getD j 0)) := by
  refine at_of e ?_
  rw [List.getElem?_map, List.getElem?_eq_getElem h, List.getD_eq_getElem?_getD, List.getElem?_eq_getElem h]; rfl
theorem cut_rows (ns : List Int) (c i : Nat) (h : (i + 1) * c ≤ ns.length) : cutV (ns.map V.int) (some ((i : Int) * (c : Int))) (some (((i : Int) + 1) * (c : Int))) = ((ns.drop (i * c)).take c).map V.int := by
  have e1 : (i : Int) * (c : Int) = ((i * c : Nat) : Int) := by simp
  have e2 : ((i : Int) + 1) * (c : Int) = (((i + 1) * c : Nat) : Int) := by simp
  have h2 : (i + 1) * c = i * c + c := Nat.succ_mul i c
  unfold cutV
  rw [e1, e2, List.length_map]
  have s1 : HT.sIx ns.length 0 (some ((i * c : Nat) : Int)) = i * c := by
    simp only [HT.sIx]
    try split <;> omega
  have s2 : HT.sIx ns.length ns.length (some (((i + 1) * c : Nat) : Int)) = (i + 1) * c := by
    simp only [HT.sIx]
    try split <;> omega
  rw [s1, s2, h2, Nat.add_sub_cancel_left, List.map_take, List.map_drop]
theorem cut_hi {xs : List V} (p : Nat) : cutV xs (some (p : Int)) none = xs.drop p := by
  unfold cutV
  rw [HT.sIx_none, HT.sIx_nat]
  by_cases h : p ≤ xs.length
  · rw [Nat.min_eq_left h, List.take_of_length_le (by rw [List.length_drop]; exact Nat.le_refl _)]
  · rw [Nat.min_eq_right (by omega), Nat.sub_self, List.take_zero, List.drop_eq_nil_of_le (by omega)]
/-! sizes -/
def Bd : Nat := 2 ^ 8000
theorem log_le {z : Int} (h : z.natAbs ≤ Bd) : z.natAbs.log2 ≤ 8000 := by
  by_cases h0 : z.natAbs = 0
  · rw [h0]; exact Nat.zero_le _
  · have : z.natAbs.log2 < 8001 := (Nat.log2_lt h0).mpr (Nat.lt_of_le_of_lt h (Nat.pow_lt_pow_right (by decide) (by decide)))
    omega
theorem bits_le {z : Int} (h : z.natAbs ≤ Bd) : Builtin.Int.intBits z ≤ 8001 := by
  unfold Builtin.Int.intBits
  split
  · omega
  · have := log_le h; omega
theorem mul_ok {a b : Int} (ha : a.natAbs ≤ Bd) (hb : b.natAbs ≤ Bd) : IntMulOk a b := PyProof.Rows.mulOk_of_bits (bits_le ha) (bits_le hb) (by decide)
section
variable {X : Cx}
theorem op_mulB : OpR X (binaryOp .Mult) (rI IntMulOk fun i j => .int (i * j)) := opI fun _ _ _ _ _ _ _ hc q => PyProof.Rows.mul_int q hc
theorem op_fdivB : OpR X (binaryOp .FloorDiv) (rI (fun _ j => j ≠ 0 ∧ j.natAbs ≤ Bd) fun i j => .int (i.fdiv j)) :=
  opI fun _ _ _ _ _ _ _ hc q => PyProof.Rows.floordiv_int hc.1 q (.inl (PyProof.noPylong_of_log2 (Nat.lt_of_le_of_lt (log_le hc.2) (by decide))))
end
structure Txt (mg : Str → Option Value) : Prop where
  range : mg "range" = none
  len : mg "len" = none
  enum : mg "enumerate" = none
  zip : mg "zip" = none
  rev : mg "reversed" = none
  min : mg "min" = none
  any : mg "any" = none
/-! the small defs -/
def splitR (r c : Nat) (ns : List Int) : List (List Int) := (List.range r).map fun i => (ns.drop (i * c)).take c
theorem splitR_get {r c i : Nat} {ns : List Int} (h : i < r) : (splitR r c ns).getD i [] = (ns.drop (i * c)).take c := by
  unfold splitR
  rw [List.getD_eq_getElem?_getD, List.getElem?_map, List.getElem?_range h]; rfl
theorem splitR_len (r c : Nat) (ns : List Int) : (splitR r c ns).length = r := by unfold splitR; rw [List.length_map, List.length_range]
def spWithin : Sp := fun vs H Q _ => ∃ a b : Int, vs = [.int a, .int b] ∧ Q (.bl (decide (1 ≤ a) && decide (a ≤ b))) H
def spSplit (K : PySem.W.Frag) : Sp := fun vs H Q _ => ∃ (r c : Nat) (a : Addr) (ns : List Int), vs = [.int r, .int c, .ref a] ∧ SqL K H a (ns.map V.int) ∧ r ≤ 16 ∧ c ≤ 16 ∧ ns.length = r * c ∧
  ∀ (p : Addr) (H' : Hp), Same H H' → TabAt H' p (splitR r c ns) → Q (.ref p) H'
def spFirst (K : PySem.W.Frag) : Sp := fun vs H Q _ => ∃ (a : Addr) (l : List Int), vs = [.ref a] ∧ SqL K H a (l.map V.int) ∧ ∀ H' : Hp, Same H H' → Q (.int (fp l)) H'
section
variable {P : Program} {w : World} {K : PySem.W.Frag} {mg : Str → Option Value} {base : Heap}
theorem scWithin : FnScope ["size", "most"] ["size", "most"] (defScope d_within) := ⟨rfl, rfl, rfl, by decide +kernel, rfl, by decide +kernel, by decide +kernel⟩
theorem ok_within {f : Addr} {fd : FuncData} (F : Fun K "within" "within" d_within f fd) : FnOk P w K mg base CX0 1 f fd ["size", "most"] spWithin := by
  refine F.ok scWithin (fun vs H Q E h => ?_) (fun cdv A outer s H vs Q E hr h => ?_)
  · obtain ⟨a, b, rfl, _⟩ := h
    rfl
  · obtain ⟨a, b, rfl, k⟩ := h
    refine ⟨_, pss_one (ps_ret (pe_and (pe_cmp (pc_ge (pv 0) pe_int)) (pe_one (pe_cmp (pc_le (pv 0) (pv 1)))))), ?_⟩
    refine ⟨_, rfl, _, _, rfl, rfl, _, rfl, ite2 (fun h => ⟨_, rfl, _, rfl, _, _, rfl, rfl, ?_⟩) (fun h => ?_)⟩
    · have h1 : decide (1 ≤ a) = true := h
      rw [h1, Bool.true_and] at k
      exact k
    · have h1 : decide (1 ≤ a) = false := by simpa using h
      rw [h1, Bool.false_and] at k
      exact k
theorem scSplit : FnScope ["rows", "columns", "table", "i"] ["rows", "columns", "table"] (defScope d_split_rows) := ⟨rfl, rfl, rfl, by decide +kernel, rfl, by decide +kernel, by decide +kernel⟩
theorem ok_split {f : Addr} {fd : FuncData} (F : Fun K "split_rows" "split_rows" d_split_rows f fd) (T : Txt mg) : FnOk P w K mg base CX0 1 f fd ["rows", "columns", "table"] (spSplit K) := by
  refine F.ok scSplit (fun vs H Q E h => ?_) (fun cdv A outer s H vs Q E hr h => ?_)
  · obtain ⟨r, c, a, ns, rfl, _⟩ := h
    rfl
  · obtain ⟨r, c, a, ns, rfl, hS, hr16, hc16, hlen, k⟩ := h
    refine ⟨_, pss_one (ps_ret (pe_lc (own := [("i", 3)]) rfl scSplit.nd (pi_range1 rfl T.range (pa_cons (pv 0) pa_nil)) (blkOk_by (show blkC ["rows", "columns", "table", "i"] (defScope d_split_rows) _ [("i", 3)] = true from by decide +kernel))
      (fun s H C cl fp => pg_name (i := 3) scSplit.nd rfl (Or.inl rfl)) (fun s H C cl fp => pts_nil)
      (fun s H C cl fp => pe_slice (r := rSlL K) sl_list (pv 2) (po_some (pe_op op_mul (pv 3) (pv 1))) (po_some (pe_op op_mul (pe_op op_add (pv 3) pe_int) (pv 1)))))), ?_⟩
    refine ⟨_, rfl, (r : Int), rfl, by omega, by omega, fun D hD => ?_⟩
    refine lc_range (lo := 0) (n := r) (fun i H' => Grow H H' D ((splitR r c ns).take i)) (Grow.start hD) ?_ ?_
    · rintro i H' hi g
      refine ⟨rfl, ?_⟩
      have hmul : (i + 1) * c ≤ ns.length := by rw [hlen]; exact Nat.mul_le_mul_right c hi
      refine ⟨_, rfl, _, rfl, _, rfl, _, _, rfl, rfl, .inr ⟨by omega, by omega⟩, _, rfl, _, rfl, _, _, rfl, rfl, _, rfl, _, _, rfl, rfl, .inr ⟨by omega, by omega⟩, _, rfl, a, _, rfl, g.same.seq hS, fun p hp => ?_⟩
      have g2 := g.more (same_upd (o := .lst (cutV (ns.map V.int) (some ((0 + (i : Int)) * (c : Int))) (some ((0 + (i : Int) + 1) * (c : Int))))) hp)
      obtain ⟨as, g1, _⟩ := g.ex
      have hpD : p ≠ D := (ne_of_none g1 hp).symm
      obtain ⟨acc, q1, q2, q3⟩ := g2.push (r := (splitR r c ns).getD i []) hD hpD (by
        rw [upd_same, splitR_get hi, show (0 : Int) + (i : Int) = (i : Int) by omega, cut_rows ns c i hmul])
      refine ⟨acc, q1, ?_, ?_⟩
      · rw [q2, List.length_take]
        exact Nat.lt_of_le_of_lt (Nat.min_le_left _ _) (Nat.lt_of_lt_of_le (show i < 17 by omega) (by decide))
      · rw [take_snoc (by rw [splitR_len]; exact hi)]; exact q3
    · rintro H' g
      rw [List.take_of_length_le (by rw [splitR_len]; exact Nat.le_refl _)] at g
      exact k D H' g.same g.tab
theorem scFirst : FnScope ["numbers", "place", "number"] ["numbers"] (defScope d_first_place) := ⟨rfl, rfl, rfl, by decide +kernel, rfl, by decide +kernel, by decide +kernel⟩
theorem fp_is {l : List Int} {i : Nat} (hi : i < l.length) (h : ∀ j, j < i → l.getD j 0 = 0) (hz : l.getD i 0 ≠ 0) : fp l = i := by
  have hv : ∀ (j : Nat) (hj : j < l.length), l.getD j 0 = l[j] := fun j hj => by
    rw [List.getD_eq_getElem?_getD, List.getElem?_eq_getElem hj]; rfl
  unfold fp
  refine (List.findIdx_eq hi).mpr ⟨?_, fun j hj => ?_⟩
  · rw [hv i hi] at hz
    simpa using hz
  · have := h j hj
    rw [hv j (by omega)] at this
    simpa using this
theorem fp_none {l : List Int} (h : ∀ j, j < l.length → l.getD j 0 = 0) : fp l = l.length := by
  unfold fp
  refine List.findIdx_eq_length.mpr fun r hr => ?_
  obtain ⟨i, hi, rfl⟩ := List.mem_iff_getElem.mp hr
  have := h i hi
  rw [List.getD_eq_getElem?_getD, List.getElem?_eq_getElem hi] at this
  simpa using this
theorem ok_first {f : Addr} {fd : FuncData} (F : Fun K "first_place" "first_place" d_first_place f fd) (T : Txt mg) : FnOk P w K mg base CX0 1 f fd ["numbers"] (spFirst K) := by
  refine F.ok scFirst (fun vs H Q E h => ?_) (fun cdv A outer s H vs Q E hr h => ?_)
  · obtain ⟨a, l, rfl, _⟩ := h
    rfl
  · obtain ⟨a, l, rfl, hS, k⟩ := h
    refine ⟨_, pss_cons (ps_for PassesOwn.never rfl (pi_enum rfl T.enum (pa_cons (pv 0) pa_nil)) (pg_tup rfl (pgs_cons (pg_name (i := 1) scFirst.nd rfl (Or.inl rfl)) (pgs_cons (pg_name (i := 2) scFirst.nd rfl (Or.inl rfl)) pgs_nil)))
      (pss_one (ps_if (pt_cmp (pc_neI (pv 2) pe_int)) (pss_one (ps_ret (pv 1))) pss_nil)))
      (pss_one (ps_ret (pe_callB call_len_seq (by rfl) T.len PySem.boot_len (pa_cons (pv 0) pa_nil)))), ?_⟩
    refine ⟨_, rfl, a, _, rfl, hS, fun i n σ H' => n = l.length - i ∧ i ≤ l.length ∧ Same H H' ∧ (∃ v1 v2, σ = [some (.ref a), v1, v2]) ∧ ∀ j, j < i → l.getD j 0 = 0,
      ⟨_, rfl, Nat.zero_le _, Same.refl H, ⟨_, _, rfl⟩, fun j hj => absurd hj (by omega)⟩, ?_⟩
    rintro i n σ H' ⟨rfl, hi, sm, ⟨v1, v2, rfl⟩, hz⟩
    by_cases hlt : i < l.length
    · right
      have ei : (l.map V.int)[i]? = some (V.int (l.getD i 0)) := by rw [List.getElem?_map, List.getElem?_eq_getElem hlt, List.getD_eq_getElem?_getD, List.getElem?_eq_getElem hlt]; rfl
      refine ⟨⟨_, _, sm.seq hS, ei⟩, fun σ' H'' => Same H H'' ∧ (∃ v1 v2, σ' = [some (.ref a), v1, v2]) ∧ ∀ j, j < i + 1 → l.getD j 0 = 0, fun σ' H'' ⟨q1, q2, q3⟩ => ⟨l.length - (i + 1), by omega, rfl, by omega, q1, q2, q3⟩, ?_⟩
      rintro x H'' ⟨Tp, y, rfl, hT, rfl, hy⟩
      have ey := hy _ (sm.seq hS)
      rw [ei] at ey
      have ey' := Option.some.inj ey
      subst ey'
      have sm2 : Same H (upd H' Tp (.tup [.int (i : Nat), V.int (l.getD i 0)])) := sm.trans (same_upd hT)
      refine ⟨Tp, _, rfl, SqT.of upd_same, rfl, _, _, rfl, _, _, rfl, rfl, ?_⟩
      refine ⟨_, rfl, _, _, rfl, rfl, _, rfl, ite2 (fun h => ?_) (fun h => ?_)⟩
      · refine ⟨_, rfl, ?_⟩
        have e := fp_is hlt hz (by simpa using h)
        have := k _ sm2
        rw [e] at this
        exact this
      · refine ⟨sm2, ⟨_, _, rfl⟩, fun j hj => ?_⟩
        by_cases q : j < i
        · exact hz j q
        · have : j = i := by omega
          subst this
          simpa using h
    · left
      have ei : i = l.length := by omega
      subst ei
      refine ⟨⟨_, sm.seq hS, by rw [List.length_map]; exact Nat.le_refl _⟩, _, rfl, a, _, rfl, .inl (sm.seq hS), ?_⟩
      have := k _ sm
      rw [fp_none hz] at this
      rw [List.length_map]
      exact this
end
end WD

set_option Elab.async false
set_option linter.all false
set_option maxRecDepth 100000
namespace WD
open PySem L2 WT
theorem rowsOf_split : ∀ (f r c : Nat) (ns : List Int), r ≤ f → 1 ≤ c → ns.length = r * c → Ra64Neutral.rowsOf f c ns = splitR r c ns
  | 0, 0, c, ns, _, _, _ => rfl
  | f + 1, 0, c, ns, _, _, h => by
    have e : ns = [] := List.eq_nil_of_length_eq_zero (by rw [h, Nat.zero_mul])
    subst e; rfl
  | f + 1, r + 1, c, ns, h1, h2, h => by
    have hpos : 0 < ns.length := by rw [h, Nat.succ_mul]; omega
    have e : Ra64Neutral.rowsOf (f + 1) c ns = ns.take c :: Ra64Neutral.rowsOf f c (ns.drop c) := by
      rw [Ra64Neutral.rowsOf, if_neg]
      cases ns with
      | nil => simp at hpos
      | cons a l => simp
    rw [e, rowsOf_split f r c (ns.drop c) (by omega) h2 (by rw [List.length_drop, h, Nat.succ_mul]; omega)]
    unfold splitR
    rw [List.range_succ_eq_map, List.map_cons, List.map_map, Nat.zero_mul, List.drop_zero]
    congr 1
    refine List.map_congr_left fun i _ => ?_
    show ((ns.drop c).drop (i * c)).take c = (ns.drop ((i + 1) * c)).take c
    rw [List.drop_drop, Nat.succ_mul, Nat.add_comm]
theorem splitR_rows {r c : Nat} {ns : List Int} (h : ns.length = r * c) : ∀ q ∈ splitR r c ns, q.length = c ∧ ∀ z ∈ q, z ∈ ns := fun q hq => by
  unfold splitR at hq
  obtain ⟨i, hi, rfl⟩ := List.mem_map.mp hq
  have hi' : i < r := List.mem_range.mp hi
  have : (i + 1) * c ≤ r * c := Nat.mul_le_mul_right c hi'
  rw [Nat.succ_mul] at this
  refine ⟨by rw [List.length_take, List.length_drop, h]; omega, fun z hz => List.mem_of_mem_drop (List.mem_of_mem_take hz)⟩
end WD

set_option Elab.async false
set_option linter.all false
set_option maxRecDepth 100000
namespace WD
open PySem L2 WT
def spCol (K : PySem.W.Frag) : Sp := fun vs H Q _ => ∃ (a : Addr) (m : List (List Int)) (j : Nat), vs = [.ref a, .int j] ∧ TabAt H a m ∧ m.length ≤ 16 ∧ (∀ r ∈ m, j < r.length) ∧
  ∀ (p : Addr) (H' : Hp), Same H H' → H p = none → H' p = some (.lst ((colAt m j).map V.int)) → Q (.ref p) H'
section
variable {P : Program} {w : World} {K : PySem.W.Frag} {mg : Str → Option Value} {base : Heap}
theorem scCol : FnScope ["rows", "place", "row"] ["rows", "place"] (defScope d_column_at) := ⟨rfl, rfl, rfl, by decide +kernel, rfl, by decide +kernel, by decide +kernel⟩
theorem ok_col {f : Addr} {fd : FuncData} (F : Fun K "column_at" "column_at" d_column_at f fd) : FnOk P w K mg base CX0 1 f fd ["rows", "place"] (spCol K) := by
  refine F.ok scCol (fun vs H Q E h => ?_) (fun cdv A outer s H vs Q E hr h => ?_)
  · obtain ⟨a, m, j, rfl, _⟩ := h
    rfl
  · obtain ⟨a, m, j, rfl, ⟨as, hS, hR⟩, h16, hj, k⟩ := h
    refine ⟨_, pss_one (ps_ret (pe_lc (own := [("row", 2)]) rfl scCol.nd (pi_list (pv 0)) (blkOk_by (show blkC ["rows", "place", "row"] (defScope d_column_at) _ [("row", 2)] = true from by decide +kernel))
      (fun s H C cl fp => pg_name (i := 2) scCol.nd rfl (Or.inl rfl)) (fun s H C cl fp => pts_nil)
      (fun s H C cl fp => pe_ix (r := rIxL K) ix_list (pv 2) (pv 1) (fun _ _ => rfl)))), ?_⟩
    refine ⟨_, rfl, a, rfl, ⟨_, .of hS⟩, fun D hD => ?_⟩
    refine lc_list (a := a) (xs := as.map V.ref) (fun i H' => Same H H' ∧ H' D = some (.lst (((colAt m j).take i).map V.int))) ⟨same_upd hD, upd_same⟩ (fun i H' _ ⟨z, _⟩ => .of (z _ _ hS)) ?_ ?_
    · rintro i x H' hx ⟨sm, hDl⟩
      rw [List.getElem?_map] at hx
      obtain ⟨b, hb, rfl⟩ := Option.map_eq_some_iff.mp hx
      have hi : i < m.length := by rw [← hR.len]; exact (List.getElem?_eq_some_iff.mp hb).1
      refine ⟨rfl, _, rfl, _, rfl, b, _, _, _, rfl, rfl, .of (sm _ _ (hR.row i b hb)), at_int (j := j) rfl (hj _ (mem_getD hi)), ?_⟩
      refine ⟨_, hDl, ?_, same_upd2 sm hD, ?_⟩
      · rw [List.length_map, List.length_take]
        exact Nat.lt_of_le_of_lt (Nat.min_le_left _ _) (Nat.lt_of_lt_of_le (show i < 17 by omega) (by decide))
      · rw [upd_same, takeI_snoc (by rw [colAt_len]; exact hi), List.map_append]
        have e : (colAt m j).getD i 0 = (m.getD i []).getD j 0 := by
          unfold colAt
          rw [List.getD_eq_getElem?_getD, List.getElem?_map, List.getElem?_eq_getElem hi, getD_T hi]; rfl
        rw [e]; rfl
    · rintro H' ⟨sm, hDl⟩
      refine k D H' sm hD ?_
      rw [hDl, List.take_of_length_le]
      rw [colAt_len, List.length_map, hR.len]; exact Nat.le_refl _
end
end WD

set_option Elab.async false
set_option linter.all false
set_option maxRecDepth 100000
namespace WD
open PySem L2 WT
/-! more forms of loops -/
theorem lc_zip {K : PySem.W.Frag} {a b : Addr} {xs ys : List V} {g : TG} {tt : TT} {te : TE} {vs : List Nat} {σ : St} {H1 : Hp} {D : Addr} {Qd : Hp → Prop} (hlen : xs.length = ys.length) (Pv : Nat → Hp → Prop) (h0 : Pv 0 (upd H1 D (.lst []))) (hl : ∀ i H, i ≤ xs.length → Pv i H → SqL K H a xs ∧ SqL K H b ys)
    (hs : ∀ i x y H T, xs[i]? = some x → ys[i]? = some y → Pv i H → H T = none → g (.ref T) (wipe σ vs) (upd H T (.tup [x, y])) fun σ2 H2 => wipe σ2 vs = wipe σ vs ∧ tt σ2 H2 fun b H3 =>
      if b = true then te σ2 H3 fun y H4 => ∃ acc, H4 D = some (.lst acc) ∧ acc.length < sizeLine ∧ Pv (i + 1) (upd H4 D (.lst (acc ++ [y]))) else Pv (i + 1) H3) (hd : ∀ H, Pv xs.length H → Qd H) :
    ∃ W : Nat → Nat → Hp → Prop, (∃ m, W 0 m (upd H1 D (.lst []))) ∧ ∀ i m H, W i m H →
      ((Itz K a b).stop i H ∧ Qd H) ∨ ((Itz K a b).go i H ∧ ∃ Nx : Hp → Prop, (∀ H', Nx H' → ∃ m', m' < m ∧ W (i + 1) m' H') ∧ ∀ x H', (Itz K a b).yld i H x H' → g x (wipe σ vs) H' fun σ2 H2 => wipe σ2 vs = wipe σ vs ∧ tt σ2 H2 fun b H3 =>
        if b = true then te σ2 H3 fun y H4 => ∃ acc, H4 D = some (.lst acc) ∧ acc.length < sizeLine ∧ Nx (upd H4 D (.lst (acc ++ [y]))) else Nx H3) := by
  refine ⟨fun i m H => m = xs.length - i ∧ i ≤ xs.length ∧ Pv i H, ⟨xs.length, by simp, Nat.zero_le _, h0⟩, ?_⟩
  rintro i m H ⟨rfl, hi, p⟩
  obtain ⟨q1, q2⟩ := hl i H hi p
  by_cases hlt : i < xs.length
  · refine .inr ⟨⟨xs, ys, xs[i], ys[i]'(by omega), q1, q2, List.getElem?_eq_getElem hlt, List.getElem?_eq_getElem (by omega)⟩, Pv (i + 1), fun H' p' => ⟨xs.length - (i + 1), by omega, rfl, hlt, p'⟩, fun v H' y => ?_⟩
    obtain ⟨T, x, y, rfl, hT, rfl, hx, hy⟩ := y
    exact hs i x y H T (hx xs q1) (hy ys q2) p hT
  · have e : i = xs.length := by omega
    subst e
    exact .inl ⟨⟨xs, ys, q1, q2, .inl (Nat.le_refl _)⟩, hd H p⟩
theorem for_rev {K : PySem.W.Frag} {a : Addr} {xs : List V} {g : TG} {tb : TS} {D : Ends} {σ : St} {H : Hp} (Pv : Nat → St → Hp → Prop) (h0 : Pv 0 σ H) (hl : ∀ i σ H, i ≤ xs.length → Pv i σ H → SqL K H a xs)
    (hs : ∀ i x σ H, i < xs.length → xs[xs.length - 1 - i]? = some x → Pv i σ H → g x σ H fun σ2 H2 => tb { D with nx := Pv (i + 1), ct := Pv (i + 1), bk := D.nx } σ2 H2) (hd : ∀ σ H, Pv xs.length σ H → D.nx σ H) :
    ∃ W : Nat → Nat → St → Hp → Prop, (∃ m, W 0 m σ H) ∧ ∀ i m σ H, W i m σ H →
      ((Itv K a xs.length).stop i H ∧ D.nx σ H) ∨ ((Itv K a xs.length).go i H ∧ ∃ N : St → Hp → Prop, (∀ σ' H', N σ' H' → ∃ m', m' < m ∧ W (i + 1) m' σ' H') ∧ ∀ x H', (Itv K a xs.length).yld i H x H' → g x σ H' fun σ2 H2 => tb { D with nx := N, ct := N, bk := D.nx } σ2 H2) := by
  refine ⟨fun i m σ H => m = xs.length - i ∧ i ≤ xs.length ∧ Pv i σ H, ⟨xs.length, by simp, Nat.zero_le _, h0⟩, ?_⟩
  rintro i m σ H ⟨rfl, hi, p⟩
  have q := hl i σ H hi p
  by_cases hlt : i < xs.length
  · refine .inr ⟨⟨hlt, xs, xs[xs.length - 1 - i]'(by omega), q, List.getElem?_eq_getElem (by omega)⟩, Pv (i + 1), fun σ' H' p' => ⟨xs.length - (i + 1), by omega, rfl, hlt, p'⟩, fun x H' y => ?_⟩
    obtain ⟨e, y⟩ := y
    subst e
    exact hs i x σ _ hlt (y xs q) p
  · have e : i = xs.length := by omega
    subst e
    exact .inl ⟨Nat.le_refl _, hd σ H p⟩
/-- a row of numbers and a list of rows are not one -/
theorem ne_ref_int {H : Hp} {u D : Addr} {as : List Addr} {x : List Int} (hD : H D = some (.lst (as.map V.ref))) (hu : H u = some (.lst (x.map V.int))) (hx : 0 < x.length) : u ≠ D := by
  intro e
  subst e
  rw [hD] at hu
  have e1 : as.map V.ref = x.map V.int := by
    have := Option.some.inj hu
    exact HO.lst.inj this
  cases x with
  | nil => simp at hx
  | cons z x =>
    cases as with
    | nil => simp at e1
    | cons b as => simp at e1
theorem getV (l : List Int) (j : Nat) : l.getD j 0 = vec l j := rfl
def spTake (K : PySem.W.Frag) : Sp := fun vs H Q _ => ∃ (a b : Addr) (t : Int) (x y : List Int), vs = [.ref a, .int t, .ref b] ∧ SqL K H a (x.map V.int) ∧ SqL K H b (y.map V.int) ∧ x.length = y.length ∧ x.length ≤ 16 ∧ t.natAbs ≤ Bd ∧ (∀ z ∈ y, z.natAbs ≤ Bd) ∧
  ∀ (p : Addr) (H' : Hp), Same H H' → H p = none → H' p = some (.lst ((Ra64.less x t y).map V.int)) → Q (.ref p) H'
def spClear2 (K : PySem.W.Frag) : Sp := fun vs H Q _ => ∃ (a b : Addr) (j X L : Nat) (x y : List Int), vs = [.ref a, .ref b, .int j] ∧ H a = some (.lst (x.map V.int)) ∧ H b = some (.lst (y.map V.int)) ∧ x.length = L ∧ y.length = L ∧ j < L ∧ L ≤ 16 ∧ Bnd j X x y ∧ X ≤ Bd ∧
  ∀ (p u l : Addr) (H' : Hp), Same H H' → H p = none → H' p = some (.lst [V.ref u, V.ref l]) → H' u = some (.lst ((clear2 x y j).1.map V.int)) → H' l = some (.lst ((clear2 x y j).2.map V.int)) → Q (.ref p) H'
def spTurn (K : PySem.W.Frag) : Sp := fun vs H Q _ => ∃ (a : Addr) (x : List Int), vs = [.ref a] ∧ H a = some (.lst (x.map V.int)) ∧ fp x < x.length ∧ x.length ≤ 16 ∧
  ∀ (p : Addr) (H' : Hp), Same H H' → H' p = some (.lst ((turnF x).map V.int)) → Q (.ref p) H'
def spLessen (K : PySem.W.Frag) : Sp := fun vs H Q _ => ∃ (a b : Addr) (x : List Int) (d : List (List Int)) (c R A : Nat), vs = [.ref a, .ref b] ∧ SqL K H a (x.map V.int) ∧ TabAt H b d ∧ Ech d ∧ (∀ r ∈ d, r.length = c) ∧ x.length = c ∧ c ≤ 16 ∧ Le R x ∧ (∀ r ∈ d, Le A r) ∧ R * (1 + A) ^ d.length ≤ Bd ∧ A ≤ Bd ∧
  ∀ (p : Addr) (H' : Hp), Same H H' → ((p = a ∧ lessenF x d = x) ∨ H' p = some (.lst ((lessenF x d).map V.int))) → Q (.ref p) H'
def spAdd (K : PySem.W.Frag) : Sp := fun vs H Q _ => ∃ (a b : Addr) (st : List (List Int)) (x : List Int) (c A B : Nat), vs = [.ref a, .ref b] ∧ TabAt H a st ∧ H b = some (.lst (x.map V.int)) ∧ EchS st ∧ (∀ r ∈ st, r.length = c) ∧ x.length = c ∧ 1 ≤ c ∧ c ≤ 16 ∧ st.length ≤ 16 ∧ 1 ≤ A ∧ 1 ≤ B ∧ (∀ r ∈ st, Le A r) ∧ Le B x ∧ (2 * A) ^ st.length * B ≤ Bd ∧
  ∀ (p : Addr) (H' : Hp), Same H H' → TabAt H' p (addRow st x) → Q (.ref p) H'
def spAbove (K : PySem.W.Frag) : Sp := fun vs H Q _ => ∃ (a : Addr) (st : List (List Int)) (c R A : Nat), vs = [.ref a] ∧ TabAt H a st ∧ EchS st ∧ (∀ r ∈ st, r.length = c) ∧ c ≤ 16 ∧ st.length ≤ 16 ∧ (∀ r ∈ st, Le R r) ∧ (∀ r ∈ lessenAbove st, Le A r) ∧ R * (1 + A) ^ st.length ≤ Bd ∧ A ≤ Bd ∧
  ∀ (p : Addr) (H' : Hp), Same H H' → TabAt H' p (lessenAbove st) → Q (.ref p) H'
section
variable {P : Program} {w : World} {K : PySem.W.Frag} {mg : Str → Option Value} {base : Heap}
abbrev NTk : List Str := ["row", "times", "other", "number", "taken"]
theorem scTake : FnScope NTk ["row", "times", "other"] (defScope d_take_away) := ⟨rfl, rfl, rfl, by decide +kernel, rfl, by decide +kernel, by decide +kernel⟩
theorem ok_take {f : Addr} {fd : FuncData} (F : Fun K "take_away" "take_away" d_take_away f fd) (T : Txt mg) : FnOk P w K mg base CX0 1 f fd ["row", "times", "other"] (spTake K) := by
  refine F.ok scTake (fun vs H Q E h => ?_) (fun cdv A outer s H vs Q E hr h => ?_)
  · obtain ⟨a, b, t, x, y, rfl, _⟩ := h
    rfl
  · obtain ⟨a, b, t, x, y, rfl, hx, hy, hl, h16, ht, hB, k⟩ := h
    refine ⟨_, pss_one (ps_ret (pe_lc (g := gTup K 2 (gCons (gName 3) (gCons (gName 4) gNil))) (own := [("number", 3), ("taken", 4)]) rfl scTake.nd (pi_zip rfl T.zip (pa_cons (pv 0) (pa_cons (pv 2) pa_nil))) (blkOk_by (show blkC NTk (defScope d_take_away) _ [("number", 3), ("taken", 4)] = true from by decide +kernel))
      (fun s H C cl fp => pg_tup rfl (pgs_cons (pg_name (i := 3) scTake.nd rfl (Or.inl rfl)) (pgs_cons (pg_name (i := 4) scTake.nd rfl (Or.inl rfl)) pgs_nil))) (fun s H C cl fp => pts_nil)
      (fun s H C cl fp => pe_op op_sub (pv 3) (pe_op op_mulB (pv 1) (pv 4))))), ?_⟩
    refine ⟨_, rfl, _, rfl, a, b, _, _, rfl, hx, hy, fun D hD => ?_⟩
    have hll : (Ra64.less x t y).length = x.length := by rw [WT.less_len hl, hl]
    refine lc_zip (xs := x.map V.int) (ys := y.map V.int) (by rw [List.length_map, List.length_map, hl]) (fun i H' => Same H H' ∧ H' D = some (.lst (((Ra64.less x t y).take i).map V.int))) ⟨same_upd hD, upd_same⟩ (fun i H' _ ⟨z, _⟩ => ⟨z.seq hx, z.seq hy⟩) ?_ ?_
    · rintro i u v H' Tp hu hv ⟨sm, hDl⟩ hT
      rw [List.getElem?_map] at hu hv
      obtain ⟨zu, hzu, rfl⟩ := Option.map_eq_some_iff.mp hu
      obtain ⟨zv, hzv, rfl⟩ := Option.map_eq_some_iff.mp hv
      have hi : i < x.length := (List.getElem?_eq_some_iff.mp hzu).1
      have hTD : D ≠ Tp := ne_of_none hDl hT
      refine ⟨Tp, _, rfl, SqT.of upd_same, rfl, _, _, rfl, _, _, rfl, rfl, rfl, ?_⟩
      refine ⟨_, rfl, _, rfl, _, rfl, _, _, rfl, rfl, mul_ok ht (hB _ (List.mem_of_getElem? hzv)), _, _, rfl, rfl, ?_⟩
      refine ⟨_, by rw [upd_ne hTD]; exact hDl, ?_, same_upd2 (sm.trans (same_upd hT)) hD, ?_⟩
      · rw [List.length_map, List.length_take]
        exact Nat.lt_of_le_of_lt (Nat.min_le_left _ _) (Nat.lt_of_lt_of_le (show i < 17 by omega) (by decide))
      · rw [upd_same, takeI_snoc (by rw [hll]; exact hi), List.map_append, getD_less hl]
        have e1 : x.getD i 0 = zu := by rw [List.getD_eq_getElem?_getD, hzu]; rfl
        have e2 : y.getD i 0 = zv := by rw [List.getD_eq_getElem?_getD, hzv]; rfl
        rw [e1, e2]; rfl
    · rintro H' ⟨sm, hDl⟩
      refine k D H' sm hD ?_
      rw [hDl, List.take_of_length_le]
      rw [hll, List.length_map]; exact Nat.le_refl _
abbrev NC2 : List Str := ["first", "second", "place", "upper", "lower", "left"]
theorem scClear2 : FnScope NC2 ["first", "second", "place"] (defScope d_clear_second) := ⟨rfl, rfl, rfl, by decide +kernel, rfl, by decide +kernel, by decide +kernel⟩
theorem ok_clear2 {f fT : Addr} {fd fdT : FuncData} (F : Fun K "clear_second" "clear_second" d_clear_second f fd) (T : Txt mg)
    (FT : Fun K "take_away" "take_away" d_take_away fT fdT) (bT : Binds K fdT ["row", "times", "other"] []) (mT : mg "take_away" = some (.ref fT)) : FnOk P w K mg base CX0 2 f fd ["first", "second", "place"] (spClear2 K) := by
  have GT : FnOk P w K mg base CX0 1 fT fdT ["row", "times", "other"] (spTake K) := ok_take FT T
  refine F.ok scClear2 (fun vs H Q E h => ?_) (fun cdv A outer s H vs Q E hr h => ?_)
  · obtain ⟨a, b, j, X, L, x, y, rfl, _⟩ := h
    rfl
  · obtain ⟨a, b, j, X, L, x, y, rfl, hx, hy, hxl, hyl, hj, h16, hBn, hX, k⟩ := h
    refine ⟨_, pss_cons (ps_set (i := 3) scClear2.nd rfl (Or.inl rfl) (pv 0)) (pss_cons (ps_set (i := 4) scClear2.nd rfl (Or.inl rfl) (pv 1))
      (pss_cons (ps_while PassesOwn.never (pt_cmp (pc_neI (pe_ix (r := rIxL K) ix_list (pv 4) (pv 2) (fun _ _ => rfl)) pe_int))
        (pss_cons (ps_set (i := 5) scClear2.nd rfl (Or.inl rfl) (pe_call GT hr rfl mT FT.kp bT .nil pass0 (pa_cons (pv 3) (pa_cons (pe_op op_fdivB (pe_ix (r := rIxL K) ix_list (pv 3) (pv 2) (fun _ _ => rfl)) (pe_ix (r := rIxL K) ix_list (pv 4) (pv 2) (fun _ _ => rfl))) (pa_cons (pv 4) pa_nil)))))
        (pss_cons (ps_set (i := 3) scClear2.nd rfl (Or.inl rfl) (pv 4)) (pss_one (ps_set (i := 4) scClear2.nd rfl (Or.inl rfl) (pv 5))))))
      (pss_one (ps_ret (pe_lst (pa_cons (pv 3) (pa_cons (pv 4) pa_nil))))))), ?_⟩
    refine ⟨_, rfl, _, rfl, ?_⟩
    refine ⟨fun μ σ H' => ∃ (u l : Addr) (x' y' : List Int) (v5 : Option V), σ = [some (.ref a), some (.ref b), some (.int (j : Int)), some (.ref u), some (.ref l), v5] ∧ μ = (vec y' j).natAbs ∧ Same H H' ∧ H' u = some (.lst (x'.map V.int)) ∧ H' l = some (.lst (y'.map V.int)) ∧ x'.length = L ∧ y'.length = L ∧ Bnd j X x' y' ∧ clear2 x y j = clear2 x' y' j,
      ⟨_, a, b, x, y, none, rfl, rfl, Same.refl H, hx, hy, hxl, hyl, hBn, rfl⟩, ?_⟩
    rintro μ σ H' ⟨u, l, x', y', v5, rfl, rfl, sm, hu, hl, hxl', hyl', hB', he⟩
    refine ⟨_, rfl, _, rfl, l, _, _, _, rfl, rfl, .of hl, at_int (j := j) rfl (by omega), _, _, rfl, rfl, _, rfl, ite2 (fun h => ?_) (fun h => ?_)⟩
    · have hnz : vec y' j ≠ 0 := by
        have h' : (!decide (y'.getD j 0 = 0)) = true := h
        rw [getV] at h'
        simpa using h'
      refine ⟨fun σ' H'' => ∃ (u l : Addr) (x2 y2 : List Int) (v5 : Option V), σ' = [some (.ref a), some (.ref b), some (.int (j : Int)), some (.ref u), some (.ref l), v5] ∧ (vec y2 j).natAbs < (vec y' j).natAbs ∧ Same H H'' ∧ H'' u = some (.lst (x2.map V.int)) ∧ H'' l = some (.lst (y2.map V.int)) ∧ x2.length = L ∧ y2.length = L ∧ Bnd j X x2 y2 ∧ clear2 x y j = clear2 x2 y2 j,
        fun σ' H'' ⟨u, l, x2, y2, v5, e1, e2, e3, e4, e5, e6, e7, e8, e9⟩ => ⟨_, e2, u, l, x2, y2, v5, e1, rfl, e3, e4, e5, e6, e7, e8, e9⟩, ?_⟩
      have el := hxl'.trans hyl'.symm
      refine ⟨_, rfl, _, rfl, _, rfl, u, _, _, _, rfl, rfl, .of hu, at_int (j := j) rfl (by omega), _, rfl, _, rfl, l, _, _, _, rfl, rfl, .of hl, at_int (j := j) rfl (by omega), _, _, rfl, rfl, ⟨hnz, Nat.le_trans (hB'.two j) hX⟩, _, rfl,
        u, l, _, x', y', rfl, .of hu, .of hl, el, by omega, Nat.le_trans (Int.natAbs_fdiv_le_natAbs _ _) (Nat.le_trans (hB'.one j) hX), fun z hz => Nat.le_trans (Le.mem (A := X) hB'.two z hz) hX, fun p H1 s1 hp hpl => ?_⟩
      refine ⟨_, rfl, _, rfl, l, p, y', _, _, rfl, meetF_step el j hnz, sm.trans s1, s1 _ _ hl, hpl, hyl', by rw [WT.less_len el]; exact hyl', hB'.step hxl' hyl' hnz, ?_⟩
      rw [he]
      exact clear2_step el hnz
    · have hz : vec y' j = 0 := by
        have h' : ¬ (!decide (y'.getD j 0 = 0)) = true := h
        rw [getV] at h'
        simpa using h'
      refine ⟨_, rfl, _, rfl, by show 2 ≤ sizeLine; decide, fun p hp => ?_⟩
      rw [he, clear2_done hz] at k
      exact k p u l _ (sm.trans (same_upd hp)) (sm.free hp) upd_same (same_upd hp _ _ hu) (same_upd hp _ _ hl)
theorem scTurn : FnScope ["row", "number"] ["row"] (defScope d_turn_above_zero) := ⟨rfl, rfl, rfl, by decide +kernel, rfl, by decide +kernel, by decide +kernel⟩
theorem ok_turn {f fF : Addr} {fd fdF : FuncData} (F : Fun K "turn_above_zero" "turn_above_zero" d_turn_above_zero f fd) (T : Txt mg) (FF : Fun K "first_place" "first_place" d_first_place fF fdF) (bF : Binds K fdF ["numbers"] []) (mF : mg "first_place" = some (.ref fF)) : FnOk P w K mg base CX0 2 f fd ["row"] (spTurn K) := by
  have GF : FnOk P w K mg base CX0 1 fF fdF ["numbers"] (spFirst K) := ok_first FF T
  refine F.ok scTurn (fun vs H Q E h => ?_) (fun cdv A outer s H vs Q E hr h => ?_)
  · obtain ⟨a, x, rfl, _⟩ := h
    rfl
  · obtain ⟨a, x, rfl, hx, hfp, h16, k⟩ := h
    refine ⟨_, pss_cons (ps_if (pt_cmp (pc_lt (pe_ix (r := rIxL K) ix_list (pv 0) (pe_call GF hr rfl mF FF.kp bF .nil pass0 (pa_cons (pv 0) pa_nil)) (fun _ _ => rfl)) pe_int))
        (pss_one (ps_ret (pe_lc (own := [("number", 1)]) rfl scTurn.nd (pi_list (pv 0)) (blkOk_by (show blkC ["row", "number"] (defScope d_turn_above_zero) _ [("number", 1)] = true from by decide +kernel))
          (fun s H C cl fp => pg_name (i := 1) scTurn.nd rfl (Or.inl rfl)) (fun s H C cl fp => pts_nil) (fun s H C cl fp => pe_un un_neg (pv 1))))) pss_nil)
      (pss_one (ps_ret (pv 0))), ?_⟩
    refine ⟨_, rfl, _, rfl, a, x, rfl, .of hx, fun H1 s1 => ⟨a, _, _, _, rfl, rfl, .of (s1 _ _ hx), at_int (j := fp x) rfl hfp, _, _, rfl, rfl, _, rfl, ite2 (fun h => ?_) (fun h => ?_)⟩⟩
    · have hneg : vec x (fp x) < 0 := of_decide_eq_true h
      have et : turnF x = x.map fun z => -z := by unfold turnF; rw [if_pos hneg]
      refine ⟨_, rfl, a, rfl, ⟨_, .of (s1 _ _ hx)⟩, fun D hD => ?_⟩
      refine lc_list (a := a) (xs := x.map V.int) (fun i H' => Same H1 H' ∧ H' D = some (.lst (((turnF x).take i).map V.int))) ⟨same_upd hD, upd_same⟩ (fun i H' _ ⟨z, _⟩ => .of (z _ _ (s1 _ _ hx))) ?_ ?_
      · rintro i u H' hu ⟨sm, hDl⟩
        rw [List.getElem?_map] at hu
        obtain ⟨zu, hzu, rfl⟩ := Option.map_eq_some_iff.mp hu
        have hi : i < x.length := (List.getElem?_eq_some_iff.mp hzu).1
        refine ⟨rfl, _, rfl, _, rfl, _, hDl, ?_, same_upd2 sm hD, ?_⟩
        · rw [List.length_map, List.length_take]
          exact Nat.lt_of_le_of_lt (Nat.min_le_left _ _) (Nat.lt_of_lt_of_le (show i < 17 by omega) (by decide))
        · rw [upd_same, takeI_snoc (by rw [turnF_len]; exact hi), List.map_append]
          have e1 : (turnF x).getD i 0 = -zu := by
            rw [et, List.getD_eq_getElem?_getD, List.getElem?_map, hzu]; rfl
          rw [e1]; rfl
      · rintro H' ⟨sm, hDl⟩
        refine k D H' (s1.trans sm) ?_
        rw [hDl, List.take_of_length_le]
        rw [turnF_len, List.length_map]; exact Nat.le_refl _
    · have hnn : ¬ vec x (fp x) < 0 := fun z => h (decide_eq_true z)
      have et : turnF x = x := by unfold turnF; rw [if_neg hnn]
      refine ⟨_, rfl, k a H1 s1 ?_⟩
      rw [et]; exact s1 _ _ hx
abbrev NLe : List Str := ["row", "stairs", "rest", "step", "place"]
theorem scLessen : FnScope NLe ["row", "stairs"] (defScope d_lessen) := ⟨rfl, rfl, rfl, by decide +kernel, rfl, by decide +kernel, by decide +kernel⟩
theorem ok_lessen {f fF fT : Addr} {fd fdF fdT : FuncData} (F : Fun K "lessen" "lessen" d_lessen f fd) (T : Txt mg) (FF : Fun K "first_place" "first_place" d_first_place fF fdF) (bF : Binds K fdF ["numbers"] []) (mF : mg "first_place" = some (.ref fF))
    (FT : Fun K "take_away" "take_away" d_take_away fT fdT) (bT : Binds K fdT ["row", "times", "other"] []) (mT : mg "take_away" = some (.ref fT)) : FnOk P w K mg base CX0 2 f fd ["row", "stairs"] (spLessen K) := by
  have GF : FnOk P w K mg base CX0 1 fF fdF ["numbers"] (spFirst K) := ok_first FF T
  have GT : FnOk P w K mg base CX0 1 fT fdT ["row", "times", "other"] (spTake K) := ok_take FT T
  refine F.ok scLessen (fun vs H Q E h => ?_) (fun cdv A outer s H vs Q E hr h => ?_)
  · obtain ⟨a, b, x, d, c, R, A, rfl, _⟩ := h
    rfl
  · obtain ⟨a, b, x, d, c, R, A, rfl, hx, ⟨as, hS, hR⟩, hE, hdl, hxl, h16, hxR, hdA, hbd, hA, k⟩ := h
    refine ⟨_, pss_cons (ps_set (i := 2) scLessen.nd rfl (Or.inl rfl) (pv 0))
      (pss_cons (ps_for PassesOwn.never rfl (pi_list (pv 1)) (pg_name (i := 3) scLessen.nd rfl (Or.inl rfl))
        (pss_cons (ps_set (i := 4) scLessen.nd rfl (Or.inl rfl) (pe_call GF hr rfl mF FF.kp bF .nil pass0 (pa_cons (pv 3) pa_nil)))
        (pss_one (ps_set (i := 2) scLessen.nd rfl (Or.inl rfl) (pe_call GT hr rfl mT FT.kp bT .nil pass0 (pa_cons (pv 2) (pa_cons (pe_op op_fdivB (pe_ix (r := rIxL K) ix_list (pv 2) (pv 4) (fun _ _ => rfl)) (pe_ix (r := rIxL K) ix_list (pv 3) (pv 4) (fun _ _ => rfl))) (pa_cons (pv 3) pa_nil))))))))
      (pss_one (ps_ret (pv 2)))), ?_⟩
    refine ⟨_, rfl, _, rfl, b, rfl, ⟨_, .of hS⟩, ?_⟩
    have h1A : 1 ≤ 1 + A := by omega
    refine for_list (a := b) (xs := as.map V.ref) (fun i σ H' => ∃ (q : Addr) (y : List Int) (v3 v4 : Option V), σ = [some (.ref a), some (.ref b), some (.ref q), v3, v4] ∧ Same H H' ∧ ((q = a ∧ y = x) ∨ H' q = some (.lst (y.map V.int))) ∧ y.length = c ∧ Le (R * (1 + A) ^ i) y ∧ lessenF y (d.drop i) = lessenF x d)
      ⟨a, x, none, none, rfl, Same.refl H, .inl ⟨rfl, rfl⟩, hxl, by simpa using hxR, rfl⟩ (fun i σ H' _ ⟨_, _, _, _, _, z, _⟩ => .of (z _ _ hS)) ?_ ?_
    · rintro i v σ H' hv ⟨q, y, v3, v4, rfl, sm, hq, hyl, hyR, he⟩
      rw [List.getElem?_map] at hv
      obtain ⟨sa, hsa, rfl⟩ := Option.map_eq_some_iff.mp hv
      have hi : i < d.length := by rw [← hR.len]; exact (List.getElem?_eq_some_iff.mp hsa).1
      have hqS : ∀ H1, Same H' H1 → SqL K H1 q (y.map V.int) := fun H1 s1 => by
        rcases hq with ⟨rfl, rfl⟩ | hq
        · exact (sm.trans s1).seq hx
        · exact .of (s1 _ _ hq)
      have hrow : ∀ H1, Same H' H1 → H1 sa = some (.lst ((d.getD i []).map V.int)) := fun H1 s1 => s1 _ _ (sm _ _ (hR.row i sa hsa))
      have hmem : d.getD i [] ∈ d := mem_getD hi
      have hsl := hdl _ hmem
      obtain ⟨j, hlead⟩ := EchS.get (st := d) (i := i) hE.echS hi
      obtain ⟨ej, hjl⟩ := fp_of hlead
      have hfl : fp (d.getD i []) < c := by rw [ej, ← hsl]; exact hjl
      have hnz : vec (d.getD i []) (fp (d.getD i [])) ≠ 0 := by rw [ej]; exact hlead.2
      have hRb : R * (1 + A) ^ i ≤ Bd := Nat.le_trans (Nat.mul_le_mul_left R (Nat.pow_le_pow_right h1A (by omega))) hbd
      refine ⟨_, rfl, sa, _, rfl, .of (hrow _ (Same.refl _)), fun H1 s1 => ?_⟩
      refine ⟨_, rfl, _, rfl, _, rfl, q, _, _, _, rfl, rfl, hqS _ s1, at_int (j := fp (d.getD i [])) rfl (by omega), _, rfl, _, rfl, sa, _, _, _, rfl, rfl, .of (hrow _ s1), at_int (j := fp (d.getD i [])) rfl (by omega), _, _, rfl, rfl, ⟨hnz, Nat.le_trans (hdA _ hmem _) hA⟩, _, rfl,
        q, sa, _, y, d.getD i [], rfl, hqS _ s1, .of (hrow _ s1), hyl.trans hsl.symm, by omega, Nat.le_trans (Int.natAbs_fdiv_le_natAbs _ _) (Nat.le_trans (hyR _) hRb), fun z hz => Nat.le_trans (Le.mem (hdA _ hmem) z hz) hA, fun p H2 s2 hp hpl => ?_⟩
      refine ⟨p, lessS y (d.getD i []), _, _, rfl, (sm.trans s1).trans s2, .inr hpl, lessS_len hyl hsl, ?_, ?_⟩
      · rw [Nat.pow_succ, ← Nat.mul_assoc]
        exact lessS_le (hyl.trans hsl.symm) hyR (hdA _ hmem)
      · rw [← he]
        have e : d.drop i = d.getD i [] :: d.drop (i + 1) := by rw [List.drop_eq_getElem_cons hi, getD_T hi]
        rw [e, lessenF_cons]
    · rintro σ H' ⟨q, y, v3, v4, rfl, sm, hq, hyl, hyR, he⟩
      rw [List.drop_of_length_le (by rw [List.length_map, hR.len]; exact Nat.le_refl _)] at he
      have he' : y = lessenF x d := he
      refine ⟨_, rfl, k q H' sm ?_⟩
      rcases hq with ⟨rfl, rfl⟩ | hq
      · exact .inl ⟨rfl, he'.symm⟩
      · exact .inr (by rw [← he']; exact hq)
end
end WD

set_option Elab.async false
set_option linter.all false
set_option maxRecDepth 100000
namespace WD
open PySem L2 WT
def spNormal (K : PySem.W.Frag) : Sp := fun vs H Q _ => ∃ (a : Addr) (m : List (List Int)) (c A B : Nat), vs = [.ref a] ∧ TabAt H a m ∧ (∀ r ∈ m, r.length = c) ∧ 1 ≤ c ∧ c ≤ 8 ∧ m.length ≤ 8 ∧ 1 ≤ A ∧ 1 ≤ B ∧ (∀ r ∈ m, Le B r) ∧ (∀ n, n ≤ m.length → ∀ r ∈ normalF (m.take n), Le A r) ∧ (2 * A) ^ 8 * B * (1 + A) ^ 9 ≤ Bd ∧
  ∀ (p : Addr) (H' : Hp), Same H H' → TabAt H' p (normalF m) → Q (.ref p) H'
section
variable {P : Program} {w : World} {K : PySem.W.Frag} {mg : Str → Option Value} {base : Heap}
abbrev NAd : List Str := ["stairs", "row", "longer", "rest", "step", "pair"]
theorem scAdd : FnScope NAd ["stairs", "row"] (defScope d_add_row) := ⟨rfl, rfl, rfl, by decide +kernel, rfl, by decide +kernel, by decide +kernel⟩
theorem min_eq {a b : Nat} : (if (b : Int) < (a : Int) then (b : Int) else (a : Int)) = ((min a b : Nat) : Int) := by
  split <;> omega
theorem ok_add {f fF fC : Addr} {fd fdF fdC : FuncData} (F : Fun K "add_row" "add_row" d_add_row f fd) (T : Txt mg) (FF : Fun K "first_place" "first_place" d_first_place fF fdF) (bF : Binds K fdF ["numbers"] []) (mF : mg "first_place" = some (.ref fF))
    (FC : Fun K "clear_second" "clear_second" d_clear_second fC fdC) (bC : Binds K fdC ["first", "second", "place"] []) (mC : mg "clear_second" = some (.ref fC)) (GC : FnOk P w K mg base CX0 2 fC fdC ["first", "second", "place"] (spClear2 K)) : FnOk P w K mg base CX0 3 f fd ["stairs", "row"] (spAdd K) := by
  have GF : FnOk P w K mg base CX0 1 fF fdF ["numbers"] (spFirst K) := ok_first FF T
  refine F.ok scAdd (fun vs H Q E h => ?_) (fun cdv A outer s H vs Q E hr h => ?_)
  · obtain ⟨a, b, st, x, c, A, B, rfl, _⟩ := h
    rfl
  · obtain ⟨a, b, st, x, c, A, B, rfl, ⟨as, hS, hR⟩, hx, hE, hstl, hxl, hc1, h16, hk16, hA, hB, hstA, hxB, hbd, k⟩ := h
    refine ⟨_, pss_cons (ps_set (i := 2) scAdd.nd rfl (Or.inl rfl) (pe_lst pa_nil)) (pss_cons (ps_set (i := 3) scAdd.nd rfl (Or.inl rfl) (pv 1))
      (pss_cons (ps_for PassesOwn.never rfl (pi_list (pv 0)) (pg_name (i := 4) scAdd.nd rfl (Or.inl rfl))
        (pss_cons (ps_set (i := 5) scAdd.nd rfl (Or.inl rfl) (pe_call GC hr rfl mC FC.kp bC .nil pass0 (pa_cons (pv 4) (pa_cons (pv 3) (pa_cons (pe_callB (call_min2 rfl) (by rfl) T.min PyProof.Rows.boot_min
            (pa_cons (pe_call GF (hr.mono (by decide)) rfl mF FF.kp bF .nil pass0 (pa_cons (pv 4) pa_nil)) (pa_cons (pe_call GF (hr.mono (by decide)) rfl mF FF.kp bF .nil pass0 (pa_cons (pv 3) pa_nil)) pa_nil))) pa_nil)))))
        (pss_cons (ps_expr (pe_bm PySem.F.plainAttrs_list PySem.F.slot_list_append PySem.F.type_list_append mt_append (pv 2) (pa_cons (pe_ix (r := rIxL K) ix_list (pv 5) pe_int (fun _ _ => rfl)) pa_nil)))
        (pss_one (ps_set (i := 3) scAdd.nd rfl (Or.inl rfl) (pe_ix (r := rIxL K) ix_list (pv 5) pe_int (fun _ _ => rfl)))))))
      (pss_cons (ps_if (pt_cmp (pc_lt (pe_call GF (hr.mono (by decide)) rfl mF FF.kp bF .nil pass0 (pa_cons (pv 3) pa_nil)) (pe_callB call_len_seq (by rfl) T.len PySem.boot_len (pa_cons (pv 3) pa_nil))))
        (pss_one (ps_expr (pe_bm PySem.F.plainAttrs_list PySem.F.slot_list_append PySem.F.type_list_append mt_append (pv 2) (pa_cons (pv 3) pa_nil)))) pss_nil)
      (pss_one (ps_ret (pv 2)))))), ?_⟩
    refine ⟨by show 0 ≤ sizeLine; exact Nat.zero_le _, fun D hD => ⟨_, rfl, _, rfl, a, rfl, ⟨_, .of (same_upd hD _ _ hS)⟩, ?_⟩⟩
    have h2A : 1 ≤ 2 * A := by omega
    refine for_list (a := a) (xs := as.map V.ref) (fun i σ H' => ∃ (q : Addr) (y : List Int) (dn : List (List Int)) (v4 v5 : Option V), σ = [some (.ref a), some (.ref b), some (.ref D), some (.ref q), v4, v5] ∧ Grow H H' D dn ∧ dn.length = i ∧ H' q = some (.lst (y.map V.int)) ∧ y.length = c ∧ Le ((2 * A) ^ i * B) y ∧ dn ++ addRow (st.drop i) y = addRow st x)
      ⟨b, x, [], none, none, rfl, Grow.start hD, rfl, same_upd hD _ _ hx, hxl, by simpa using hxB, rfl⟩ (fun i σ H' _ ⟨_, _, _, _, _, _, g, _⟩ => .of (g.same _ _ hS)) ?_ ?_
    · rintro i v σ H' hv ⟨q, y, dn, v4, v5, rfl, g, hdn, hq, hyl, hyB, he⟩
      rw [List.getElem?_map] at hv
      obtain ⟨sa, hsa, rfl⟩ := Option.map_eq_some_iff.mp hv
      have hi : i < st.length := by rw [← hR.len]; exact (List.getElem?_eq_some_iff.mp hsa).1
      have hrow : H' sa = some (.lst ((st.getD i []).map V.int)) := g.same _ _ (hR.row i sa hsa)
      have hmem : st.getD i [] ∈ st := mem_getD hi
      have hsl := hstl _ hmem
      obtain ⟨j, hlead⟩ := EchS.get (st := st) (i := i) hE hi
      obtain ⟨ej, hjl⟩ := fp_of hlead
      have hpos : 1 ≤ (2 * A) ^ i * B := Nat.mul_pos (Nat.pow_pos h2A) hB
      have hX : 2 * A * ((2 * A) ^ i * B) = (2 * A) ^ (i + 1) * B := by rw [Nat.pow_succ, Nat.mul_comm ((2 * A) ^ i) (2 * A), Nat.mul_assoc (2 * A) ((2 * A) ^ i) B]
      have hXB : 2 * A * ((2 * A) ^ i * B) ≤ Bd := by rw [hX]; exact Nat.le_trans (pow_step h2A (by omega)) hbd
      have hbn := Bnd.start (j := min (fp (st.getD i [])) (fp y)) hA hpos (hstA _ hmem) hyB
      refine ⟨_, rfl, _, rfl, _, rfl, sa, _, rfl, .of hrow, fun H1 s1 => ⟨_, rfl, q, _, rfl, .of (s1 _ _ hq), fun H2 s2 => ?_⟩⟩
      have s12 : Same H' H2 := s1.trans s2
      refine ⟨_, _, rfl, sa, q, min (fp (st.getD i [])) (fp y), _, c, st.getD i [], y, by rw [min_eq]; rfl, s12 _ _ hrow, s12 _ _ hq, hsl, hyl, by rw [hsl] at hjl; omega, h16, hbn, hXB, fun p u l H3 s3 hpn hp hu hl => ?_⟩
      obtain ⟨l1, l2⟩ := clear2_len (j := min (fp (st.getD i [])) (fp y)) hsl hyl
      obtain ⟨c1, c2⟩ := clear2_le (p := min (fp (st.getD i [])) (fp y)) hA hpos hsl hyl (hstA _ hmem) hyB
      have e : st.drop i = st.getD i [] :: st.drop (i + 1) := by rw [List.drop_eq_getElem_cons hi, getD_T hi]
      rw [e, addRow] at he
      generalize hz : clear2 (st.getD i []) y (min (fp (st.getD i [])) (fp y)) = z at *
      have g3 := g.more (s12.trans s3)
      obtain ⟨as3, gD, _⟩ := g3.ex
      have hu3 : u ≠ D := ne_ref_int gD hu (by omega)
      have hl3 : l ≠ D := ne_ref_int gD hl (by omega)
      obtain ⟨acc, q1, q2, q3⟩ := g3.push hD hu3 hu
      have hpD : p ≠ D := by
        obtain ⟨_, gD2, _⟩ := (g.more s12).ex
        exact (ne_of_none gD2 hpn).symm
      refine ⟨_, rfl, .inl ⟨rfl, _, .of q1⟩, _, rfl, p, _, _, V.ref u, rfl, rfl, .of hp, rfl, D, _, _, rfl, rfl, q1, ?_, ?_⟩
      · rw [q2, hdn]; exact Nat.lt_of_lt_of_le (show i < 17 by omega) (by decide)
      refine ⟨_, rfl, p, _, _, V.ref l, rfl, rfl, .of (by rw [upd_ne hpD]; exact hp), rfl, ?_⟩
      refine ⟨l, z.2, dn ++ [z.1], _, _, rfl, q3, by rw [List.length_append, hdn]; rfl, by rw [upd_ne hl3]; exact hl, l2, by rw [← hX]; exact c2, ?_⟩
      rw [List.append_assoc]; exact he
    · rintro σ H' ⟨q, y, dn, v4, v5, rfl, g, hdn, hq, hyl, hyB, he⟩
      rw [List.drop_of_length_le (by rw [List.length_map, hR.len]; exact Nat.le_refl _), addRow] at he
      refine ⟨_, rfl, q, _, rfl, .of hq, fun H1 s1 => ⟨_, rfl, q, _, rfl, .inl (.of (s1 _ _ hq)), _, _, rfl, rfl, _, rfl, ite2 (fun h => ?_) (fun h => ?_)⟩⟩
      · have h' : fp y < y.length := by
          have := of_decide_eq_true h
          rw [List.length_map] at this; omega
        rw [if_pos h'] at he
        have g1 := g.more s1
        obtain ⟨as3, gD, _⟩ := g1.ex
        have hqD : q ≠ D := ne_ref_int gD (s1 _ _ hq) (by omega)
        obtain ⟨acc, q1, q2, q3⟩ := g1.push hD hqD (s1 _ _ hq)
        refine ⟨_, rfl, .inl ⟨rfl, _, .of q1⟩, _, rfl, D, _, _, rfl, rfl, q1, ?_, ?_⟩
        · rw [q2, hdn, List.length_map, hR.len]; exact Nat.lt_of_lt_of_le (show st.length < 17 by omega) (by decide)
        · rw [he] at q3
          exact ⟨_, rfl, k D _ q3.same q3.tab⟩
      · have h' : ¬ fp y < y.length := by
          intro z
          refine h (decide_eq_true ?_)
          rw [List.length_map]; omega
        rw [if_neg h', List.append_nil] at he
        have g1 := g.more s1
        rw [he] at g1
        exact ⟨_, rfl, k D _ g1.same g1.tab⟩
abbrev NAb : List Str := ["stairs", "done", "row"]
theorem scAbove : FnScope NAb ["stairs"] (defScope d_lessen_above) := ⟨rfl, rfl, rfl, by decide +kernel, rfl, by decide +kernel, by decide +kernel⟩
theorem ok_above {f fT fL : Addr} {fd fdT fdL : FuncData} (F : Fun K "lessen_above" "lessen_above" d_lessen_above f fd) (T : Txt mg)
    (FT : Fun K "turn_above_zero" "turn_above_zero" d_turn_above_zero fT fdT) (bT : Binds K fdT ["row"] []) (mT : mg "turn_above_zero" = some (.ref fT)) (GT : FnOk P w K mg base CX0 2 fT fdT ["row"] (spTurn K))
    (FL : Fun K "lessen" "lessen" d_lessen fL fdL) (bL : Binds K fdL ["row", "stairs"] []) (mL : mg "lessen" = some (.ref fL)) (GL : FnOk P w K mg base CX0 2 fL fdL ["row", "stairs"] (spLessen K)) : FnOk P w K mg base CX0 3 f fd ["stairs"] (spAbove K) := by
  refine F.ok scAbove (fun vs H Q E h => ?_) (fun cdv A outer s H vs Q E hr h => ?_)
  · obtain ⟨a, st, c, R, A, rfl, _⟩ := h
    rfl
  · obtain ⟨a, st, c, R, A, rfl, ⟨as, hS, hR⟩, hE, hstl, h16, hk16, hstR, hA, hbd, hAB, k⟩ := h
    refine ⟨_, pss_cons (ps_set (i := 1) scAbove.nd rfl (Or.inl rfl) (pe_lst pa_nil))
      (pss_cons (ps_for PassesOwn.never rfl (pi_reversed rfl T.rev (pa_cons (pv 0) pa_nil)) (pg_name (i := 2) scAbove.nd rfl (Or.inl rfl))
        (pss_one (ps_set (i := 1) scAbove.nd rfl (Or.inl rfl) (pe_op op_cat (pe_lst (pa_cons (pe_call GL hr rfl mL FL.kp bL .nil pass0 (pa_cons (pe_call GT hr rfl mT FT.kp bT .nil pass0 (pa_cons (pv 2) pa_nil)) (pa_cons (pv 1) pa_nil))) pa_nil)) (pv 1)))))
      (pss_one (ps_ret (pv 1)))), ?_⟩
    have hasl : (as.map V.ref).length = st.length := by rw [List.length_map, hR.len]
    refine ⟨by show 0 ≤ sizeLine; exact Nat.zero_le _, fun D hD => ⟨_, rfl, a, as.map V.ref, rfl, .of (same_upd hD _ _ hS), ?_⟩⟩
    obtain ⟨n1, n2, n3⟩ := lessenAbove_spec hE hstl
    refine for_rev (a := a) (xs := as.map V.ref) (fun i σ H' => ∃ (q : Addr) (v2 : Option V), σ = [some (.ref a), some (.ref q), v2] ∧ Same H H' ∧ TabAt H' q (lessenAbove (st.drop (st.length - i))))
      ⟨D, none, rfl, same_upd hD, ?_⟩ (fun i σ H' _ ⟨_, _, _, z, _⟩ => .of (z _ _ hS)) ?_ ?_
    · rw [Nat.sub_zero, List.drop_of_length_le (Nat.le_refl _)]
      exact ⟨[], upd_same, rfl, fun i b e => by simp at e⟩
    · rintro i v σ H' hi hv ⟨q, v2, rfl, sm, hT⟩
      rw [hasl] at hi hv
      rw [List.getElem?_map] at hv
      obtain ⟨sa, hsa, rfl⟩ := Option.map_eq_some_iff.mp hv
      have hn : st.length - 1 - i < st.length := by omega
      generalize hN : st.length - 1 - i = n at *
      have hd1 : st.length - i = n + 1 := by omega
      have hd2 : st.length - (i + 1) = n := by omega
      rw [hd1] at hT
      have hmem : st.getD n [] ∈ st := mem_getD hn
      have hsl := hstl _ hmem
      have hrow : H' sa = some (.lst ((st.getD n []).map V.int)) := sm _ _ (hR.row n sa hsa)
      obtain ⟨j, hlead⟩ := EchS.get (st := st) (i := n) hE hn
      obtain ⟨ej, hjl⟩ := fp_of hlead
      have hsub : ∀ r ∈ lessenAbove (st.drop (n + 1)), r ∈ lessenAbove st := fun r hr => by
        rw [lessenAbove_drop] at hr; exact List.mem_of_mem_drop hr
      obtain ⟨d1, d2, d3⟩ := lessenAbove_spec (hE.drop (n + 1)) fun r hr => hstl r (List.mem_of_mem_drop hr)
      have hlen : (lessenAbove (st.drop (n + 1))).length ≤ st.length := by rw [lessenAbove_len, List.length_drop]; omega
      refine ⟨_, rfl, sa, _, rfl, hrow, by rw [ej]; exact hjl, by omega, fun pt H1 s1 hpt => ⟨_, rfl, pt, q, turnF (st.getD n []), lessenAbove (st.drop (n + 1)), c, R, A, rfl, .of hpt, hT.same s1, d1.ech, d3, by rw [turnF_len]; exact hsl, h16, turnF_le (hstR _ hmem), fun r hr => hA r (hsub r hr), ?_, hAB, fun pl H2 s2 hpl => ?_⟩⟩
      · exact Nat.le_trans (Nat.mul_le_mul_left R (Nat.pow_le_pow_right (by omega) hlen)) hbd
      have hpl2 : H2 pl = some (.lst ((lessenF (turnF (st.getD n [])) (lessenAbove (st.drop (n + 1)))).map V.int)) := by
        rcases hpl with ⟨e1, e2⟩ | h
        · rw [e1, e2]; exact s2 _ _ hpt
        · exact h
      obtain ⟨bs, hq, hb⟩ := hT.ex
      have hq2 := s2 _ _ (s1 _ _ hq)
      refine ⟨by show 1 ≤ sizeLine; decide, fun p1 hp1 => ⟨_, rfl, p1, q, _, _, rfl, rfl, upd_same, same_upd hp1 _ _ hq2, ?_, fun p2 hp2 => ?_⟩⟩
      · rw [List.length_map, hb.len]
        exact Nat.le_trans (show 1 + _ ≤ 17 by omega) (by decide)
      · refine ⟨p2, _, rfl, (sm.trans (s1.trans s2)).trans ((same_upd hp1).trans (same_upd hp2)), ?_⟩
        rw [hd2]
        have e : st.drop n = st.getD n [] :: st.drop (n + 1) := by rw [List.drop_eq_getElem_cons hn, getD_T hn]
        rw [e, lessenAbove]
        have s3 : Same H2 (upd (upd H2 p1 (.lst [V.ref pl])) p2 (.lst ([V.ref pl] ++ bs.map V.ref))) := (same_upd hp1).trans (same_upd hp2)
        refine ⟨pl :: bs, by rw [upd_same]; rfl, by rw [List.length_cons, List.length_cons, hb.len], fun t b e2 => ?_⟩
        match t with
        | 0 =>
          have e3 : pl = b := by simpa using e2
          rw [← e3]
          exact s3 _ _ hpl2
        | t + 1 => exact s3 _ _ (s2 _ _ (s1 _ _ (hb.row t b (by simpa using e2))))
    · rintro σ H' ⟨q, v2, rfl, sm, hT⟩
      rw [hasl, Nat.sub_self, List.drop_zero] at hT
      exact ⟨_, rfl, k q H' sm hT⟩
abbrev NNo : List Str := ["rows", "stairs", "row"]
theorem scNormal : FnScope NNo ["rows"] (defScope d_normal_of) := ⟨rfl, rfl, rfl, by decide +kernel, rfl, by decide +kernel, by decide +kernel⟩
theorem ok_normalOf {f fA fL : Addr} {fd fdA fdL : FuncData} (F : Fun K "normal_of" "normal_of" d_normal_of f fd)
    (FA : Fun K "add_row" "add_row" d_add_row fA fdA) (bA : Binds K fdA ["stairs", "row"] []) (mA : mg "add_row" = some (.ref fA)) (GA : FnOk P w K mg base CX0 3 fA fdA ["stairs", "row"] (spAdd K))
    (FL : Fun K "lessen_above" "lessen_above" d_lessen_above fL fdL) (bL : Binds K fdL ["stairs"] []) (mL : mg "lessen_above" = some (.ref fL)) (GL : FnOk P w K mg base CX0 3 fL fdL ["stairs"] (spAbove K)) : FnOk P w K mg base CX0 4 f fd ["rows"] (spNormal K) := by
  refine F.ok scNormal (fun vs H Q E h => ?_) (fun cdv A outer s H vs Q E hr h => ?_)
  · obtain ⟨a, m, c, A, B, rfl, _⟩ := h
    rfl
  · obtain ⟨a, m, c, A, B, rfl, ⟨as, hS, hR⟩, hl, hc1, hc8, hm8, hA1, hB1, hB, hA, hbd, k⟩ := h
    refine ⟨_, pss_cons (ps_set (i := 1) scNormal.nd rfl (Or.inl rfl) (pe_lst pa_nil))
      (pss_cons (ps_for PassesOwn.never rfl (pi_list (pv 0)) (pg_name (i := 2) scNormal.nd rfl (Or.inl rfl))
        (pss_one (ps_set (i := 1) scNormal.nd rfl (Or.inl rfl) (pe_call GL hr rfl mL FL.kp bL .nil pass0 (pa_cons (pe_call GA hr rfl mA FA.kp bA .nil pass0 (pa_cons (pv 1) (pa_cons (pv 2) pa_nil))) pa_nil)))))
      (pss_one (ps_ret (pv 1)))), ?_⟩
    refine ⟨by show 0 ≤ sizeLine; exact Nat.zero_le _, fun D hD => ⟨_, rfl, a, rfl, ⟨_, .of (same_upd hD _ _ hS)⟩, ?_⟩⟩
    refine for_list (a := a) (xs := as.map V.ref) (fun i σ H' => ∃ (q : Addr) (v2 : Option V), σ = [some (.ref a), some (.ref q), v2] ∧ Same H H' ∧ TabAt H' q (normalF (m.take i)))
      ⟨D, none, rfl, same_upd hD, [], upd_same, rfl, fun i b e => by simp at e⟩ (fun i σ H' _ ⟨_, _, _, z, _⟩ => .of (z _ _ hS)) ?_ ?_
    · rintro i v σ H' hv ⟨q, v2, rfl, sm, hT⟩
      rw [List.getElem?_map] at hv
      obtain ⟨sa, hsa, rfl⟩ := Option.map_eq_some_iff.mp hv
      have hi : i < m.length := by rw [← hR.len]; exact (List.getElem?_eq_some_iff.mp hsa).1
      have hrow : H' sa = some (.lst ((m.getD i []).map V.int)) := sm _ _ (hR.row i sa hsa)
      have hmem : m.getD i [] ∈ m := mem_getD hi
      obtain ⟨n1, n2, n3⟩ := normalF_take hl i (by omega)
      have hk : (normalF (m.take i)).length ≤ 8 := Nat.le_trans (nrm_len0 n1 n2) hc8
      have enext : lessenAbove (addRow (normalF (m.take i)) (m.getD i [])) = normalF (m.take (i + 1)) := by rw [take_snoc hi, normalF_snoc]
      obtain ⟨a1, a2, a3⟩ := addRow_spec n1.echS n2 (hl _ hmem)
      have ale := addRow_le hA1 hB1 n2 (hl _ hmem) (hA i (by omega)) (hB _ hmem)
      have alen := addRow_len (normalF (m.take i)) (m.getD i [])
      have p1 : (2 * A) ^ (normalF (m.take i)).length * B ≤ (2 * A) ^ 8 * B := pow_step (by omega) hk
      have p2 : 1 ≤ (1 + A) ^ 9 := Nat.pow_pos (by omega)
      have p3 : (2 * A) ^ 8 * B ≤ Bd := Nat.le_trans (Nat.le_mul_of_pos_right _ p2) hbd
      have pA : A ≤ Bd := by
        refine Nat.le_trans ?_ p3
        have h1 : 2 * A ≤ (2 * A) ^ 8 := by
          have := Nat.pow_le_pow_right (n := 2 * A) (by omega) (show 1 ≤ 8 by decide)
          rwa [Nat.pow_one] at this
        have h2 : (2 * A) ^ 8 ≤ (2 * A) ^ 8 * B := Nat.le_mul_of_pos_right _ hB1
        omega
      refine ⟨_, rfl, _, rfl, q, sa, normalF (m.take i), m.getD i [], c, A, B, rfl, hT, hrow, n1.echS, n2, hl _ hmem, hc1, by omega, by omega, hA1, hB1, hA i (by omega), hB _ hmem, Nat.le_trans p1 p3, fun p H1 s1 hT1 => ?_⟩
      refine ⟨p, addRow (normalF (m.take i)) (m.getD i []), c, _, A, rfl, hT1, a1, a3, by omega, by omega, ale, by rw [enext]; exact hA (i + 1) hi, ?_, pA, fun p2 H2 s2 hT2 => ?_⟩
      · refine Nat.le_trans (Nat.mul_le_mul p1 (Nat.pow_le_pow_right (by omega) (show _ ≤ 9 by omega))) hbd
      · rw [enext] at hT2
        exact ⟨p2, _, rfl, (sm.trans s1).trans s2, hT2⟩
    · rintro σ H' ⟨q, v2, rfl, sm, hT⟩
      rw [List.take_of_length_le (by rw [List.length_map, hR.len]; exact Nat.le_refl _)] at hT
      exact ⟨_, rfl, k q H' sm hT⟩
end
end WD

set_option Elab.async false
set_option linter.all false
set_option maxRecDepth 100000
namespace WD
open PySem L2 WT
/-! bounds -/
abbrev B0 : Nat := 32768
abbrev M0 : Nat := (8 * B0) ^ 8
theorem big_ok : (2 * (8 * M0)) ^ 8 * (8 * M0) * (1 + 8 * M0) ^ 9 ≤ Bd := by
  unfold Bd
  decide +kernel
theorem big_ok0 : (2 * (8 * M0)) ^ 8 * B0 * (1 + 8 * M0) ^ 9 ≤ Bd := by
  unfold Bd
  decide +kernel
theorem one_le_A : 1 ≤ 8 * M0 := by decide +kernel
/-- a small table: what normal_of asks -/
theorem normal_ask {r c : Nat} {ns : List Int} (hl : ns.length = r * c) (hc : c ≤ 8) (hB : ∀ z ∈ ns, z.natAbs ≤ B0) :
    (∀ q ∈ splitR r c ns, q.length = c) ∧ (∀ q ∈ splitR r c ns, Le B0 q) ∧ ∀ n, n ≤ (splitR r c ns).length → ∀ q ∈ normalF ((splitR r c ns).take n), Le (8 * M0) q := by
  have hrows := splitR_rows hl
  have hle : ∀ q ∈ splitR r c ns, Le B0 q := fun q hq => Le.of_mem fun z hz => hB z ((hrows q hq).2 z hz)
  exact ⟨fun q hq => (hrows q hq).1, hle, fun n hn q hq => way_cells (fun q hq => (hrows q hq).1) hc (by decide) hle hn q hq⟩
theorem small_iff {r c : Int} : Ra64.small r c = true ↔ (1 ≤ r ∧ r ≤ 8) ∧ (1 ≤ c ∧ c ≤ 8) := by
  unfold Ra64.small Ra64.within
  simp only [Bool.and_eq_true, decide_eq_true_eq]
end WD

set_option Elab.async false
set_option linter.all false
set_option maxRecDepth 100000
namespace WD
open PySem L2 WT PySem.Spec PyProof.Rows
/-! any(xs) of a list of numbers -/
theorem any_rangeI : ∀ l : List Int, (List.range l.length).any (fun i => l.getD i 0 != 0) = l.any fun x => x != 0
  | [] => rfl
  | b :: l => by
    rw [List.length_cons, List.range_succ_eq_map, List.any_cons, List.any_map, List.any_cons, ← any_rangeI l]
    all_goals rfl
section
variable {X : Cx}
def rAnyI (K : PySem.W.Frag) : List V → Hp → VK → Prop := fun vs H Q => ∃ (a : Addr) (l : List Int), vs = [V.ref a] ∧ SqL K H a (l.map V.int) ∧ Q (.bl (l.any fun x => x != 0)) H
theorem truth_intsI {prog : Program} {w : World} {A : Around} {l : List Int} {its : List Value} (r : Vals (l.map V.int) its) :
    TruthOf prog w A (fun i v => its.toArray[i]? = some v) (fun i => l.getD i 0 != 0) := fun i v s Q E hv hq => by
  have hv' : its[i]? = some v := by simpa using hv
  have hi : i < l.length := by
    have h1 := (List.getElem?_eq_some_iff.mp hv').1
    have h2 := r.length
    rw [List.length_map] at h2; omega
  obtain ⟨u, hu, ru⟩ := r.get (i := i) (x := V.int (l.getD i 0)) (by rw [List.getElem?_map, List.getElem?_eq_getElem hi, List.getD_eq_getElem?_getD, List.getElem?_eq_getElem hi]; rfl)
  rw [hv'] at hu
  obtain rfl := Option.some.inj hu
  obtain ⟨t, rfl⟩ := ru
  exact PySem.P.truthy_int hq
theorem cr_anyI (hc : X.calm = true) : CallR X (.builtin "any") (rAnyI X.K) := by
  intro pins s σ H vs us Q I r h
  obtain ⟨a, l, rfl, hs, q⟩ := h
  obtain ⟨its, rv, hl, _⟩ := I.list hs
  rw [Vals.ref1 r]
  refine call_any_walk (iter_any hl.isList fun s₂ e2 st hne => ?_)
  subst e2
  refine ⟨_, _, _, _, _, _, _, rfl, Walks.list (A := X.A.in1) (I.ok.hd hc) _ a hne its.toArray, st, truth_intsI rv, fun h' tk hk => ?_⟩
  refine ⟨.bl _, H, I.kept fun b o eo => hk b o (fun hmem => ?_) (Heap.get?_push_of_some _ eo), ?_, q⟩
  · rcases List.mem_cons.mp hmem with e1 | hmem
    · exact absurd (e1 ▸ Heap.lt_size eo) (Nat.lt_irrefl _)
    · cases hmem
  · show Value.bool _ = Value.bool _
    have e := rv.length
    rw [List.length_map] at e
    rw [← any_rangeI, List.size_toArray, e]
end
theorem any_zero {l : List Int} : (l.any fun x => x != 0) = false ↔ ∀ j, vec l j = 0 := by
  rw [List.any_eq_false]
  constructor
  · intro h j
    by_cases q : j < l.length
    · rw [vec_in q]
      have := h _ (List.getElem_mem q)
      simpa using this
    · exact vec_out (by omega)
  · intro h x hx
    obtain ⟨i, hi, rfl⟩ := List.mem_iff_getElem.mp hx
    have := h i
    rw [vec_in hi] at this
    simpa using this
end WD

set_option Elab.async false
set_option linter.all false
set_option maxRecDepth 100000
namespace WD
open PySem L2 WT
theorem lc_enum {K : PySem.W.Frag} {a : Addr} {xs : List V} {g : TG} {tt : TT} {te : TE} {vs : List Nat} {σ : St} {H1 : Hp} {D : Addr} {Qd : Hp → Prop} (Pv : Nat → Hp → Prop) (h0 : Pv 0 (upd H1 D (.lst []))) (hl : ∀ i H, i ≤ xs.length → Pv i H → SqL K H a xs)
    (hs : ∀ i x H T, xs[i]? = some x → Pv i H → H T = none → g (.ref T) (wipe σ vs) (upd H T (.tup [.int (i : Nat), x])) fun σ2 H2 => wipe σ2 vs = wipe σ vs ∧ tt σ2 H2 fun b H3 =>
      if b = true then te σ2 H3 fun y H4 => ∃ acc, H4 D = some (.lst acc) ∧ acc.length < sizeLine ∧ Pv (i + 1) (upd H4 D (.lst (acc ++ [y]))) else Pv (i + 1) H3) (hd : ∀ H, Pv xs.length H → Qd H) :
    ∃ W : Nat → Nat → Hp → Prop, (∃ m, W 0 m (upd H1 D (.lst []))) ∧ ∀ i m H, W i m H →
      ((Ite K a).stop i H ∧ Qd H) ∨ ((Ite K a).go i H ∧ ∃ Nx : Hp → Prop, (∀ H', Nx H' → ∃ m', m' < m ∧ W (i + 1) m' H') ∧ ∀ x H', (Ite K a).yld i H x H' → g x (wipe σ vs) H' fun σ2 H2 => wipe σ2 vs = wipe σ vs ∧ tt σ2 H2 fun b H3 =>
        if b = true then te σ2 H3 fun y H4 => ∃ acc, H4 D = some (.lst acc) ∧ acc.length < sizeLine ∧ Nx (upd H4 D (.lst (acc ++ [y]))) else Nx H3) := by
  refine ⟨fun i m H => m = xs.length - i ∧ i ≤ xs.length ∧ Pv i H, ⟨xs.length, by simp, Nat.zero_le _, h0⟩, ?_⟩
  rintro i m H ⟨rfl, hi, p⟩
  have q1 := hl i H hi p
  by_cases hlt : i < xs.length
  · refine .inr ⟨⟨xs, xs[i], q1, List.getElem?_eq_getElem hlt⟩, Pv (i + 1), fun H' p' => ⟨xs.length - (i + 1), by omega, rfl, hlt, p'⟩, fun v H' y => ?_⟩
    obtain ⟨T, x, rfl, hT, rfl, hx⟩ := y
    exact hs i x H T (hx xs q1) p hT
  · have e : i = xs.length := by omega
    subst e
    exact .inl ⟨⟨xs, q1, Nat.le_refl _⟩, hd H p⟩
def natI (L : List Nat) : List Int := L.map fun (n : Nat) => (n : Int)
theorem natI_len (L : List Nat) : (natI L).length = L.length := List.length_map _
theorem natI_get {L : List Nat} {i : Nat} : (natI L).getD i 0 = ((L.getD i 0 : Nat) : Int) := by
  unfold natI
  rw [List.getD_eq_getElem?_getD, List.getElem?_map, List.getD_eq_getElem?_getD]
  cases L[i]? <;> rfl
theorem mem_prodN : ∀ {L : List Nat}, (∀ d ∈ L, 0 < d) → ∀ z ∈ L, z ≤ prodN L
  | [], _, z, hz => absurd hz (by simp)
  | d :: l, h, z, hz => by
    have hp := prodN_pos fun x hx => h x (List.mem_cons_of_mem d hx)
    have hd := h d (List.mem_cons_self ..)
    rcases List.mem_cons.mp hz with rfl | hz
    · exact Nat.le_mul_of_pos_right _ hp
    · exact Nat.le_trans (mem_prodN (fun x hx => h x (List.mem_cons_of_mem d hx)) z hz) (Nat.le_mul_of_pos_left _ hd)
def spIsDg (K : PySem.W.Frag) : Sp := fun vs H Q _ => ∃ (a : Addr) (t : List (List Int)), vs = [.ref a] ∧ TabAt H a t ∧ ∀ (b : Bool) (H' : Hp), Same H H' → (b = true ↔ IsDg t) → Q (.bl b) H'
def spTurnO (K : PySem.W.Frag) : Sp := fun vs H Q _ => ∃ (a : Addr) (t : List (List Int)) (c : Nat), vs = [.ref a] ∧ TabAt H a t ∧ 1 ≤ t.length ∧ t.length ≤ 8 ∧ c ≤ 8 ∧ (∀ r ∈ t, r.length = c) ∧
  ∀ (p : Addr) (H' : Hp), Same H H' → TabAt H' p (turnO c t) → Q (.ref p) H'
def spGcd : Sp := fun vs H Q _ => ∃ a b : Nat, vs = [.int (a : Int), .int (b : Int)] ∧ Q (.int ((Nat.gcd a b : Nat) : Int)) H
def spInTurn (K : PySem.W.Frag) : Sp := fun vs H Q _ => ∃ (a : Addr) (L : List Nat), vs = [.ref a] ∧ H a = some (.lst ((natI L).map V.int)) ∧ (∀ z ∈ L, 0 < z) ∧ L.length ≤ 8 ∧ prodN L ≤ Bd ∧
  ∀ (p : Addr) (H' : Hp), Same H H' → H p = none → H' p = some (.lst ((natI (divF L)).map V.int)) → Q (.ref p) H'
theorem dg_row {t : List (List Int)} {i : Nat} : ((t.getD i []).drop (i + 1)).any (fun x => x != 0) = false ↔ ∀ x, i < x → MM 0 t i x = 0 := by
  rw [any_zero]
  have e : ∀ j, vec ((t.getD i []).drop (i + 1)) j = MM 0 t i (i + 1 + j) := fun j => by
    unfold vec MM
    rw [List.getD_eq_getElem?_getD, List.getElem?_drop, List.getD_eq_getElem?_getD (i := 0 + (i + 1 + j)), Nat.zero_add]
  constructor
  · intro h x hx
    have := h (x - (i + 1))
    rw [e, show i + 1 + (x - (i + 1)) = x by omega] at this
    exact this
  · intro h j
    rw [e]; exact h _ (by omega)
section
variable {P : Program} {w : World} {K : PySem.W.Frag} {mg : Str → Option Value} {base : Heap}
theorem scIsDg : FnScope ["stairs", "place", "row"] ["stairs"] (defScope d_is_diagonal) := ⟨rfl, rfl, rfl, by decide +kernel, rfl, by decide +kernel, by decide +kernel⟩
theorem ok_isDg {f : Addr} {fd : FuncData} (F : Fun K "is_diagonal" "is_diagonal" d_is_diagonal f fd) (T : Txt mg) : FnOk P w K mg base CX0 1 f fd ["stairs"] (spIsDg K) := by
  refine F.ok scIsDg (fun vs H Q E h => ?_) (fun cdv A outer s H vs Q E hr h => ?_)
  · obtain ⟨a, t, rfl, _⟩ := h
    rfl
  · obtain ⟨a, t, rfl, ⟨as, hS, hR⟩, k⟩ := h
    refine ⟨_, pss_cons (ps_for PassesOwn.never rfl (pi_enum rfl T.enum (pa_cons (pv 0) pa_nil)) (pg_tup rfl (pgs_cons (pg_name (i := 1) scIsDg.nd rfl (Or.inl rfl)) (pgs_cons (pg_name (i := 2) scIsDg.nd rfl (Or.inl rfl)) pgs_nil)))
      (pss_one (ps_if (pt_val (pe_callB (cr_anyI rfl) (by rfl) T.any PyProof.Rows.boot_any (pa_cons (pe_slice (r := rSlL K) sl_list (pv 2) (po_some (pe_op op_add (pv 1) pe_int)) po_none) pa_nil))) (pss_one (ps_ret pe_bl)) pss_nil)))
      (pss_one (ps_ret pe_bl)), ?_⟩
    refine ⟨_, rfl, a, _, rfl, .of hS, fun i n σ H' => n = t.length - i ∧ i ≤ t.length ∧ Same H H' ∧ (∃ v1 v2, σ = [some (.ref a), v1, v2]) ∧ ∀ j, j < i → ∀ x, j < x → MM 0 t j x = 0,
      ⟨_, rfl, Nat.zero_le _, Same.refl H, ⟨_, _, rfl⟩, fun j hj => absurd hj (by omega)⟩, ?_⟩
    rintro i n σ H' ⟨rfl, hi, sm, ⟨v1, v2, rfl⟩, hz⟩
    by_cases hlt : i < t.length
    · right
      have hia : i < as.length := by rw [hR.len]; exact hlt
      have ei : (as.map V.ref)[i]? = some (V.ref as[i]) := by rw [List.getElem?_map, List.getElem?_eq_getElem hia]; rfl
      refine ⟨⟨_, _, .of (sm _ _ hS), ei⟩, fun σ' H'' => Same H H'' ∧ (∃ v1 v2, σ' = [some (.ref a), v1, v2]) ∧ ∀ j, j < i + 1 → ∀ x, j < x → MM 0 t j x = 0, fun σ' H'' ⟨q1, q2, q3⟩ => ⟨t.length - (i + 1), by omega, rfl, by omega, q1, q2, q3⟩, ?_⟩
      rintro x H'' ⟨Tp, y, rfl, hT, rfl, hy⟩
      have ey := hy _ (.of (sm _ _ hS))
      rw [ei] at ey
      have ey' := Option.some.inj ey
      subst ey'
      have sm2 : Same H (upd H' Tp (.tup [.int (i : Nat), V.ref as[i]])) := sm.trans (same_upd hT)
      have hrow := sm2 _ _ (hR.row i as[i] (List.getElem?_eq_getElem hia))
      refine ⟨Tp, _, rfl, SqT.of upd_same, rfl, _, _, rfl, _, _, rfl, rfl, ?_⟩
      refine ⟨_, rfl, _, rfl, _, _, rfl, rfl, _, rfl, as[i], _, rfl, .of hrow, fun p hp => ?_⟩
      have ec : cutV ((t.getD i []).map V.int) (some ((i : Int) + 1)) none = ((t.getD i []).drop (i + 1)).map V.int := by
        have := cut_hi (xs := (t.getD i []).map V.int) (i + 1)
        rw [List.map_drop]; exact this
      refine ⟨p, (t.getD i []).drop (i + 1), rfl, .of (by rw [upd_same]; exact congrArg (fun z => some (HO.lst z)) ec), _, rfl, ite2 (fun h => ?_) (fun h => ?_)⟩
      · refine k false _ (sm2.trans (same_upd hp)) ⟨fun z => absurd z (by simp), fun hd => ?_⟩
        rw [dg_row.mpr (hd i hlt)] at h
        exact absurd h (by simp)
      · refine ⟨sm2.trans (same_upd hp), ⟨_, _, rfl⟩, fun j hj => ?_⟩
        by_cases q : j < i
        · exact hz j q
        · have : j = i := by omega
          subst this
          exact dg_row.mp (by simpa using h)
    · left
      have ei : i = t.length := by omega
      subst ei
      exact ⟨⟨_, .of (sm _ _ hS), by rw [List.length_map, hR.len]; exact Nat.le_refl _⟩, k true _ sm ⟨fun _ => hz, fun _ => rfl⟩⟩
theorem scTurnO : FnScope ["rows", "place"] ["rows"] (defScope d_turn_over) := ⟨rfl, rfl, rfl, by decide +kernel, rfl, by decide +kernel, by decide +kernel⟩
theorem ok_turnO {f fC : Addr} {fd fdC : FuncData} (F : Fun K "turn_over" "turn_over" d_turn_over f fd) (T : Txt mg) (FC : Fun K "column_at" "column_at" d_column_at fC fdC) (bC : Binds K fdC ["rows", "place"] []) (mC : mg "column_at" = some (.ref fC)) : FnOk P w K mg base CX0 2 f fd ["rows"] (spTurnO K) := by
  have GC : FnOk P w K mg base CX0 1 fC fdC ["rows", "place"] (spCol K) := ok_col FC
  refine F.ok scTurnO (fun vs H Q E h => ?_) (fun cdv A outer s H vs Q E hr h => ?_)
  · obtain ⟨a, t, c, rfl, _⟩ := h
    rfl
  · obtain ⟨a, t, c, rfl, hT, h1, h8, hc8, hl, k⟩ := h
    obtain ⟨as, hS, hR⟩ := hT.ex
    refine ⟨_, pss_one (ps_ret (pe_lc (own := [("place", 1)]) rfl scTurnO.nd (pi_range1 rfl T.range (pa_cons (pe_callB call_len_seq (by rfl) T.len PySem.boot_len (pa_cons (pe_ix (r := rIxL K) ix_list (pv 0) pe_int (fun _ _ => rfl)) pa_nil)) pa_nil)) (blkOk_by (show blkC ["rows", "place"] (defScope d_turn_over) _ [("place", 1)] = true from by decide +kernel))
      (fun s H C cl fp => pg_name (i := 1) scTurnO.nd rfl (Or.inl rfl)) (fun s H C cl fp => pts_nil)
      (fun s H C cl fp => pe_call (k := 1) GC hr rfl mC FC.kp bC .nil pass0 (pa_cons (pv 0) (pa_cons (pv 1) pa_nil))))), ?_⟩
    have h0a : 0 < as.length := by rw [hR.len]; omega
    have e0 : as[0]? = some as[0] := List.getElem?_eq_getElem h0a
    have hl0 : (t.getD 0 []).length = c := hl _ (mem_getD (by omega))
    refine ⟨_, rfl, a, _, _, V.ref as[0], rfl, rfl, .of hS, at_of (j := 0) rfl (by rw [List.getElem?_map, e0]; rfl), as[0], _, rfl, .inl (.of (hR.row 0 _ e0)), _, rfl, by rw [List.length_map]; omega, by rw [List.length_map]; omega, fun D hD => ?_⟩
    have en : ((((t.getD 0 []).map V.int).length : Nat) : Int).toNat = c := by rw [List.length_map, Int.toNat_natCast]; exact hl0
    rw [en]
    refine lc_range (lo := 0) (n := c) (fun i H' => Grow H H' D ((turnO c t).take i)) (Grow.start hD) ?_ ?_
    · rintro i H' hi g
      refine ⟨rfl, _, rfl, _, rfl, a, t, i, by rw [show (0 : Int) + (i : Int) = (i : Int) by omega]; rfl, hT.same g.same, by omega, fun r hr => by rw [hl r hr]; exact hi, fun p H2 s2 hp hpl => ?_⟩
      obtain ⟨_, g1, _⟩ := g.ex
      have hpD : p ≠ D := (ne_of_none g1 hp).symm
      have e2 : (turnO c t).getD i [] = colAt t i := by
        unfold turnO
        rw [List.getD_eq_getElem?_getD, List.getElem?_map, List.getElem?_range hi]; rfl
      obtain ⟨acc, q1, q2, q3⟩ := (g.more s2).push (r := (turnO c t).getD i []) hD hpD (by rw [e2]; exact hpl)
      refine ⟨acc, q1, ?_, ?_⟩
      · rw [q2, List.length_take]
        exact Nat.lt_of_le_of_lt (Nat.min_le_left _ _) (Nat.lt_of_lt_of_le (show i < 17 by omega) (by decide))
      · rw [take_snoc (by rw [turnO_len]; exact hi)]; exact q3
    · rintro H' g
      rw [List.take_of_length_le (by rw [turnO_len]; exact Nat.le_refl _)] at g
      exact k D H' g.same g.tab
theorem scGcd : FnScope ["one", "other", "greater", "lesser", "left"] ["one", "other"] (defScope d_common_divisor) := ⟨rfl, rfl, rfl, by decide +kernel, rfl, by decide +kernel, by decide +kernel⟩
theorem ok_gcd {f : Addr} {fd : FuncData} (F : Fun K "common_divisor" "common_divisor" d_common_divisor f fd) : FnOk P w K mg base CX0 1 f fd ["one", "other"] spGcd := by
  refine F.ok scGcd (fun vs H Q E h => ?_) (fun cdv A outer s H vs Q E hr h => ?_)
  · obtain ⟨a, b, rfl, _⟩ := h
    rfl
  · obtain ⟨a, b, rfl, k⟩ := h
    refine ⟨_, pss_cons (ps_set (i := 2) scGcd.nd rfl (Or.inl rfl) (pv 0)) (pss_cons (ps_set (i := 3) scGcd.nd rfl (Or.inl rfl) (pv 1))
      (pss_cons (ps_while PassesOwn.never (pt_cmp (pc_neI (pv 3) pe_int))
        (pss_cons (ps_set (i := 4) scGcd.nd rfl (Or.inl rfl) (pe_op op_mod (pv 2) (pv 3))) (pss_cons (ps_set (i := 2) scGcd.nd rfl (Or.inl rfl) (pv 3)) (pss_one (ps_set (i := 3) scGcd.nd rfl (Or.inl rfl) (pv 4))))))
      (pss_one (ps_ret (pv 2))))), ?_⟩
    refine ⟨_, rfl, _, rfl, ?_⟩
    refine ⟨fun μ σ H' => ∃ (g l : Nat) (v4 : Option V), σ = [some (.int (a : Int)), some (.int (b : Int)), some (.int (g : Int)), some (.int (l : Int)), v4] ∧ μ = l ∧ H' = H ∧ Nat.gcd g l = Nat.gcd a b, ⟨_, a, b, none, rfl, rfl, rfl, rfl⟩, ?_⟩
    rintro μ σ H' ⟨g, l, v4, rfl, rfl, rfl, he⟩
    refine ⟨_, rfl, _, _, rfl, rfl, _, rfl, ite2 (fun h => ?_) (fun h => ?_)⟩
    · have hl : 0 < μ := by
        have h' : (!decide ((μ : Int) = 0)) = true := h
        have : ¬ (μ : Int) = 0 := by simpa using h'
        omega
      refine ⟨fun σ' H'' => ∃ (g l : Nat) (v4 : Option V), σ' = [some (.int (a : Int)), some (.int (b : Int)), some (.int (g : Int)), some (.int (l : Int)), v4] ∧ l < μ ∧ H'' = H' ∧ Nat.gcd g l = Nat.gcd a b, fun σ' H'' ⟨g, l, v4, e1, e2, e3, e4⟩ => ⟨_, e2, g, l, v4, e1, rfl, e3, e4⟩, ?_⟩
      refine ⟨_, rfl, _, rfl, _, _, rfl, rfl, (by show (0 : Int) < (μ : Int); omega), _, rfl, _, rfl, μ, g % μ, _, rfl, Nat.mod_lt _ hl, rfl, ?_⟩
      rw [← he, Nat.gcd_comm g μ, Nat.gcd_rec μ g, Nat.gcd_comm]
    · have hl : μ = 0 := by
        have h' : ¬ (!decide ((μ : Int) = 0)) = true := h
        have : (μ : Int) = 0 := by simpa using h'
        omega
      subst hl
      rw [Nat.gcd_zero_right] at he
      refine ⟨_, rfl, ?_⟩
      rw [he]; exact k
end
end WD

set_option Elab.async false
set_option linter.all false
set_option maxRecDepth 100000
namespace WD
open PySem L2 WT
theorem natI_snoc (L : List Nat) (n : Nat) : natI (L ++ [n]) = natI L ++ [(n : Int)] := by unfold natI; rw [List.map_append]; rfl
theorem cut_tailN {l : List Int} : cutV (l.map V.int) (some (1 : Int)) none = (l.drop 1).map V.int := by
  have := cut_hi (xs := l.map V.int) 1
  rw [List.map_drop]
  exact this
theorem ne_upd {H : Hp} {a D : Addr} {o u : HO} (h : H a = some u) (e : a ≠ D) : (upd H D o) a = some u := by rw [upd_ne e]; exact h
section
variable {P : Program} {w : World} {K : PySem.W.Frag} {mg : Str → Option Value} {base : Heap}
abbrev NIt : List Str := ["numbers", "chain", "rest", "first", "multiples", "number", "common"]
theorem scInTurn : FnScope NIt ["numbers"] (defScope d_divide_in_turn) := ⟨rfl, rfl, rfl, by decide +kernel, rfl, by decide +kernel, by decide +kernel⟩
theorem ok_inTurn {f fG : Addr} {fd fdG : FuncData} (F : Fun K "divide_in_turn" "divide_in_turn" d_divide_in_turn f fd) (T : Txt mg)
    (FG : Fun K "common_divisor" "common_divisor" d_common_divisor fG fdG) (bG : Binds K fdG ["one", "other"] []) (mG : mg "common_divisor" = some (.ref fG)) : FnOk P w K mg base CX0 2 f fd ["numbers"] (spInTurn K) := by
  have GG : FnOk P w K mg base CX0 1 fG fdG ["one", "other"] spGcd := ok_gcd FG
  refine F.ok scInTurn (fun vs H Q E h => ?_) (fun cdv A outer s H vs Q E hr h => ?_)
  · obtain ⟨a, L, rfl, _⟩ := h
    rfl
  · obtain ⟨a, L, rfl, ha, hpos, hL8, hbd, k⟩ := h
    refine ⟨_, pss_cons (ps_set (i := 1) scInTurn.nd rfl (Or.inl rfl) (pe_lst pa_nil)) (pss_cons (ps_set (i := 2) scInTurn.nd rfl (Or.inl rfl) (pv 0))
      (pss_cons (ps_while PassesOwn.never (pt_cmp (pc_gt (pe_callB call_len_seq (by rfl) T.len PySem.boot_len (pa_cons (pv 2) pa_nil)) pe_int))
        (pss_cons (ps_set (i := 3) scInTurn.nd rfl (Or.inl rfl) (pe_ix (r := rIxL K) ix_list (pv 2) pe_int (fun _ _ => rfl)))
        (pss_cons (ps_set (i := 4) scInTurn.nd rfl (Or.inl rfl) (pe_lst pa_nil))
        (pss_cons (ps_for PassesOwn.never rfl (pi_list (pe_slice (r := rSlL K) sl_list (pv 2) (po_some pe_int) po_none)) (pg_name (i := 5) scInTurn.nd rfl (Or.inl rfl))
          (pss_cons (ps_set (i := 6) scInTurn.nd rfl (Or.inl rfl) (pe_call GG hr rfl mG FG.kp bG .nil pass0 (pa_cons (pv 3) (pa_cons (pv 5) pa_nil))))
          (pss_cons (ps_expr (pe_bm PySem.F.plainAttrs_list PySem.F.slot_list_append PySem.F.type_list_append mt_append (pv 4) (pa_cons (pe_op op_mulB (pe_op op_fdivB (pv 3) (pv 6)) (pv 5)) pa_nil)))
          (pss_one (ps_set (i := 3) scInTurn.nd rfl (Or.inl rfl) (pv 6))))))
        (pss_cons (ps_expr (pe_bm PySem.F.plainAttrs_list PySem.F.slot_list_append PySem.F.type_list_append mt_append (pv 1) (pa_cons (pv 3) pa_nil)))
        (pss_one (ps_set (i := 2) scInTurn.nd rfl (Or.inl rfl) (pv 4))))))))
      (pss_one (ps_ret (pv 1))))), ?_⟩
    refine ⟨by show 0 ≤ sizeLine; exact Nat.zero_le _, fun D hD => ⟨_, rfl, ?_⟩⟩
    have haD : a ≠ D := ne_of_none ha hD
    refine ⟨fun μ σ H' => ∃ (q : Addr) (R ch : List Nat) (v3 v4 v5 v6 : Option V), σ = [some (.ref a), some (.ref D), some (.ref q), v3, v4, v5, v6] ∧ μ = R.length ∧ Same H H' ∧ q ≠ D ∧ H' D = some (.lst ((natI ch).map V.int)) ∧ H' q = some (.lst ((natI R).map V.int)) ∧ (∀ z ∈ R, 0 < z) ∧ prodN R ≤ Bd ∧ ch.length + R.length ≤ 8 ∧ ch ++ divF R = divF L,
      ⟨_, a, L, [], none, none, none, none, rfl, rfl, same_upd hD, haD, upd_same, ne_upd ha haD, hpos, hbd, by simpa using hL8, rfl⟩, ?_⟩
    rintro μ σ H' ⟨q, R, ch, v3, v4, v5, v6, rfl, rfl, sm, hqD, hDl, hq, hRp, hRb, hlen, he⟩
    refine ⟨_, rfl, q, _, rfl, .inl (.of hq), _, _, rfl, rfl, _, rfl, ite2 (fun h => ?_) (fun h => ?_)⟩
    · -- a turn
      obtain ⟨a0, l, rfl⟩ : ∃ a0 l, R = a0 :: l := by
        cases R with
        | nil =>
          have := of_decide_eq_true h
          simp [natI] at this
        | cons a0 l => exact ⟨a0, l, rfl⟩
      have ha0 := hRp a0 (List.mem_cons_self ..)
      have hlp : ∀ z ∈ l, 0 < z := fun z hz => hRp z (List.mem_cons_of_mem _ hz)
      have hle := mem_prodN hRp
      refine ⟨fun σ' H'' => ∃ (q : Addr) (R' ch : List Nat) (v3 v4 v5 v6 : Option V), σ' = [some (.ref a), some (.ref D), some (.ref q), v3, v4, v5, v6] ∧ R'.length < (a0 :: l).length ∧ Same H H'' ∧ q ≠ D ∧ H'' D = some (.lst ((natI ch).map V.int)) ∧ H'' q = some (.lst ((natI R').map V.int)) ∧ (∀ z ∈ R', 0 < z) ∧ prodN R' ≤ Bd ∧ ch.length + R'.length ≤ 8 ∧ ch ++ divF R' = divF L,
        fun σ' H'' ⟨q, R', ch, v3, v4, v5, v6, e1, e2, e3, e4, e5, e6, e7, e8, e9, e10⟩ => ⟨_, e2, q, R', ch, v3, v4, v5, v6, e1, rfl, e3, e4, e5, e6, e7, e8, e9, e10⟩, ?_⟩
      -- first = rest[0]; multiples = []
      refine ⟨_, rfl, q, _, _, V.int (a0 : Int), rfl, rfl, .of hq, at_int (l := natI (a0 :: l)) (j := 0) rfl (by rw [natI_len]; simp), by show 0 ≤ sizeLine; exact Nat.zero_le _, fun Mm hM => ?_⟩
      have hMD : D ≠ Mm := ne_of_none hDl hM
      have hMq : q ≠ Mm := ne_of_none hq hM
      -- rest[1:]
      refine ⟨_, rfl, _, rfl, q, _, rfl, .of (ne_upd hq hMq), fun sl hsl => ⟨sl, rfl, ⟨_, .of upd_same⟩, ?_⟩⟩
      have hslM : Mm ≠ sl := ne_of_none upd_same hsl
      have hsl' : H' sl = none := by rw [upd_ne (Ne.symm hslM)] at hsl; exact hsl
      have hslD : D ≠ sl := ne_of_none hDl hsl'
      have ecut : cutV ((natI (a0 :: l)).map V.int) (some (1 : Int)) none = (natI l).map V.int := cut_tailN
      refine for_list (a := sl) (xs := (natI l).map V.int) (fun i σ H2 => ∃ (fi : Nat) (dn : List Nat) (v5 v6 : Option V), σ = [some (.ref a), some (.ref D), some (.ref q), some (.int (fi : Int)), some (.ref Mm), v5, v6] ∧ Same H H2 ∧ H2 D = some (.lst ((natI ch).map V.int)) ∧ H2 sl = some (.lst ((natI l).map V.int)) ∧ H2 Mm = some (.lst ((natI dn).map V.int)) ∧ dn.length = i ∧ 0 < fi ∧ fi ≤ Bd ∧ inner a0 l = ((inner fi (l.drop i)).1, dn ++ (inner fi (l.drop i)).2))
        ⟨a0, [], _, _, rfl, ?_, ?_, ?_, ?_, rfl, ha0, Nat.le_trans (hle a0 (List.mem_cons_self ..)) hRb, rfl⟩ (fun i σ H2 _ ⟨_, _, _, _, _, _, _, z, _⟩ => .of z) ?_ ?_
      · exact (sm.trans (same_upd hM)).trans (same_upd hsl)
      · rw [upd_ne hslD, upd_ne hMD]; exact hDl
      · rw [upd_same, ecut]
      · rw [upd_ne hslM, upd_same]; rfl
      · -- a number
        rintro i v σ H2 hv ⟨fi, dn, w5, w6, rfl, sm2, hD2, hs2, hM2, hdn, hf0, hfB, hin⟩
        rw [List.getElem?_map] at hv
        obtain ⟨zv, hzv, rfl⟩ := Option.map_eq_some_iff.mp hv
        have hil : i < l.length := by
          have := (List.getElem?_eq_some_iff.mp hzv).1
          rwa [natI_len] at this
        have ez : zv = ((l[i] : Nat) : Int) := by
          unfold natI at hzv
          rw [List.getElem?_map, List.getElem?_eq_getElem hil] at hzv
          exact (Option.some.inj hzv).symm
        subst ez
        have hnm : l[i] ∈ l := List.getElem_mem hil
        have hnB : l[i] ≤ Bd := Nat.le_trans (hle _ (List.mem_cons_of_mem _ hnm)) hRb
        have hg0 : 0 < Nat.gcd fi l[i] := Nat.gcd_pos_of_pos_left _ hf0
        have hgf : Nat.gcd fi l[i] ≤ fi := Nat.le_of_dvd hf0 (Nat.gcd_dvd_left _ _)
        refine ⟨_, rfl, _, rfl, fi, l[i], rfl, ?_⟩
        refine ⟨_, rfl, .inl ⟨rfl, _, .of hM2⟩, _, rfl, _, rfl, _, _, rfl, rfl, ⟨by omega, by rw [Int.natAbs_natCast]; omega⟩, _, rfl, _, _, rfl, rfl, mul_ok ?_ (by rw [Int.natAbs_natCast]; exact hnB), Mm, _, _, rfl, rfl, hM2, ?_, ?_⟩
        · exact Nat.le_trans (Int.natAbs_fdiv_le_natAbs _ _) (by rw [Int.natAbs_natCast]; exact hfB)
        · rw [List.length_map, natI_len, hdn]
          rw [List.length_cons] at hlen
          exact Nat.lt_of_lt_of_le (show i < 17 by omega) (by decide)
        refine ⟨_, rfl, Nat.gcd fi l[i], dn ++ [fi / Nat.gcd fi l[i] * l[i]], _, _, rfl, same_upd2 sm2 ?_, ?_, ?_, ?_, by rw [List.length_append, hdn]; rfl, hg0, by omega, ?_⟩
        · exact sm.free hM
        · rw [upd_ne hMD]; exact hD2
        · rw [upd_ne (Ne.symm hslM)]; exact hs2
        · rw [upd_same, natI_snoc, List.map_append]
          have e1 : Int.fdiv ((fi : Nat) : Int) ((Nat.gcd fi l[i] : Nat) : Int) * ((l[i] : Nat) : Int) = ((fi / Nat.gcd fi l[i] * l[i] : Nat) : Int) := by
            rw [Int.fdiv_eq_ediv_of_nonneg _ (Int.natCast_nonneg _), Int.natCast_mul, Int.natCast_ediv]
          show some (HO.lst (List.map V.int (natI dn) ++ [V.int (Int.fdiv ((fi : Nat) : Int) ((Nat.gcd fi l[i] : Nat) : Int) * ((l[i] : Nat) : Int))])) = _
          rw [e1]; rfl
        · rw [hin]
          have e : l.drop i = l[i] :: l.drop (i + 1) := List.drop_eq_getElem_cons hil
          rw [e, inner, List.append_assoc]; rfl
      · -- chain.append(first); rest = multiples
        rintro σ H2 ⟨fi, dn, w5, w6, rfl, sm2, hD2, hs2, hM2, hdn, hf0, hfB, hin⟩
        have hend : l.drop ((natI l).map V.int).length = [] := List.drop_of_length_le (by rw [List.length_map, natI_len]; exact Nat.le_refl _)
        rw [hend, inner, List.append_nil] at hin
        have e1 : (inner a0 l).1 = fi := by rw [hin]
        have e2 : (inner a0 l).2 = dn := by rw [hin]
        have hp := inner_prod l a0 ha0
        obtain ⟨p1, p2⟩ := inner_pos l a0 ha0 hlp
        rw [e1] at hp p1
        rw [e2] at hp p2
        have hdl : dn.length = l.length := by rw [← e2, inner_len]
        rw [List.length_cons] at hlen
        refine ⟨_, rfl, .inl ⟨rfl, _, .of hD2⟩, _, rfl, D, _, _, rfl, rfl, hD2, ?_, ?_⟩
        · rw [List.length_map, natI_len]
          exact Nat.lt_of_lt_of_le (show ch.length < 17 by omega) (by decide)
        refine ⟨_, rfl, Mm, dn, ch ++ [fi], _, _, _, _, rfl, by rw [List.length_cons]; omega, same_upd2 sm2 hD, Ne.symm hMD, ?_, by rw [upd_ne (Ne.symm hMD)]; exact hM2, p2, ?_, by rw [List.length_append, hdl]; simp; omega, ?_⟩
        · rw [upd_same, natI_snoc, List.map_append]; rfl
        · refine Nat.le_trans ?_ hRb
          show prodN dn ≤ a0 * prodN l
          rw [← hp]
          exact Nat.le_mul_of_pos_left _ hf0
        · rw [← he, divF_cons, e1, e2, List.append_assoc]; rfl
    · -- the end
      have hnil : R = [] := by
        have : ¬ (0 : Int) < (((natI R).map V.int).length : Nat) := fun z => h (decide_eq_true z)
        rw [List.length_map, natI_len] at this
        exact List.eq_nil_of_length_eq_zero (by omega)
      subst hnil
      rw [divF_nil, List.append_nil] at he
      refine ⟨_, rfl, k D H' sm hD ?_⟩
      rw [← he]; exact hDl
end
theorem prodN_le {B : Nat} : ∀ {L : List Nat}, (∀ z ∈ L, z ≤ B) → prodN L ≤ B ^ L.length
  | [], _ => Nat.le_refl _
  | d :: l, h => by
    rw [List.length_cons, Nat.pow_succ, Nat.mul_comm]
    exact Nat.mul_le_mul (h d (List.mem_cons_self ..)) (prodN_le fun z hz => h z (List.mem_cons_of_mem _ hz))
theorem big_d : (8 * M0) ^ 8 ≤ Bd := by
  unfold Bd
  decide +kernel
/-- what the last call asks of the diagonal -/
structure DgOk (m t : List (List Int)) (c : Nat) : Prop where
  len : t.length ≤ 8
  pos : ∀ z ∈ diagN t, 0 < z
  prod : prodN (diagN t) ≤ Bd
  cell : ∀ i, i < t.length → i < (t.getD i []).length ∧ (t.getD i []).getD i 0 = (((diagN t).getD i 0 : Nat) : Int)
  due : Ra64.divisorsOf m c = divF (diagN t)
theorem dgOk_nil {m : List (List Int)} {c : Nat} (hl : ∀ r ∈ m, r.length = c) (h : normalF m = []) : DgOk m [] c :=
  ⟨Nat.zero_le _, fun z hz => absurd hz (by simp [diagN]), by
    show 1 ≤ Bd
    exact Nat.pow_pos (by decide), fun i hi => absurd hi (by simp), by
    rw [divisors_none hl h]
    show [] = divF []
    rw [divF_nil]⟩
theorem dgOk_of {m t : List (List Int)} {c c' : Nat} (hl : ∀ r ∈ m, r.length = c) (h : DInv (Ra64.minorsGcd m c) M0 t c') (hd : IsDg t) : DgOk m t c := by
  have hf := diag_facts h.nrm h.len hd
  have hkc := nrm_len h.nrm h.len
  have hMM : ∀ i, MM 0 t i i = (t.getD i []).getD i 0 := fun i => by unfold MM; rw [Nat.zero_add]
  refine ⟨h.k8, diagN_pos h.nrm h.len hd, ?_, fun i hi => ⟨?_, ?_⟩, divisors_end hl h.nrm h.len hd h.isg⟩
  · have hle : ∀ z ∈ diagN t, z ≤ 8 * M0 := fun z hz => by
      obtain ⟨i, hi, rfl⟩ := List.mem_map.mp hz
      have hi' := List.mem_range.mp hi
      have h1 := h.cell _ (rw_mem hi') i
      rw [← MM_vec] at h1
      have h2 := (hf i hi').1
      omega
    refine Nat.le_trans (prodN_le hle) (Nat.le_trans ?_ big_d)
    rw [diagN_len]
    exact Nat.pow_le_pow_right one_le_A h.k8
  · rw [h.len _ (mem_getD hi)]; omega
  · rw [diagN_get hi, ← hMM]
    have := (hf i hi).1
    omega
theorem turnO_le {t : List (List Int)} {c A : Nat} (h : ∀ r ∈ t, ∀ x, (vec r x).natAbs ≤ A) : ∀ r ∈ turnO c t, Le A r := fun r hr y => by
  obtain ⟨j, _, rfl⟩ := List.mem_map.mp hr
  rw [vec_colAt, MM_vec]
  by_cases q : y < t.length
  · exact h _ (rw_mem q) j
  · unfold rw_
    rw [List.getD_eq_getElem?_getD, List.getElem?_eq_none (by omega)]
    exact Nat.zero_le _
def spDivsOf (K : PySem.W.Frag) : Sp := fun vs H Q _ => ∃ (a : Addr) (m : List (List Int)) (c : Nat), vs = [.ref a] ∧ TabAt H a m ∧ (∀ r ∈ m, r.length = c) ∧ 1 ≤ c ∧ c ≤ 8 ∧ m.length ≤ 8 ∧ (∀ r ∈ m, Le B0 r) ∧
  ∀ (p : Addr) (H' : Hp), Same H H' → H' p = some (.lst ((natI (Ra64.divisorsOf m c)).map V.int)) → Q (.ref p) H'
section
variable {P : Program} {w : World} {K : PySem.W.Frag} {mg : Str → Option Value} {base : Heap}
abbrev NDv : List Str := ["rows", "rest", "place", "row"]
theorem scDivsOf : FnScope NDv ["rows"] (defScope d_divisors_of) := ⟨rfl, rfl, rfl, by decide +kernel, rfl, by decide +kernel, by decide +kernel⟩
theorem ok_divsOf {f fN fI fT fD : Addr} {fd fdN fdI fdT fdD : FuncData} (F : Fun K "divisors_of" "divisors_of" d_divisors_of f fd) (T : Txt mg)
    (FN : Fun K "normal_of" "normal_of" d_normal_of fN fdN) (bN : Binds K fdN ["rows"] []) (mN : mg "normal_of" = some (.ref fN)) (GN : FnOk P w K mg base CX0 4 fN fdN ["rows"] (spNormal K))
    (FI : Fun K "is_diagonal" "is_diagonal" d_is_diagonal fI fdI) (bI : Binds K fdI ["stairs"] []) (mI : mg "is_diagonal" = some (.ref fI)) (GI : FnOk P w K mg base CX0 1 fI fdI ["stairs"] (spIsDg K))
    (FT : Fun K "turn_over" "turn_over" d_turn_over fT fdT) (bT : Binds K fdT ["rows"] []) (mT : mg "turn_over" = some (.ref fT)) (GT : FnOk P w K mg base CX0 2 fT fdT ["rows"] (spTurnO K))
    (FD : Fun K "divide_in_turn" "divide_in_turn" d_divide_in_turn fD fdD) (bD : Binds K fdD ["numbers"] []) (mD : mg "divide_in_turn" = some (.ref fD)) (GD : FnOk P w K mg base CX0 2 fD fdD ["numbers"] (spInTurn K)) : FnOk P w K mg base CX0 5 f fd ["rows"] (spDivsOf K) := by
  refine F.ok scDivsOf (fun vs H Q E h => ?_) (fun cdv A outer s H vs Q E hr h => ?_)
  · obtain ⟨a, m, c, rfl, _⟩ := h
    rfl
  · obtain ⟨a, m, c, rfl, hT, hl, hc1, hc8, hm8, hB, k⟩ := h
    refine ⟨_, pss_cons (ps_set (i := 1) scDivsOf.nd rfl (Or.inl rfl) (pe_call GN hr rfl mN FN.kp bN .nil pass0 (pa_cons (pv 0) pa_nil)))
      (pss_cons (ps_while PassesOwn.never (pt_not (pt_val (pe_call (k := 1) GI (hr.mono (by decide)) rfl mI FI.kp bI .nil pass0 (pa_cons (pv 1) pa_nil))))
        (pss_one (ps_set (i := 1) scDivsOf.nd rfl (Or.inl rfl) (pe_call GN hr rfl mN FN.kp bN .nil pass0 (pa_cons (pe_call (k := 2) GT (hr.mono (by decide)) rfl mT FT.kp bT .nil pass0 (pa_cons (pv 1) pa_nil)) pa_nil)))))
      (pss_one (ps_ret (pe_call (k := 2) GD (hr.mono (by decide)) rfl mD FD.kp bD .nil pass0 (pa_cons (pe_lc (g := gTup K 2 (gCons (gName 2) (gCons (gName 3) gNil))) (own := [("place", 2), ("row", 3)]) rfl scDivsOf.nd (pi_enum rfl T.enum (pa_cons (pv 1) pa_nil)) (blkOk_by (show blkC NDv (defScope d_divisors_of) _ [("place", 2), ("row", 3)] = true from by decide +kernel))
        (fun s H C cl fp => pg_tup rfl (pgs_cons (pg_name (i := 2) scDivsOf.nd rfl (Or.inl rfl)) (pgs_cons (pg_name (i := 3) scDivsOf.nd rfl (Or.inl rfl)) pgs_nil))) (fun s H C cl fp => pts_nil)
        (fun s H C cl fp => pe_ix (r := rIxL K) ix_list (pv 3) (pv 2) (fun _ _ => rfl))) pa_nil))))), ?_⟩
    refine ⟨_, rfl, a, m, c, 8 * M0, B0, rfl, hT, hl, hc1, hc8, hm8, one_le_A, by decide, hB, fun n hn q hq => way_cells hl hc8 (by decide) hB hn q hq, big_ok0, fun q0 H0 s0 hT0 => ?_⟩
    refine ⟨fun μ σ H' => ∃ (q : Addr) (t : List (List Int)) (v2 v3 : Option V), σ = [some (.ref a), some (.ref q), v2, v3] ∧ Same H H' ∧ TabAt H' q t ∧ ((t = [] ∧ normalF m = [] ∧ μ = 0) ∨ ∃ c', DInv (Ra64.minorsGcd m c) M0 t c' ∧ μ = mu t c'), ?_, ?_⟩
    · by_cases hn : normalF m = []
      · exact ⟨0, q0, normalF m, none, none, rfl, s0, hT0, .inl ⟨hn, hn, rfl⟩⟩
      · exact ⟨_, q0, normalF m, none, none, rfl, s0, hT0, .inr ⟨c, DInv.start hl hc8 (by decide) hB hn, rfl⟩⟩
    rintro μ σ H' ⟨q, t, v2, v3, rfl, sm, hTt, hcase⟩
    refine ⟨_, rfl, q, t, rfl, hTt, fun b H1 s1 hb => ⟨_, rfl, ite2 (fun h => ?_) (fun h => ?_)⟩⟩
    · have hnd : ¬ IsDg t := fun z => by
        rw [hb.mpr z] at h
        exact absurd h (by simp)
      rcases hcase with ⟨e1, _, _⟩ | ⟨c', hI, rfl⟩
      · subst e1
        exact absurd (fun i hi => absurd hi (by simp)) hnd
      · obtain ⟨n1, n2⟩ := hI.next
        refine ⟨fun σ' H'' => ∃ (q : Addr) (v2 v3 : Option V), σ' = [some (.ref a), some (.ref q), v2, v3] ∧ Same H H'' ∧ TabAt H'' q (normalF (turnO c' t)), fun σ' H'' ⟨q, v2, v3, e1, e2, e3⟩ => ⟨mu (normalF (turnO c' t)) t.length, mu_lt hI hnd, q, _, v2, v3, e1, e2, e3, .inr ⟨t.length, n1, rfl⟩⟩, ?_⟩
        refine ⟨_, rfl, q, t, c', rfl, hTt.same s1, hI.pos, hI.k8, hI.c8, hI.len, fun p H2 s2 hT2 => ?_⟩
        refine ⟨p, turnO c' t, t.length, 8 * M0, 8 * M0, rfl, hT2, turnO_rows, hI.pos, hI.k8, by rw [turnO_len]; exact hI.c8, one_le_A, one_le_A, turnO_le hI.cell, fun n hn r hr => hI.way (by rw [turnO_len] at hn; exact hn) r hr, big_ok, fun q3 H3 s3 hT3 => ?_⟩
        exact ⟨q3, _, _, rfl, ((sm.trans s1).trans s2).trans s3, hT3⟩
    · have hd : IsDg t := by
        cases b with
        | true => exact hb.mp rfl
        | false => exact absurd rfl h
      have hok : DgOk m t c := by
        rcases hcase with ⟨e1, e2, _⟩ | ⟨c', hI, _⟩
        · subst e1; exact dgOk_nil hl e2
        · exact dgOk_of hl hI hd
      obtain ⟨as, hS, hR⟩ := (hTt.same s1).ex
      have hln : (natI (diagN t)).length = t.length := by rw [natI_len, diagN_len]
      refine ⟨_, rfl, q, _, rfl, .of hS, fun D hD => ?_⟩
      refine lc_enum (a := q) (xs := as.map V.ref) (fun i H2 => Same H1 H2 ∧ H2 D = some (.lst (((natI (diagN t)).take i).map V.int))) ⟨same_upd hD, upd_same⟩ (fun i H2 _ ⟨z, _⟩ => .of (z _ _ hS)) ?_ ?_
      · rintro i x H2 Tp hx ⟨sm2, hDl⟩ hTp
        rw [List.getElem?_map] at hx
        obtain ⟨ra, hra, rfl⟩ := Option.map_eq_some_iff.mp hx
        have hi : i < t.length := by rw [← hR.len]; exact (List.getElem?_eq_some_iff.mp hra).1
        have hTD : D ≠ Tp := ne_of_none hDl hTp
        obtain ⟨c1, c2⟩ := hok.cell i hi
        refine ⟨Tp, _, rfl, SqT.of upd_same, rfl, _, _, rfl, _, _, rfl, rfl, rfl, ?_⟩
        refine ⟨_, rfl, _, rfl, ra, _, _, _, rfl, rfl, .of (same_upd hTp _ _ (sm2 _ _ (hR.row i ra hra))), at_int (j := i) rfl c1, ?_⟩
        refine ⟨_, by rw [upd_ne hTD]; exact hDl, ?_, same_upd2 (sm2.trans (same_upd hTp)) hD, ?_⟩
        · rw [List.length_map, List.length_take]
          have := hok.len
          exact Nat.lt_of_le_of_lt (Nat.min_le_left _ _) (Nat.lt_of_lt_of_le (show i < 17 by omega) (by decide))
        · rw [upd_same, takeI_snoc (by rw [hln]; exact hi), List.map_append, natI_get, ← c2]; rfl
      · rintro H2 ⟨sm2, hDl⟩
        rw [List.take_of_length_le (by rw [hln, List.length_map, hR.len]; exact Nat.le_refl _)] at hDl
        refine ⟨D, diagN t, rfl, hDl, hok.pos, by rw [diagN_len]; exact hok.len, hok.prod, fun p H3 s3 hp hpl => ?_⟩
        refine k p H3 (((sm.trans s1).trans sm2).trans s3) ?_
        rw [hok.due]; exact hpl
theorem divs_due {r c : Nat} {ns : List Int} (h1 : 1 ≤ r) (h8 : r ≤ 8) (c1 : 1 ≤ c) (c8 : c ≤ 8) (hl : ns.length = r * c) : PyRa64.divisors (r : Int) (c : Int) ns = ((Ra64.divisorsOf (splitR r c ns) c).length : Int) :: natI (Ra64.divisorsOf (splitR r c ns) c) := by
  have e : PyRa64.divisors (r : Int) (c : Int) ns = (Ra64.answer (.divisors (Ra64Neutral.rowsOf 16 (c : Int).toNat ns) r c)).value :: (Ra64.answer (.divisors (Ra64Neutral.rowsOf 16 (c : Int).toNat ns) r c)).out := rfl
  rw [e, Ra64.answer, if_pos (small_iff.mpr ⟨by omega, by omega⟩), Int.toNat_natCast, rowsOf_split 16 r c ns (by omega) c1 hl]; rfl
theorem divs_ref {r c : Int} {ns : List Int} (h : ¬ ((1 ≤ r ∧ r ≤ 8) ∧ (1 ≤ c ∧ c ≤ 8))) : PyRa64.divisors r c ns = [-2] := by
  have e : PyRa64.divisors r c ns = (Ra64.answer (.divisors (Ra64Neutral.rowsOf 16 c.toNat ns) r c)).value :: (Ra64.answer (.divisors (Ra64Neutral.rowsOf 16 c.toNat ns) r c)).out := rfl
  rw [e, Ra64.answer, if_neg (fun z => h (small_iff.mp z))]; rfl
def spDivs (K : PySem.W.Frag) : Sp := fun vs H Q _ => ∃ (r c : Int) (a : Addr) (ns : List Int), vs = [.int r, .int c, .ref a] ∧ SqL K H a (ns.map V.int) ∧ ((1 ≤ r ∧ r ≤ 8) ∧ (1 ≤ c ∧ c ≤ 8) → ns.length = r.toNat * c.toNat) ∧ (∀ z ∈ ns, z.natAbs ≤ B0) ∧
  ∀ (p : Addr) (H' : Hp), H' p = some (.lst ((PyRa64.divisors r c ns).map V.int)) → Q (.ref p) H'
abbrev NDs : List Str := ["rows", "columns", "table", "found"]
theorem scDivs : FnScope NDs ["rows", "columns", "table"] (defScope d_divisors) := ⟨rfl, rfl, rfl, by decide +kernel, rfl, by decide +kernel, by decide +kernel⟩
theorem divs_len {m : List (List Int)} {c : Nat} (hl : ∀ r ∈ m, r.length = c) : (Ra64.divisorsOf m c).length ≤ c := by
  unfold Ra64.divisorsOf
  dsimp only
  rw [List.length_map, List.length_range, normalF_eq hl]
  obtain ⟨n1, n2, _⟩ := normalF_spec hl
  exact nrm_len0 n1 n2
theorem ok_divs {f fN fS fW : Addr} {fd fdN fdS fdW : FuncData} {t1 t2 : Tok} (F : Fun K "divisors" "divisors" d_divisors f fd) (T : Txt mg) (m1 : mg "MOST_SMALL" = some (.int 8 t1)) (m2 : mg "REFUSED" = some (.int (-2) t2))
    (FW : Fun K "within" "within" d_within fW fdW) (bW : Binds K fdW ["size", "most"] []) (mW : mg "within" = some (.ref fW))
    (FN : Fun K "divisors_of" "divisors_of" d_divisors_of fN fdN) (bN : Binds K fdN ["rows"] []) (mN : mg "divisors_of" = some (.ref fN)) (GN : FnOk P w K mg base CX0 5 fN fdN ["rows"] (spDivsOf K))
    (FS : Fun K "split_rows" "split_rows" d_split_rows fS fdS) (bS : Binds K fdS ["rows", "columns", "table"] []) (mS : mg "split_rows" = some (.ref fS)) (GS : FnOk P w K mg base CX0 1 fS fdS ["rows", "columns", "table"] (spSplit K)) :
    FnOk P w K mg base CX0 6 f fd ["rows", "columns", "table"] (spDivs K) := by
  have GW : FnOk P w K mg base CX0 1 fW fdW ["size", "most"] spWithin := ok_within FW
  refine F.ok scDivs (fun vs H Q E h => ?_) (fun cdv A outer s H vs Q E hr h => ?_)
  · obtain ⟨r, c, a, ns, rfl, _⟩ := h
    rfl
  · obtain ⟨r, c, a, ns, rfl, hS, hl, hB, k⟩ := h
    refine ⟨_, pss_cons (ps_if (PW.pt (pw_or (pt_not (pt_val (pe_call (k := 1) GW (hr.mono (by decide)) rfl mW FW.kp bW .nil pass0 (pa_cons (pv 0) (pa_cons (pe_glob (v := V.int 8) (by rfl) m1 ⟨_, rfl⟩) pa_nil)))))
          (pw_or1 (pt_not (pt_val (pe_call (k := 1) GW (hr.mono (by decide)) rfl mW FW.kp bW .nil pass0 (pa_cons (pv 1) (pa_cons (pe_glob (v := V.int 8) (by rfl) m1 ⟨_, rfl⟩) pa_nil))))))))
        (pss_one (ps_ret (pe_lst (pa_cons (pe_glob (v := V.int (-2)) (by rfl) m2 ⟨_, rfl⟩) pa_nil)))) pss_nil)
      (pss_cons (ps_set (i := 3) scDivs.nd rfl (Or.inl rfl) (pe_call GN hr rfl mN FN.kp bN .nil pass0 (pa_cons (pe_call (k := 1) GS (hr.mono (by decide)) rfl mS FS.kp bS .nil pass0 (pa_cons (pv 0) (pa_cons (pv 1) (pa_cons (pv 2) pa_nil)))) pa_nil)))
      (pss_one (ps_ret (pe_op op_cat (pe_lst (pa_cons (pe_callB call_len_seq (by rfl) T.len PySem.boot_len (pa_cons (pv 3) pa_nil)) pa_nil)) (pv 3))))), ?_⟩
    have bad : ¬ ((1 ≤ r ∧ r ≤ 8) ∧ (1 ≤ c ∧ c ≤ 8)) → ∀ p, H p = none → Q (.ref p) (upd H p (.lst [.int (-2)])) := fun hb p hp => k p _ (by rw [upd_same, divs_ref hb]; rfl)
    refine ⟨_, rfl, r, 8, rfl, _, rfl, ite2 (fun h1 => iteT ?_) (fun h1 => ⟨_, rfl, c, 8, rfl, _, rfl, ite2 (fun h2 => ?_) (fun h2 => ?_)⟩)⟩
    · have hb : ¬ (1 ≤ r ∧ r ≤ 8) := by
        intro z
        simp [z.1, z.2] at h1
      exact ⟨by show 1 ≤ sizeLine; decide, fun p hp => bad (fun z => hb z.1) p hp⟩
    · have hb : ¬ (1 ≤ c ∧ c ≤ 8) := by
        intro z
        simp [z.1, z.2] at h2
      exact ⟨by show 1 ≤ sizeLine; decide, fun p hp => bad (fun z => hb z.2) p hp⟩
    · have hb1 : 1 ≤ r ∧ r ≤ 8 := by simpa using h1
      have hb2 : 1 ≤ c ∧ c ≤ 8 := by simpa using h2
      obtain ⟨R, rfl⟩ : ∃ R : Nat, r = (R : Int) := ⟨r.toNat, by omega⟩
      obtain ⟨C, rfl⟩ : ∃ C : Nat, c = (C : Int) := ⟨c.toNat, by omega⟩
      have hl' : ns.length = R * C := by have := hl ⟨hb1, hb2⟩; rwa [Int.toNat_natCast, Int.toNat_natCast] at this
      have due := divs_due (r := R) (c := C) (ns := ns) (by omega) (by omega) (by omega) (by omega) hl'
      obtain ⟨hrows, hle, _⟩ := normal_ask hl' (by omega) hB
      have hdl := divs_len hrows
      refine ⟨_, rfl, _, rfl, _, rfl, R, C, a, ns, rfl, hS, by omega, by omega, hl', fun p H1 s1 hT1 => ⟨p, splitR R C ns, C, rfl, hT1, hrows, by omega, by omega, by rw [splitR_len]; omega, hle, fun q H2 s2 hq => ?_⟩⟩
      generalize Ra64.divisorsOf (splitR R C ns) C = ds at *
      refine ⟨_, rfl, q, _, rfl, .inl (.of hq), by show 1 ≤ sizeLine; decide, fun p1 hp1 => ⟨_, rfl, p1, q, _, _, rfl, rfl, upd_same, same_upd hp1 _ _ hq, ?_, fun p2 hp2 => ?_⟩⟩
      · rw [List.length_map, natI_len]
        exact Nat.le_trans (show 1 + ds.length ≤ 17 by omega) (by decide)
      · refine k p2 _ ?_
        rw [upd_same, due, List.length_map, natI_len]; rfl
end
end WD

set_option Elab.async false
set_option linter.all false
set_option maxRecDepth 100000
namespace WD
open PySem PySem.W L2 WT WS PyProof.Rows
theorem said : PySem.Challenge.rw_wholetables_s04_divisors.wellSaid = true := by decide +kernel
theorem upTo_true {z n : Int} (h : 1 ≤ z ∧ z ≤ n) : Ra64Neutral.upTo z n = true := by
  unfold Ra64Neutral.upTo
  rw [Bool.and_eq_true, decide_eq_true_eq, decide_eq_true_eq]; exact h
theorem cells_len {l : List Int} {ok : Bool} {n : Int} {m : Nat} (h : Ra64Neutral.cells l ok n = true) (hok : ok = true) (e : n = (m : Int)) : l.length = m := by
  unfold Ra64Neutral.cells at h
  rw [decide_eq_true_eq, if_pos hok] at h
  omega
theorem mul_nat {a b : Int} (ha : 0 ≤ a) (hb : 0 ≤ b) : a * b = ((a.toNat * b.toNat : Nat) : Int) := by
  rw [Int.natCast_mul, Int.toNat_of_nonneg ha, Int.toNat_of_nonneg hb]
theorem small_all {l : List Int} (h : l.all (fun (z : Int) => (decide (-32768 ≤ z) && decide (z ≤ 32767))) = true) : ∀ z ∈ l, z.natAbs ≤ 32768 := fun z hz => by
  have := List.all_eq_true.mp h z hz
  rw [Bool.and_eq_true, decide_eq_true_eq, decide_eq_true_eq] at this
  omega
theorem asked_facts {r c : Int} {ns : List Int} (h : PyRa64.divisors_asked r c ns = true) : ((1 ≤ r ∧ r ≤ 8) ∧ (1 ≤ c ∧ c ≤ 8) → ns.length = r.toNat * c.toNat) ∧ ∀ z ∈ ns, z.natAbs ≤ 32768 := by
  have h3 : ((ns.all (fun (z : Int) => (decide (-32768 ≤ z) && decide (z ≤ 32767))) && Ra64Neutral.cells ns (Ra64Neutral.upTo r 8 && Ra64Neutral.upTo c 8) (r * c)) && (Ra64Neutral.whole32 r && (Ra64Neutral.whole32 c))) = true := h
  obtain ⟨q1, q2⟩ := Bool.and_eq_true_iff.mp (Bool.and_eq_true_iff.mp h3).1
  exact ⟨fun hn => cells_len q2 (by rw [upTo_true hn.1, upTo_true hn.2]; rfl) (mul_nat (by omega) (by omega)), small_all q1⟩
theorem args_of (P : Params) (h : Heap) (args : List WData) (us : List Value) (hpre : PySem.Challenge.rw_wholetables_s04_divisors.pre args = true) (hw : WellAll P h us args) : us.length = (["rows", "columns", "table"] : List Str).length ∧ ∃ (xs : List V) (L : List LArg), Vals xs us ∧
      (∀ x ∈ L, h.get? x.1 = some (WS.lobj x.2.1) ∧ IntsAre x.2.1 x.2.2 ∧ x.2.2.length ≤ sizeLine) ∧
      ∀ (K : PySem.W.Frag) (H : Hp), (∀ x ∈ L, SqL K H x.1 (x.2.2.map V.int)) → spDivs K xs H (fun v H' => ∃ (p : Addr) (l : List Int), v = .ref p ∧ H' p = some (.lst (l.map V.int)) ∧ PySem.Challenge.rw_wholetables_s04_divisors.post args (.list (l.map WData.int)) = true) fun _ _ _ => False := by
  obtain ⟨⟨r, c, ns, ⟨⟩⟩, h1, h2, rfl⟩ := (OpenSpec.pre_iff said args).mp hpre
  have h2' : PyRa64.divisors_asked r c ns = true := h2
  have e : Codec.encAll PySem.Challenge.rw_wholetables_s04_divisors.args (r, c, ns, ()) = [WData.int r, WData.int c, WData.list (ns.map WData.int)] := rfl
  rw [e] at hw
  cases hw with
  | cons w1 hw =>
    cases hw with
    | cons w2 hw =>
      cases hw with
      | cons w3 hw =>
        cases hw
        cases w1
        cases w2
        cases w3 with
        | @list a1 vs1 xs1 ho1 hall1 =>
          have hi1 := Att.ints_of_wellAll ns _ hall1
          obtain ⟨hl, hB⟩ := asked_facts h2'
          have h4 : (Codec.inInt (-2147483648) 2147483647 r && (Codec.inInt (-2147483648) 2147483647 c && ((Codec.inLen 0 64 ns && ns.all (Codec.inInt (-32768) 32767)) && true))) = true := h1
          simp only [Bool.and_eq_true] at h4
          have hz1 : ns.length ≤ sizeLine := by
            have h3 : Codec.inLen 0 64 ns = true := h4.2.2.1.1
            unfold Codec.inLen Codec.inNat at h3
            rw [Bool.and_eq_true, decide_eq_true_eq, decide_eq_true_eq] at h3
            exact Nat.le_trans h3.2 (by decide)
          refine ⟨rfl, [.int r, .int c, .ref a1], [(a1, vs1, ns)], .cons ⟨_, rfl⟩ (.cons ⟨_, rfl⟩ (.cons rfl .nil)), fun x hx => ?_, fun K H hS => ?_⟩
          · rw [List.mem_singleton.mp hx]
            exact ⟨ho1, hi1, hz1⟩
          · refine ⟨r, c, a1, ns, rfl, hS (a1, vs1, ns) (by simp), hl, hB, fun p H' hp => ⟨p, _, rfl, hp, ?_⟩⟩
            exact (OpenSpec.post_iff said h1 _ []).mpr rfl
theorem all_mk {P : Program} {w : World} {K : PySem.W.Frag} {h : Heap} {mg : Str → Option Value} {fa : Addr} (X : K.In h) (G : h.Ns mainGlobals mg) (hfa : mg "divisors" = some (.ref fa))
    {f_divisors : Addr} {od_divisors an_divisors : Option Addr} {sl_divisors : Array (Option Value)} {oc_divisors kV_divisors dc_divisors pm_divisors cd_divisors ct_divisors : Value} (a_divisors : PySem.W.nsIn K mainGlobals "divisors" = some (some (.ref f_divisors))) (l_divisors : K.lookup f_divisors = some ⟨oc_divisors, od_divisors, .func (PySem.W.fnOf "divisors" "divisors" (defArgs d_divisors) (defBody d_divisors) (defScope d_divisors) .none kV_divisors dc_divisors pm_divisors an_divisors cd_divisors ct_divisors), sl_divisors⟩) (c_divisors : PySem.W.codeIn K cd_divisors "divisors" = true) (k_divisors : PySem.W.keepIn K (.ref f_divisors) = true)
    {f_within : Addr} {od_within an_within : Option Addr} {sl_within : Array (Option Value)} {oc_within kV_within dc_within pm_within cd_within ct_within : Value} (a_within : PySem.W.nsIn K mainGlobals "within" = some (some (.ref f_within))) (l_within : K.lookup f_within = some ⟨oc_within, od_within, .func (PySem.W.fnOf "within" "within" (defArgs d_within) (defBody d_within) (defScope d_within) .none kV_within dc_within pm_within an_within cd_within ct_within), sl_within⟩) (c_within : PySem.W.codeIn K cd_within "within" = true) (k_within : PySem.W.keepIn K (.ref f_within) = true)
    {f_split_rows : Addr} {od_split_rows an_split_rows : Option Addr} {sl_split_rows : Array (Option Value)} {oc_split_rows kV_split_rows dc_split_rows pm_split_rows cd_split_rows ct_split_rows : Value} (a_split_rows : PySem.W.nsIn K mainGlobals "split_rows" = some (some (.ref f_split_rows))) (l_split_rows : K.lookup f_split_rows = some ⟨oc_split_rows, od_split_rows, .func (PySem.W.fnOf "split_rows" "split_rows" (defArgs d_split_rows) (defBody d_split_rows) (defScope d_split_rows) .none kV_split_rows dc_split_rows pm_split_rows an_split_rows cd_split_rows ct_split_rows), sl_split_rows⟩) (c_split_rows : PySem.W.codeIn K cd_split_rows "split_rows" = true) (k_split_rows : PySem.W.keepIn K (.ref f_split_rows) = true)
    {f_first_place : Addr} {od_first_place an_first_place : Option Addr} {sl_first_place : Array (Option Value)} {oc_first_place kV_first_place dc_first_place pm_first_place cd_first_place ct_first_place : Value} (a_first_place : PySem.W.nsIn K mainGlobals "first_place" = some (some (.ref f_first_place))) (l_first_place : K.lookup f_first_place = some ⟨oc_first_place, od_first_place, .func (PySem.W.fnOf "first_place" "first_place" (defArgs d_first_place) (defBody d_first_place) (defScope d_first_place) .none kV_first_place dc_first_place pm_first_place an_first_place cd_first_place ct_first_place), sl_first_place⟩) (c_first_place : PySem.W.codeIn K cd_first_place "first_place" = true) (k_first_place : PySem.W.keepIn K (.ref f_first_place) = true)
    {f_normal_of : Addr} {od_normal_of an_normal_of : Option Addr} {sl_normal_of : Array (Option Value)} {oc_normal_of kV_normal_of dc_normal_of pm_normal_of cd_normal_of ct_normal_of : Value} (a_normal_of : PySem.W.nsIn K mainGlobals "normal_of" = some (some (.ref f_normal_of))) (l_normal_of : K.lookup f_normal_of = some ⟨oc_normal_of, od_normal_of, .func (PySem.W.fnOf "normal_of" "normal_of" (defArgs d_normal_of) (defBody d_normal_of) (defScope d_normal_of) .none kV_normal_of dc_normal_of pm_normal_of an_normal_of cd_normal_of ct_normal_of), sl_normal_of⟩) (c_normal_of : PySem.W.codeIn K cd_normal_of "normal_of" = true) (k_normal_of : PySem.W.keepIn K (.ref f_normal_of) = true)
    {f_add_row : Addr} {od_add_row an_add_row : Option Addr} {sl_add_row : Array (Option Value)} {oc_add_row kV_add_row dc_add_row pm_add_row cd_add_row ct_add_row : Value} (a_add_row : PySem.W.nsIn K mainGlobals "add_row" = some (some (.ref f_add_row))) (l_add_row : K.lookup f_add_row = some ⟨oc_add_row, od_add_row, .func (PySem.W.fnOf "add_row" "add_row" (defArgs d_add_row) (defBody d_add_row) (defScope d_add_row) .none kV_add_row dc_add_row pm_add_row an_add_row cd_add_row ct_add_row), sl_add_row⟩) (c_add_row : PySem.W.codeIn K cd_add_row "add_row" = true) (k_add_row : PySem.W.keepIn K (.ref f_add_row) = true)
    {f_clear_second : Addr} {od_clear_second an_clear_second : Option Addr} {sl_clear_second : Array (Option Value)} {oc_clear_second kV_clear_second dc_clear_second pm_clear_second cd_clear_second ct_clear_second : Value} (a_clear_second : PySem.W.nsIn K mainGlobals "clear_second" = some (some (.ref f_clear_second))) (l_clear_second : K.lookup f_clear_second = some ⟨oc_clear_second, od_clear_second, .func (PySem.W.fnOf "clear_second" "clear_second" (defArgs d_clear_second) (defBody d_clear_second) (defScope d_clear_second) .none kV_clear_second dc_clear_second pm_clear_second an_clear_second cd_clear_second ct_clear_second), sl_clear_second⟩) (c_clear_second : PySem.W.codeIn K cd_clear_second "clear_second" = true) (k_clear_second : PySem.W.keepIn K (.ref f_clear_second) = true)
    {f_lessen_above : Addr} {od_lessen_above an_lessen_above : Option Addr} {sl_lessen_above : Array (Option Value)} {oc_lessen_above kV_lessen_above dc_lessen_above pm_lessen_above cd_lessen_above ct_lessen_above : Value} (a_lessen_above : PySem.W.nsIn K mainGlobals "lessen_above" = some (some (.ref f_lessen_above))) (l_lessen_above : K.lookup f_lessen_above = some ⟨oc_lessen_above, od_lessen_above, .func (PySem.W.fnOf "lessen_above" "lessen_above" (defArgs d_lessen_above) (defBody d_lessen_above) (defScope d_lessen_above) .none kV_lessen_above dc_lessen_above pm_lessen_above an_lessen_above cd_lessen_above ct_lessen_above), sl_lessen_above⟩) (c_lessen_above : PySem.W.codeIn K cd_lessen_above "lessen_above" = true) (k_lessen_above : PySem.W.keepIn K (.ref f_lessen_above) = true)
    {f_turn_above_zero : Addr} {od_turn_above_zero an_turn_above_zero : Option Addr} {sl_turn_above_zero : Array (Option Value)} {oc_turn_above_zero kV_turn_above_zero dc_turn_above_zero pm_turn_above_zero cd_turn_above_zero ct_turn_above_zero : Value} (a_turn_above_zero : PySem.W.nsIn K mainGlobals "turn_above_zero" = some (some (.ref f_turn_above_zero))) (l_turn_above_zero : K.lookup f_turn_above_zero = some ⟨oc_turn_above_zero, od_turn_above_zero, .func (PySem.W.fnOf "turn_above_zero" "turn_above_zero" (defArgs d_turn_above_zero) (defBody d_turn_above_zero) (defScope d_turn_above_zero) .none kV_turn_above_zero dc_turn_above_zero pm_turn_above_zero an_turn_above_zero cd_turn_above_zero ct_turn_above_zero), sl_turn_above_zero⟩) (c_turn_above_zero : PySem.W.codeIn K cd_turn_above_zero "turn_above_zero" = true) (k_turn_above_zero : PySem.W.keepIn K (.ref f_turn_above_zero) = true)
    {f_lessen : Addr} {od_lessen an_lessen : Option Addr} {sl_lessen : Array (Option Value)} {oc_lessen kV_lessen dc_lessen pm_lessen cd_lessen ct_lessen : Value} (a_lessen : PySem.W.nsIn K mainGlobals "lessen" = some (some (.ref f_lessen))) (l_lessen : K.lookup f_lessen = some ⟨oc_lessen, od_lessen, .func (PySem.W.fnOf "lessen" "lessen" (defArgs d_lessen) (defBody d_lessen) (defScope d_lessen) .none kV_lessen dc_lessen pm_lessen an_lessen cd_lessen ct_lessen), sl_lessen⟩) (c_lessen : PySem.W.codeIn K cd_lessen "lessen" = true) (k_lessen : PySem.W.keepIn K (.ref f_lessen) = true)
    {f_take_away : Addr} {od_take_away an_take_away : Option Addr} {sl_take_away : Array (Option Value)} {oc_take_away kV_take_away dc_take_away pm_take_away cd_take_away ct_take_away : Value} (a_take_away : PySem.W.nsIn K mainGlobals "take_away" = some (some (.ref f_take_away))) (l_take_away : K.lookup f_take_away = some ⟨oc_take_away, od_take_away, .func (PySem.W.fnOf "take_away" "take_away" (defArgs d_take_away) (defBody d_take_away) (defScope d_take_away) .none kV_take_away dc_take_away pm_take_away an_take_away cd_take_away ct_take_away), sl_take_away⟩) (c_take_away : PySem.W.codeIn K cd_take_away "take_away" = true) (k_take_away : PySem.W.keepIn K (.ref f_take_away) = true)
    {f_column_at : Addr} {od_column_at an_column_at : Option Addr} {sl_column_at : Array (Option Value)} {oc_column_at kV_column_at dc_column_at pm_column_at cd_column_at ct_column_at : Value} (a_column_at : PySem.W.nsIn K mainGlobals "column_at" = some (some (.ref f_column_at))) (l_column_at : K.lookup f_column_at = some ⟨oc_column_at, od_column_at, .func (PySem.W.fnOf "column_at" "column_at" (defArgs d_column_at) (defBody d_column_at) (defScope d_column_at) .none kV_column_at dc_column_at pm_column_at an_column_at cd_column_at ct_column_at), sl_column_at⟩) (c_column_at : PySem.W.codeIn K cd_column_at "column_at" = true) (k_column_at : PySem.W.keepIn K (.ref f_column_at) = true)
    {f_divisors_of : Addr} {od_divisors_of an_divisors_of : Option Addr} {sl_divisors_of : Array (Option Value)} {oc_divisors_of kV_divisors_of dc_divisors_of pm_divisors_of cd_divisors_of ct_divisors_of : Value} (a_divisors_of : PySem.W.nsIn K mainGlobals "divisors_of" = some (some (.ref f_divisors_of))) (l_divisors_of : K.lookup f_divisors_of = some ⟨oc_divisors_of, od_divisors_of, .func (PySem.W.fnOf "divisors_of" "divisors_of" (defArgs d_divisors_of) (defBody d_divisors_of) (defScope d_divisors_of) .none kV_divisors_of dc_divisors_of pm_divisors_of an_divisors_of cd_divisors_of ct_divisors_of), sl_divisors_of⟩) (c_divisors_of : PySem.W.codeIn K cd_divisors_of "divisors_of" = true) (k_divisors_of : PySem.W.keepIn K (.ref f_divisors_of) = true)
    {f_is_diagonal : Addr} {od_is_diagonal an_is_diagonal : Option Addr} {sl_is_diagonal : Array (Option Value)} {oc_is_diagonal kV_is_diagonal dc_is_diagonal pm_is_diagonal cd_is_diagonal ct_is_diagonal : Value} (a_is_diagonal : PySem.W.nsIn K mainGlobals "is_diagonal" = some (some (.ref f_is_diagonal))) (l_is_diagonal : K.lookup f_is_diagonal = some ⟨oc_is_diagonal, od_is_diagonal, .func (PySem.W.fnOf "is_diagonal" "is_diagonal" (defArgs d_is_diagonal) (defBody d_is_diagonal) (defScope d_is_diagonal) .none kV_is_diagonal dc_is_diagonal pm_is_diagonal an_is_diagonal cd_is_diagonal ct_is_diagonal), sl_is_diagonal⟩) (c_is_diagonal : PySem.W.codeIn K cd_is_diagonal "is_diagonal" = true) (k_is_diagonal : PySem.W.keepIn K (.ref f_is_diagonal) = true)
    {f_turn_over : Addr} {od_turn_over an_turn_over : Option Addr} {sl_turn_over : Array (Option Value)} {oc_turn_over kV_turn_over dc_turn_over pm_turn_over cd_turn_over ct_turn_over : Value} (a_turn_over : PySem.W.nsIn K mainGlobals "turn_over" = some (some (.ref f_turn_over))) (l_turn_over : K.lookup f_turn_over = some ⟨oc_turn_over, od_turn_over, .func (PySem.W.fnOf "turn_over" "turn_over" (defArgs d_turn_over) (defBody d_turn_over) (defScope d_turn_over) .none kV_turn_over dc_turn_over pm_turn_over an_turn_over cd_turn_over ct_turn_over), sl_turn_over⟩) (c_turn_over : PySem.W.codeIn K cd_turn_over "turn_over" = true) (k_turn_over : PySem.W.keepIn K (.ref f_turn_over) = true)
    {f_divide_in_turn : Addr} {od_divide_in_turn an_divide_in_turn : Option Addr} {sl_divide_in_turn : Array (Option Value)} {oc_divide_in_turn kV_divide_in_turn dc_divide_in_turn pm_divide_in_turn cd_divide_in_turn ct_divide_in_turn : Value} (a_divide_in_turn : PySem.W.nsIn K mainGlobals "divide_in_turn" = some (some (.ref f_divide_in_turn))) (l_divide_in_turn : K.lookup f_divide_in_turn = some ⟨oc_divide_in_turn, od_divide_in_turn, .func (PySem.W.fnOf "divide_in_turn" "divide_in_turn" (defArgs d_divide_in_turn) (defBody d_divide_in_turn) (defScope d_divide_in_turn) .none kV_divide_in_turn dc_divide_in_turn pm_divide_in_turn an_divide_in_turn cd_divide_in_turn ct_divide_in_turn), sl_divide_in_turn⟩) (c_divide_in_turn : PySem.W.codeIn K cd_divide_in_turn "divide_in_turn" = true) (k_divide_in_turn : PySem.W.keepIn K (.ref f_divide_in_turn) = true)
    {f_common_divisor : Addr} {od_common_divisor an_common_divisor : Option Addr} {sl_common_divisor : Array (Option Value)} {oc_common_divisor kV_common_divisor dc_common_divisor pm_common_divisor cd_common_divisor ct_common_divisor : Value} (a_common_divisor : PySem.W.nsIn K mainGlobals "common_divisor" = some (some (.ref f_common_divisor))) (l_common_divisor : K.lookup f_common_divisor = some ⟨oc_common_divisor, od_common_divisor, .func (PySem.W.fnOf "common_divisor" "common_divisor" (defArgs d_common_divisor) (defBody d_common_divisor) (defScope d_common_divisor) .none kV_common_divisor dc_common_divisor pm_common_divisor an_common_divisor cd_common_divisor ct_common_divisor), sl_common_divisor⟩) (c_common_divisor : PySem.W.codeIn K cd_common_divisor "common_divisor" = true) (k_common_divisor : PySem.W.keepIn K (.ref f_common_divisor) = true)
    {t1 t2 : Tok} (m1 : PySem.W.nsIn K mainGlobals "MOST_SMALL" = some (some (.int 8 t1))) (m2 : PySem.W.nsIn K mainGlobals "REFUSED" = some (some (.int (-2) t2)))
    (n_range : PySem.W.nsIn K mainGlobals "range" = some none) (n_len : PySem.W.nsIn K mainGlobals "len" = some none) (n_enumerate : PySem.W.nsIn K mainGlobals "enumerate" = some none) (n_zip : PySem.W.nsIn K mainGlobals "zip" = some none) (n_reversed : PySem.W.nsIn K mainGlobals "reversed" = some none) (n_min : PySem.W.nsIn K mainGlobals "min" = some none) (n_any : PySem.W.nsIn K mainGlobals "any" = some none) :
    ∃ fd : FuncData, (∀ (s : Shared) (us : List Value), us.length = (["rows", "columns", "table"] : List Str).length → BindsTo s fd ⟨us, []⟩ ((["rows", "columns", "table"] : List Str).zip us)) ∧ ∀ base : Heap, K.In base → base.Ns mainGlobals mg → FnOk P w K mg base CX0 6 fa fd ["rows", "columns", "table"] (spDivs K) := by
  have e := hfa.symm.trans (PySem.W.mg_of X G a_divisors)
  cases e
  have T : Txt mg := ⟨PySem.W.mg_none_of X G n_range, PySem.W.mg_none_of X G n_len, PySem.W.mg_none_of X G n_enumerate, PySem.W.mg_none_of X G n_zip, PySem.W.mg_none_of X G n_reversed, PySem.W.mg_none_of X G n_min, PySem.W.mg_none_of X G n_any⟩
  have gm1 := PySem.W.mg_of X G m1
  have gm2 := PySem.W.mg_of X G m2
  have F_divisors := fun_mk (st := d_divisors) l_divisors c_divisors k_divisors
  have F_within := fun_mk (st := d_within) l_within c_within k_within
  have g_within := PySem.W.mg_of X G a_within
  have b_within := F_within.binds (ps := ["size", "most"]) fun _ _ _ _ _ _ us hl => match us, hl with | [_, _], _ => rfl
  have F_split_rows := fun_mk (st := d_split_rows) l_split_rows c_split_rows k_split_rows
  have g_split_rows := PySem.W.mg_of X G a_split_rows
  have b_split_rows := F_split_rows.binds (ps := ["rows", "columns", "table"]) fun _ _ _ _ _ _ us hl => match us, hl with | [_, _, _], _ => rfl
  have F_first_place := fun_mk (st := d_first_place) l_first_place c_first_place k_first_place
  have g_first_place := PySem.W.mg_of X G a_first_place
  have b_first_place := F_first_place.binds (ps := ["numbers"]) fun _ _ _ _ _ _ us hl => match us, hl with | [_], _ => rfl
  have F_normal_of := fun_mk (st := d_normal_of) l_normal_of c_normal_of k_normal_of
  have g_normal_of := PySem.W.mg_of X G a_normal_of
  have b_normal_of := F_normal_of.binds (ps := ["rows"]) fun _ _ _ _ _ _ us hl => match us, hl with | [_], _ => rfl
  have F_add_row := fun_mk (st := d_add_row) l_add_row c_add_row k_add_row
  have g_add_row := PySem.W.mg_of X G a_add_row
  have b_add_row := F_add_row.binds (ps := ["stairs", "row"]) fun _ _ _ _ _ _ us hl => match us, hl with | [_, _], _ => rfl
  have F_clear_second := fun_mk (st := d_clear_second) l_clear_second c_clear_second k_clear_second
  have g_clear_second := PySem.W.mg_of X G a_clear_second
  have b_clear_second := F_clear_second.binds (ps := ["first", "second", "place"]) fun _ _ _ _ _ _ us hl => match us, hl with | [_, _, _], _ => rfl
  have F_lessen_above := fun_mk (st := d_lessen_above) l_lessen_above c_lessen_above k_lessen_above
  have g_lessen_above := PySem.W.mg_of X G a_lessen_above
  have b_lessen_above := F_lessen_above.binds (ps := ["stairs"]) fun _ _ _ _ _ _ us hl => match us, hl with | [_], _ => rfl
  have F_turn_above_zero := fun_mk (st := d_turn_above_zero) l_turn_above_zero c_turn_above_zero k_turn_above_zero
  have g_turn_above_zero := PySem.W.mg_of X G a_turn_above_zero
  have b_turn_above_zero := F_turn_above_zero.binds (ps := ["row"]) fun _ _ _ _ _ _ us hl => match us, hl with | [_], _ => rfl
  have F_lessen := fun_mk (st := d_lessen) l_lessen c_lessen k_lessen
  have g_lessen := PySem.W.mg_of X G a_lessen
  have b_lessen := F_lessen.binds (ps := ["row", "stairs"]) fun _ _ _ _ _ _ us hl => match us, hl with | [_, _], _ => rfl
  have F_take_away := fun_mk (st := d_take_away) l_take_away c_take_away k_take_away
  have g_take_away := PySem.W.mg_of X G a_take_away
  have b_take_away := F_take_away.binds (ps := ["row", "times", "other"]) fun _ _ _ _ _ _ us hl => match us, hl with | [_, _, _], _ => rfl
  have F_column_at := fun_mk (st := d_column_at) l_column_at c_column_at k_column_at
  have g_column_at := PySem.W.mg_of X G a_column_at
  have b_column_at := F_column_at.binds (ps := ["rows", "place"]) fun _ _ _ _ _ _ us hl => match us, hl with | [_, _], _ => rfl
  have F_divisors_of := fun_mk (st := d_divisors_of) l_divisors_of c_divisors_of k_divisors_of
  have g_divisors_of := PySem.W.mg_of X G a_divisors_of
  have b_divisors_of := F_divisors_of.binds (ps := ["rows"]) fun _ _ _ _ _ _ us hl => match us, hl with | [_], _ => rfl
  have F_is_diagonal := fun_mk (st := d_is_diagonal) l_is_diagonal c_is_diagonal k_is_diagonal
  have g_is_diagonal := PySem.W.mg_of X G a_is_diagonal
  have b_is_diagonal := F_is_diagonal.binds (ps := ["stairs"]) fun _ _ _ _ _ _ us hl => match us, hl with | [_], _ => rfl
  have F_turn_over := fun_mk (st := d_turn_over) l_turn_over c_turn_over k_turn_over
  have g_turn_over := PySem.W.mg_of X G a_turn_over
  have b_turn_over := F_turn_over.binds (ps := ["rows"]) fun _ _ _ _ _ _ us hl => match us, hl with | [_], _ => rfl
  have F_divide_in_turn := fun_mk (st := d_divide_in_turn) l_divide_in_turn c_divide_in_turn k_divide_in_turn
  have g_divide_in_turn := PySem.W.mg_of X G a_divide_in_turn
  have b_divide_in_turn := F_divide_in_turn.binds (ps := ["numbers"]) fun _ _ _ _ _ _ us hl => match us, hl with | [_], _ => rfl
  have F_common_divisor := fun_mk (st := d_common_divisor) l_common_divisor c_common_divisor k_common_divisor
  have g_common_divisor := PySem.W.mg_of X G a_common_divisor
  have b_common_divisor := F_common_divisor.binds (ps := ["one", "other"]) fun _ _ _ _ _ _ us hl => match us, hl with | [_, _], _ => rfl
  refine ⟨PySem.W.fnOf "divisors" "divisors" (defArgs d_divisors) (defBody d_divisors) (defScope d_divisors) .none kV_divisors dc_divisors pm_divisors an_divisors cd_divisors ct_divisors, fun s us hl => match us, hl with | [_, _, _], _ => .of_eq rfl, fun base kb nb => ?_⟩
  exact ok_divs F_divisors T gm1 gm2 F_within b_within g_within F_divisors_of b_divisors_of g_divisors_of (ok_divsOf F_divisors_of T F_normal_of b_normal_of g_normal_of (ok_normalOf F_normal_of F_add_row b_add_row g_add_row (ok_add F_add_row T F_first_place b_first_place g_first_place F_clear_second b_clear_second g_clear_second (ok_clear2 F_clear_second T F_take_away b_take_away g_take_away)) F_lessen_above b_lessen_above g_lessen_above (ok_above F_lessen_above T F_turn_above_zero b_turn_above_zero g_turn_above_zero (ok_turn F_turn_above_zero T F_first_place b_first_place g_first_place) F_lessen b_lessen g_lessen (ok_lessen F_lessen T F_first_place b_first_place g_first_place F_take_away b_take_away g_take_away))) F_is_diagonal b_is_diagonal g_is_diagonal (ok_isDg F_is_diagonal T) F_turn_over b_turn_over g_turn_over (ok_turnO F_turn_over T F_column_at b_column_at g_column_at) F_divide_in_turn b_divide_in_turn g_divide_in_turn (ok_inTurn F_divide_in_turn T F_common_divisor b_common_divisor g_common_divisor)) F_split_rows b_split_rows g_split_rows (ok_split F_split_rows T)
end WD
open PySem PySem.W PyProof.Rows
set_option maxRecDepth 100000 in
set_option maxHeartbeats 0 in
theorem PySem.Challenge.cw_wholetables_s04_divisors_holds : PySem.Challenge.rw_wholetables_s04_divisors.Holds := by
  w_on; k_headS; (case hw => exact ⟨[.int 0, .int 0, .list []], by decide +kernel, by decide +kernel⟩)
  k_fillS
  refine WS.walk_spec (k := 6) (ps := ["rows", "columns", "table"]) (sp := WD.spDivs) rfl ⟨rfl, by decide, by decide⟩ (fun w h Y => PySem.W.kIn_of Y) ?F WD.args_of
  case F =>
    intro w mg fa h KX G hmg
    refine' WD.all_mk KX G hmg ?a_divisors ?l_divisors ?c_divisors ?k_divisors ?a_within ?l_within ?c_within ?k_within ?a_split_rows ?l_split_rows ?c_split_rows ?k_split_rows ?a_first_place ?l_first_place ?c_first_place ?k_first_place ?a_normal_of ?l_normal_of ?c_normal_of ?k_normal_of ?a_add_row ?l_add_row ?c_add_row ?k_add_row ?a_clear_second ?l_clear_second ?c_clear_second ?k_clear_second ?a_lessen_above ?l_lessen_above ?c_lessen_above ?k_lessen_above ?a_turn_above_zero ?l_turn_above_zero ?c_turn_above_zero ?k_turn_above_zero ?a_lessen ?l_lessen ?c_lessen ?k_lessen ?a_take_away ?l_take_away ?c_take_away ?k_take_away ?a_column_at ?l_column_at ?c_column_at ?k_column_at ?a_divisors_of ?l_divisors_of ?c_divisors_of ?k_divisors_of ?a_is_diagonal ?l_is_diagonal ?c_is_diagonal ?k_is_diagonal ?a_turn_over ?l_turn_over ?c_turn_over ?k_turn_over ?a_divide_in_turn ?l_divide_in_turn ?c_divide_in_turn ?k_divide_in_turn ?a_common_divisor ?l_common_divisor ?c_common_divisor ?k_common_divisor ?m1 ?m2 ?n_range ?n_len ?n_enumerate ?n_zip ?n_reversed ?n_min ?n_any
    (case a_divisors => k_is)
    (case l_divisors => k_is)
    (case c_divisors => k_is)
    (case k_divisors => k_is)
    (case a_within => k_is)
    (case l_within => k_is)
    (case c_within => k_is)
    (case k_within => k_is)
    (case a_split_rows => k_is)
    (case l_split_rows => k_is)
    (case c_split_rows => k_is)
    (case k_split_rows => k_is)
    (case a_first_place => k_is)
    (case l_first_place => k_is)
    (case c_first_place => k_is)
    (case k_first_place => k_is)
    (case a_normal_of => k_is)
    (case l_normal_of => k_is)
    (case c_normal_of => k_is)
    (case k_normal_of => k_is)
    (case a_add_row => k_is)
    (case l_add_row => k_is)
    (case c_add_row => k_is)
    (case k_add_row => k_is)
    (case a_clear_second => k_is)
    (case l_clear_second => k_is)
    (case c_clear_second => k_is)
    (case k_clear_second => k_is)
    (case a_lessen_above => k_is)
    (case l_lessen_above => k_is)
    (case c_lessen_above => k_is)
    (case k_lessen_above => k_is)
    (case a_turn_above_zero => k_is)
    (case l_turn_above_zero => k_is)
    (case c_turn_above_zero => k_is)
    (case k_turn_above_zero => k_is)
    (case a_lessen => k_is)
    (case l_lessen => k_is)
    (case c_lessen => k_is)
    (case k_lessen => k_is)
    (case a_take_away => k_is)
    (case l_take_away => k_is)
    (case c_take_away => k_is)
    (case k_take_away => k_is)
    (case a_column_at => k_is)
    (case l_column_at => k_is)
    (case c_column_at => k_is)
    (case k_column_at => k_is)
    (case a_divisors_of => k_is)
    (case l_divisors_of => k_is)
    (case c_divisors_of => k_is)
    (case k_divisors_of => k_is)
    (case a_is_diagonal => k_is)
    (case l_is_diagonal => k_is)
    (case c_is_diagonal => k_is)
    (case k_is_diagonal => k_is)
    (case a_turn_over => k_is)
    (case l_turn_over => k_is)
    (case c_turn_over => k_is)
    (case k_turn_over => k_is)
    (case a_divide_in_turn => k_is)
    (case l_divide_in_turn => k_is)
    (case c_divide_in_turn => k_is)
    (case k_divide_in_turn => k_is)
    (case a_common_divisor => k_is)
    (case l_common_divisor => k_is)
    (case c_common_divisor => k_is)
    (case k_common_divisor => k_is)
    (case m1 => k_is)
    (case m2 => k_is)
    (case n_range => k_is)
    (case n_len => k_is)
    (case n_enumerate => k_is)
    (case n_zip => k_is)
    (case n_reversed => k_is)
    (case n_min => k_is)
    (case n_any => k_is)
#print axioms PySem.Challenge.cw_wholetables_s04_divisors_holds
