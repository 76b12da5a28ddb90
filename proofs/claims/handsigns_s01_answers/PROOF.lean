import PyProof.Rows.All
import Wide.All
import OpenK.AllK
import Wide.FinOn
import PyProof.EqAt
import PyProof.EqKinds
import PyProof.TupleCall
import KE.BitLaws
import Open.SpecLaws
import KE.OsHead
import KE.OsGo
import PyKs321
import PyFlatLaws
import PyProof.MaxThree
import PyProof.MinMaxWalk
import PyProof.Rows.CallKwBuiltin
import KE.KEqDeep
import PySem.Challenge.RW_handsigns_s01_answers
set_option Elab.async false
set_option linter.all false
set_option maxRecDepth 100000
/-! THE HAND LAYER, for ints, bools, texts, own classes, lists, tuples, dicts, comprehensions, walks over dicts, enumerate, zip, reversed, texts, calls, loops. Paste it whole ahead of your own text; what your proof does not reach may be deleted. -/
namespace L2
open PySem PySem.Spec PyProof.Rows

/-- a key: an int or a str -/
abbrev Key := Sum Int Str
def keyIs : Key → Value → Bool
  | .inl k, v => Value.isInt k v
  | .inr x, v => Value.isStrOf x v
def keyH (w : World) : Key → Int
  | .inl k => hashInt k
  | .inr x => hashStr w x
theorem keyIs_shape : ∀ {k : Key} {v : Value}, keyIs k v = true → (∃ i t, k = Sum.inl i ∧ v = Value.int i t) ∨ (∃ x t, k = Sum.inr x ∧ v = Value.str x t)
  | .inl i, v, h => by
    obtain ⟨t, e⟩ := Value.isInt_shape (k := i) (v := v) h
    exact .inl ⟨i, t, rfl, e⟩
  | .inr x, v, h => by
    obtain ⟨t, e⟩ := Value.isStrOf_shape (x := x) (v := v) h
    exact .inr ⟨x, t, rfl, e⟩
theorem key_ll (a b : Int) : decide ((Sum.inl a : Key) = Sum.inl b) = (a == b) := by
  by_cases e : a = b
  · subst e; simp
  · have h : ¬ (Sum.inl a : Key) = Sum.inl b := fun q => e (Sum.inl.inj q)
    rw [decide_eq_false h]
    exact (beq_eq_false_iff_ne.mpr e).symm
theorem key_rr (a b : Str) : decide ((Sum.inr a : Key) = Sum.inr b) = decide (a = b) := by
  by_cases e : a = b
  · subst e; simp
  · have h : ¬ (Sum.inr a : Key) = Sum.inr b := fun q => e (Sum.inr.inj q)
    rw [decide_eq_false h, decide_eq_false e]
theorem key_lr (a : Int) (b : Str) : decide ((Sum.inl a : Key) = Sum.inr b) = false := decide_eq_false (fun q => nomatch q)
theorem key_rl (a : Str) (b : Int) : decide ((Sum.inr a : Key) = Sum.inl b) = false := decide_eq_false (fun q => nomatch q)

def mixKind (prog : Program) (w : World) : PySem.KeyKind prog w Key where
  is := keyIs
  hash := keyH w
  inj := fun v a b ha hb => by
    rcases keyIs_shape ha with ⟨i, t, rfl, rfl⟩ | ⟨x, t, rfl, rfl⟩
    · rcases keyIs_shape hb with ⟨j, u, rfl, e⟩ | ⟨y, u, rfl, e⟩
      · injection e with e1 _; rw [e1]
      · exact nomatch e
    · rcases keyIs_shape hb with ⟨j, u, rfl, e⟩ | ⟨y, u, rfl, e⟩
      · exact nomatch e
      · injection e with e1 _; rw [e1]
  byValue := fun k v h => by
    rcases keyIs_shape h with ⟨i, t, rfl, rfl⟩ | ⟨x, t, rfl, rfl⟩ <;> rfl
  pyHash := fun hv h => by
    rcases keyIs_shape hv with ⟨i, t, rfl, rfl⟩ | ⟨x, t, rfl, rfl⟩
    · exact wpAny_pyHash_int h
    · exact wpAny_pyHash_str h
  eqBool := fun hu hv h => by
    rcases keyIs_shape hu with ⟨i, t, rfl, rfl⟩ | ⟨x, t, rfl, rfl⟩
    · rcases keyIs_shape hv with ⟨j, u, rfl, rfl⟩ | ⟨y, u, rfl, rfl⟩
      · rw [key_ll] at h; exact wpAny_eqBool_int h
      · rw [key_lr] at h; exact SeqAt.EqAt.int_str i t y u _ _ _ _ h
    · rcases keyIs_shape hv with ⟨j, u, rfl, rfl⟩ | ⟨y, u, rfl, rfl⟩
      · rw [key_rl] at h; exact SeqAt.EqAt.str_int x t j u _ _ _ _ h
      · rw [key_rr] at h; exact wpAny_eqBool_str h
  «strs» := fun k x t v h => by
    rcases keyIs_shape h with ⟨i, u, rfl, e⟩ | ⟨y, u, rfl, e⟩
    · exact nomatch e
    · injection e with e1 _
      subst e1
      cases v <;> rfl

end L2

namespace L2
open PySem PySem.Spec PyProof.Rows

/-- a value, without the heap -/
inductive V where
  | non | bl (b : Bool) | int (i : Int) | str (x : Str) | byt (b : Array UInt8) | flt (b : UInt64) | ref (a : Addr) | ty (n : String)
  deriving DecidableEq

def RelV : V → Value → Prop
  | .non, u => u = Value.none
  | .bl b, u => u = Value.bool b
  | .int i, u => ∃ t, u = Value.int i t
  | .str x, u => ∃ t, u = Value.str x t
  | .byt b, u => ∃ t, u = Value.bytes b t
  | .flt b, u => ∃ t, u = Value.float b t
  | .ref a, u => u = Value.ref a
  | .ty n, u => u = Value.type n

abbrev Vals : List V → List Value → Prop := Paired RelV
theorem Vals.length {xs : List V} {us : List Value} (r : Vals xs us) : xs.length = us.length := Paired.length r
theorem Vals.get : ∀ {xs : List V} {us : List Value} {i : Nat} {x : V}, Vals xs us → xs[i]? = some x → ∃ u, us[i]? = some u ∧ RelV x u
  | _, _, _, _, .nil, e => by simp at e
  | _, _, 0, _, .cons r _, e => by simp at e; subst e; exact ⟨_, rfl, r⟩
  | _, _, i + 1, x, .cons _ t, e => by
    obtain ⟨u, h1, h2⟩ := Vals.get (i := i) (x := x) t (by simpa using e)
    exact ⟨u, by simpa using h1, h2⟩
theorem Vals.append : ∀ {xs ys : List V} {us ws : List Value}, Vals xs us → Vals ys ws → Vals (xs ++ ys) (us ++ ws)
  | _, _, _, _, .nil, s => s
  | _, _, _, _, .cons r t, s => .cons r (Vals.append t s)
theorem Vals.take : ∀ {xs : List V} {us : List Value} (n : Nat), Vals xs us → Vals (xs.take n) (us.take n)
  | _, _, 0, _ => .nil
  | _, _, _ + 1, .nil => .nil
  | _, _, n + 1, .cons r t => .cons r (Vals.take n t)
theorem Vals.drop : ∀ {xs : List V} {us : List Value} (n : Nat), Vals xs us → Vals (xs.drop n) (us.drop n)
  | _, _, 0, r => r
  | _, _, _ + 1, .nil => .nil
  | _, _, n + 1, .cons _ t => Vals.drop n t
def RelO : Option V → Option Value → Prop
  | some v, some u => RelV v u
  | none, none => True
  | _, _ => False
def KV {κ : Type} : List (κ × V) → List (κ × Value) → Prop := Paired fun (p : κ × V) (q : κ × Value) => p.1 = q.1 ∧ RelV p.2 q.2

/-- a key of a dict (00_mix): an int or a text -/
def kV : Key → V
  | .inl i => .int i
  | .inr x => .str x

/-- what stands at a tracked address -/
inductive HO where
  /-- a list -/
  | lst (xs : List V)
  /-- a tuple (never changes) -/
  | tup (xs : List V)
  /-- a dict whose keys are ints and texts; one whose keys are tuples of ints and texts (the empty one is both) -/
  | dK (kvs : List (Key × V)) | dT (kvs : List (List Key × V))
  /-- a set of ints: its members, its size -/
  | set (S : Int → Bool) (n : Nat)
  /-- an instance of the class at C, its dict at dx, its attributes -/
  | ins (C dx : Addr) (fs : List (Str × V))
  /-- the dict of the instance at x -/
  | own (x : Addr)
  /-- the dict of an exception -/
  | xd (fs : List (Str × V))
  /-- a bound method, f of x -/
  | met (f x : Addr)
  /-- a range object lo, lo + 1, .. below hi -/
  | rng (lo hi : Int)
  /-- a thing that is known to the object (the script; a dict while a loop walks it): read, never written while it is so -/
  | frz (o : Obj) (u : HO)
  /-- a code object's table -/
  | tbl (ps : Array Value)
  /-- any other thing, by what is true of its one object (a def of one's own: SetO a S n := HO.ext fun h => ..) -/
  | ext (φ : Heap → Prop)

abbrev Hp := Addr → Option HO
def upd (H : Hp) (a : Addr) (o : HO) : Hp := fun b => if b = a then some o else H b
theorem upd_same {H : Hp} {a : Addr} {o : HO} : upd H a o a = some o := by unfold upd; rw [if_pos rfl]
theorem upd_ne {H : Hp} {a b : Addr} {o : HO} (h : b ≠ a) : upd H a o b = H b := by unfold upd; rw [if_neg h]
/-- two objects of different content stand apart -/
theorem ne_of {H : Hp} {a b : Addr} {o u : HO} (h : H a = some o) (h' : H b = some u) (d : o ≠ u) : a ≠ b := by
  intro e; subst e; rw [h] at h'; exact d (Option.some.inj h')
theorem ne_of_none {H : Hp} {a b : Addr} {o : HO} (h : H a = some o) (h' : H b = none) : a ≠ b := by
  intro e; subst e; rw [h] at h'; cases h'

section
variable (P : Program) (w : World)
def ObjOk (H : Hp) (h : Heap) (a : Addr) : HO → Prop
  | .lst xs => xs.length ≤ sizeLine ∧ ∃ (its : List Value) (n : Nat), Vals xs its ∧ h.get? a = some { cls := .type "list", data := .seq its.toArray n }
  | .tup xs => xs.length ≤ sizeLine ∧ ∃ its : List Value, Vals xs its ∧ IsTup h a its.toArray
  | .dK kvs => kvs.length ≤ sizeLine ∧ (a == sysModules) = false ∧ ∃ vs, KV kvs vs ∧ h.DictOf (mixKind P w) a vs
  | .dT kvs => kvs.length ≤ sizeLine ∧ (a == sysModules) = false ∧ ∃ xs : List (List Key × Addr × Value),
      Paired (fun (p : List Key × V) (q : List Key × Addr × Value) => p.1 = q.1 ∧ H q.2.1 = some (.tup (p.1.map kV)) ∧ RelV p.2 q.2.2) kvs xs ∧
      ∃ o es ep, h.get? a = some o ∧ o.ExactDict ∧ o.data = .dict es ep ∧ es.toList = xs.map (entryOfKey (tupleKind (mixKind P w))) ∧ (xs.map (·.1)).Nodup
  | .set S n => h.SetOf (intKind P w) a S n
  | .ins C dx fs => H dx = some (.own a) ∧ fs.length ≤ 1000 ∧ dx ≠ a ∧ h.get? a = some (PySem.W.instObj C dx) ∧
      ∃ mA, h.Ns1 dx mA ∧ (∀ f, RelO (fs.lookup f) (mA f)) ∧ PySem.Within mA (fs.map (·.1))
  | .own _ => ∃ o, h.get? a = some o
  | .xd fs => ∃ mA, h.Ns1 a mA ∧ ∀ f, RelO (fs.lookup f) (mA f)
  | .rng lo hi => ∃ t u v, h.get? a = some { cls := .type "range", data := .fields #[.int lo t, .int hi u, .int 1 v] }
  | .frz o u => h.get? a = some o ∧ ObjOk H h a u
  | .tbl ps => h.get? a = some { cls := .none, data := .fields ps }
  | .met f x => h.get? a = some (PySem.W.methodObj (.ref f) (.ref x))
  | .ext φ => φ h ∧ (∃ o, h.get? a = some o) ∧ ∀ h1 h2 : Heap, φ h1 → (∀ o, h1.get? a = some o → h2.get? a = some o) → φ h2
/-- the abstract heap is held -/
def HOk (H : Hp) (h : Heap) : Prop := ∀ a o, H a = some o → ObjOk P w H h a o
end

section
variable {P : Program} {w : World} {H H' : Hp} {h h' : Heap} {a : Addr} {o : HO}
theorem ObjOk.lt (x : ObjOk P w H h a o) : a < h.objs.size := by
  cases o with
  | lst xs => obtain ⟨_, _, _, _, e⟩ := x; exact Heap.lt_size e
  | tup xs => obtain ⟨_, _, _, p⟩ := x; exact p.lt
  | dK kvs => obtain ⟨_, _, _, _, o, _, _, e, _⟩ := x; exact Heap.lt_size e
  | dT kvs => obtain ⟨_, _, _, _, o, _, _, e, _⟩ := x; exact Heap.lt_size e
  | set S n => obtain ⟨o, _, _, _, e, _⟩ := x; exact Heap.lt_size e
  | ins C dx fs => obtain ⟨_, _, _, e, _⟩ := x; exact Heap.lt_size e
  | own y => obtain ⟨_, e⟩ := x; exact Heap.lt_size e
  | xd fs => obtain ⟨_, ⟨_, _, _, e, _⟩, _⟩ := x; exact Heap.lt_size e
  | rng lo hi => obtain ⟨_, _, _, e⟩ := x; exact Heap.lt_size e
  | frz ob u => obtain ⟨e, _⟩ := x; exact Heap.lt_size e
  | tbl ps => exact Heap.lt_size (show h.get? a = some _ from x)
  | met f y => exact Heap.lt_size (show h.get? a = some _ from x)
  | ext φ => obtain ⟨_, ⟨_, e⟩, _⟩ := x; exact Heap.lt_size e
theorem Paired.mapP {α β : Type} {F G : α → β → Prop} : ∀ {l₁ : List α} {l₂ : List β}, Paired F l₁ l₂ → (∀ a b, F a b → G a b) → Paired G l₁ l₂
  | _, _, .nil, _ => .nil
  | _, _, .cons r t, f => .cons (f _ _ r) (Paired.mapP t f)
/-- what an object's description leans on: its own object, its own dict, the tuples -/
theorem ObjOk.stay (x : ObjOk P w H h a o) (k : ∀ b u, (b = a ∨ H b = some (.own a)) → h.get? b = some u → h'.get? b = some u)
    (ho : ∀ b, H b = some (.own a) → H' b = some (.own a)) (ht : ∀ b xs, H b = some (.tup xs) → H' b = some (.tup xs)) : ObjOk P w H' h' a o := by
  induction o with
  | lst xs => obtain ⟨z, its, n, r, e⟩ := x; exact ⟨z, its, n, r, k _ _ (.inl rfl) e⟩
  | tup xs => obtain ⟨z, its, r, ob, e, c⟩ := x; exact ⟨z, its, r, ob, k _ _ (.inl rfl) e, c⟩
  | dK kvs => obtain ⟨z, y, vs, r, ob, es, ep, e, c⟩ := x; exact ⟨z, y, vs, r, ob, es, ep, k _ _ (.inl rfl) e, c⟩
  | dT kvs =>
    obtain ⟨z, y, xs, r, ob, es, ep, e, c⟩ := x
    exact ⟨z, y, xs, Paired.mapP r fun p q z => ⟨z.1, ht _ _ z.2.1, z.2.2⟩, ob, es, ep, k _ _ (.inl rfl) e, c⟩
  | set S n => obtain ⟨ob, es, ep, t, e, c⟩ := x; exact ⟨ob, es, ep, t, k _ _ (.inl rfl) e, c⟩
  | ins C dx fs =>
    obtain ⟨d, z, ne, e, mA, ⟨od, es, ep, e2, c⟩, r⟩ := x
    exact ⟨ho _ d, z, ne, k _ _ (.inl rfl) e, mA, ⟨od, es, ep, k _ _ (.inr d) e2, c⟩, r⟩
  | own y => obtain ⟨ob, e⟩ := x; exact ⟨ob, k _ _ (.inl rfl) e⟩
  | xd fs => obtain ⟨mA, ⟨od, es, ep, e, c⟩, r⟩ := x; exact ⟨mA, ⟨od, es, ep, k _ _ (.inl rfl) e, c⟩, r⟩
  | rng lo hi => obtain ⟨t, u, v, e⟩ := x; exact ⟨t, u, v, k _ _ (.inl rfl) e⟩
  | frz ob u ih => obtain ⟨e, q⟩ := x; exact ⟨k _ _ (.inl rfl) e, ih q⟩
  | tbl ps =>
    have e : h.get? a = some { cls := .none, data := .fields ps } := x
    show h'.get? a = some { cls := .none, data := .fields ps }
    exact k a _ (.inl rfl) e
  | met f y =>
    have e : h.get? a = some (PySem.W.methodObj (.ref f) (.ref y)) := x
    show h'.get? a = some (PySem.W.methodObj (.ref f) (.ref y))
    exact k a _ (.inl rfl) e
  | ext φ => obtain ⟨p, ⟨o, e⟩, st⟩ := x; exact ⟨st _ _ p fun o q => k _ _ (.inl rfl) q, ⟨o, k _ _ (.inl rfl) e⟩, st⟩
theorem HOk.lt (x : HOk P w H h) (e : H a = some o) : a < h.objs.size := (x a o e).lt
theorem HOk.fresh (x : HOk P w H h) (e : h.objs.size ≤ a) : H a = none := by
  cases q : H a with
  | none => rfl
  | some u => exact absurd (Nat.lt_of_lt_of_le (x.lt q) e) (Nat.lt_irrefl _)
/-- every object of the heap is kept -/
theorem HOk.kept (x : HOk P w H h) (k : ∀ b u, h.get? b = some u → h'.get? b = some u) : HOk P w H h' := fun a o e =>
  (x a o e).stay (fun b u _ q => k b u q) (fun _ q => q) fun _ _ q => q
/-- a new object is laid and tracked -/
theorem HOk.laid (x : HOk P w H h) (k : ∀ b u, h.get? b = some u → h'.get? b = some u) (hp : h.objs.size ≤ a) (new : ObjOk P w (upd H a o) h' a o) : HOk P w (upd H a o) h' := fun b u e => by
  have hn := x.fresh hp
  by_cases hb : b = a
  · subst hb; rw [upd_same] at e; cases e; exact new
  · rw [upd_ne hb] at e
    exact (x b u e).stay (fun c v _ q => k c v q) (fun c q => by rw [upd_ne (ne_of_none q hn)]; exact q) fun c xs q => by rw [upd_ne (ne_of_none q hn)]; exact q
end

/-- what may be read as u: it is u, or a known u -/
def Rd (H : Hp) (a : Addr) (u : HO) : Prop := H a = some u ∨ ∃ o, H a = some (.frz o u)
theorem Rd.ok {P : Program} {w : World} {H : Hp} {h : Heap} {a : Addr} {u : HO} (r : Rd H a u) (x : HOk P w H h) : ObjOk P w H h a u := by
  rcases r with r | ⟨o, r⟩
  · exact x a u r
  · obtain ⟨_, q⟩ := x a _ r
    exact q
/-- what may be written -/
def Mut : Option HO → Prop
  | some (.lst _) => True
  | some (.dK _) => True
  | some (.dT _) => True
  | some (.set _ _) => True
  | some (.ins _ _ _) => True
  | some (.ext _) => True
  | _ => False
section
variable {P : Program} {w : World} {H : Hp} {h h' : Heap} {x e : Addr} {o' : HO}
/-- the object at e is changed: x itself, or the dict of the instance x -/
theorem HOk.write (ok : HOk P w H h) (mu : Mut (H x)) (he : e = x ∨ H e = some (.own x)) (k : ∀ b u, b ≠ e → h.get? b = some u → h'.get? b = some u) (heo : ∃ u, h'.get? e = some u)
    (new : ObjOk P w (upd H x o') h' x o') : HOk P w (upd H x o') h' := fun b u q => by
  have nown : ∀ c y, H c = some (.own y) → c ≠ x := fun c y r z => by subst z; rw [r] at mu; exact mu
  have ntup : ∀ c xs, H c = some (.tup xs) → c ≠ x := fun c xs r z => by subst z; rw [r] at mu; exact mu
  by_cases hb : b = x
  · subst hb; rw [upd_same] at q; cases q; exact new
  · rw [upd_ne hb] at q
    by_cases hbe : b = e
    · have q' : H b = some (.own x) := by
        rcases he with z | z
        · exact absurd (hbe.trans z) hb
        · rw [hbe]; exact z
      rw [q] at q'; cases q'
      obtain ⟨v, hv⟩ := heo
      exact ⟨v, by rw [hbe]; exact hv⟩
    · refine (ok b u q).stay (fun c v hc r => k c v ?_ r) (fun c r => by rw [upd_ne (nown c b r)]; exact r) fun c xs r => by rw [upd_ne (ntup c xs r)]; exact r
      rcases hc with rfl | hc
      · exact hbe
      · rintro rfl
        rcases he with z | z
        · exact nown c b hc z
        · rw [hc] at z; cases z; exact hb rfl
end

/-! ### kept unless tracked; of the frames at fs (the callers') the slots may change (an exception that passes writes there); of the records at ex (iterators) nothing is said -/
structure Un (fs ex : List Addr) (H H' : Hp) (h h' : Heap) : Prop where
  keep : ∀ b o, h.get? b = some o → H b = none → b ∉ fs → b ∉ ex → h'.get? b = some o
  slot : ∀ b o, h.get? b = some o → H b = none → b ∈ fs → b ∉ ex → ∃ sl, h'.get? b = some { o with slots := sl }
  free : ∀ b o, h.get? b = some o → H b = none → b ∉ ex → H' b = none
  there : ∀ b o, h.get? b = some o → b ∉ ex → ∃ o', h'.get? b = some o'
  tups : ∀ b xs, H b = some (.tup xs) → H' b = some (.tup xs)
  frzs : ∀ b o u, H b = some (.frz o u) → H' b = some (.frz o u)
  tbls : ∀ b ps, H b = some (.tbl ps) → ∃ more, H' b = some (.tbl (ps ++ more))
section
variable {fs fs' ex ex' : List Addr} {H H1 H2 : Hp} {h h1 h2 h' : Heap} {a x e : Addr} {o : HO}
theorem Un.any (u : Un fs ex H H1 h h1) {b : Addr} {ob : Obj} (q : h.get? b = some ob) (n : H b = none) (hx : b ∉ ex) : ∃ sl, h1.get? b = some { ob with slots := sl } := by
  by_cases hb : b ∈ fs
  · exact u.slot b ob q n hb hx
  · exact ⟨ob.slots, u.keep b ob q n hb hx⟩
theorem Un.kept (k : ∀ b u, h.get? b = some u → h'.get? b = some u) : Un fs ex H H h h' :=
  ⟨fun b ob q _ _ _ => k b ob q, fun b ob q _ _ _ => ⟨ob.slots, k b ob q⟩, fun _ _ _ n _ => n, fun b ob q _ => ⟨ob, k b ob q⟩, fun _ _ q => q, fun _ _ _ q => q, fun _ ps q => ⟨#[], by rw [q]; simp⟩⟩
theorem Un.refl : Un fs ex H H h h := Un.kept fun _ _ q => q
theorem Un.laid (k : ∀ b u, h.get? b = some u → h'.get? b = some u) (hp : h.objs.size ≤ a) (hn : H a = none) : Un fs ex H (upd H a o) h h' where
  keep := fun b u q _ _ _ => k b u q
  slot := fun b u q _ _ _ => ⟨u.slots, k b u q⟩
  free := fun b u q n _ => by rw [upd_ne (Nat.ne_of_lt (Nat.lt_of_lt_of_le (Heap.lt_size q) hp))]; exact n
  there := fun b u q _ => ⟨u, k b u q⟩
  tups := fun b xs q => by rw [upd_ne (ne_of_none q hn)]; exact q
  frzs := fun b u xs q => by rw [upd_ne (ne_of_none q hn)]; exact q
  tbls := fun b ps q => ⟨#[], by rw [upd_ne (ne_of_none q hn), q]; simp⟩
theorem Un.write (mu : Mut (H x)) (he : e = x ∨ H e = some (.own x)) (k : ∀ b u, b ≠ e → h.get? b = some u → h'.get? b = some u) (heo : ∃ u, h'.get? e = some u) : Un fs ex H (upd H x o) h h' := by
  have hx : ∀ b, H b = none → b ≠ x := fun b n z => by subst z; rw [n] at mu; exact mu
  have hb : ∀ b, H b = none → b ≠ e := fun b n z => by
    subst z
    rcases he with r | r
    · exact hx b n r
    · rw [n] at r; cases r
  have hm : ∀ b u, H b = some u → ¬ Mut (some u) → b ≠ x := fun b u q nm z => by subst z; rw [q] at mu; exact nm mu
  refine ⟨fun b u q n _ _ => k b u (hb b n) q, fun b u q n _ _ => ⟨u.slots, k b u (hb b n) q⟩, fun b u q n _ => by rw [upd_ne (hx b n)]; exact n, fun b u q _ => ?_,
    fun b xs q => by rw [upd_ne (hm b _ q fun z => z)]; exact q, fun b u xs q => by rw [upd_ne (hm b _ q fun z => z)]; exact q, fun b ps q => ⟨#[], by rw [upd_ne (hm b _ q fun z => z), q]; simp⟩⟩
  by_cases hbe : b = e
  · subst hbe; exact heo
  · exact ⟨u, k b u hbe q⟩
end

/-! ### the heap without what is tracked -/
def trk (h : Heap) (H : Hp) : List Addr := (List.range h.objs.size).filter fun a => (H a).isSome
def hidT (h : Heap) (H : Hp) : Heap := PySem.W.hideAll h (trk h H)
theorem hidT_size (h : Heap) (H : Hp) : (hidT h H).objs.size = h.objs.size := PySem.W.hideAll_size _ _
theorem hidT_get {h : Heap} {H : Hp} {b : Addr} {o : Obj} (e : h.get? b = some o) (n : H b = none) : (hidT h H).get? b = some o :=
  PySem.W.hideAll_get _ e fun hm => by
    have q : (H b).isSome = true := (List.mem_filter.mp hm).2
    rw [n] at q; simp at q
theorem of_hidT {h : Heap} {H : Hp} {b : Addr} {o : Obj} (e : (hidT h H).get? b = some o) : h.get? b = some o ∧ H b = none := by
  have e' : h.get? b = some o := PySem.W.of_hideAll (trk h H) e
  refine ⟨e', ?_⟩
  cases q : H b with
  | none => rfl
  | some x =>
    have hm : b ∈ trk h H := List.mem_filter.mpr ⟨List.mem_range.mpr (Heap.lt_size e'), by simp [q]⟩
    have z : (hidT h H).get? b = none := PySem.W.hideAll_none (trk h H) hm
    rw [z] at e; cases e

/-! ### OpenK's ledger, filled with every new object but one -/
end L2

namespace L2
open PySem PySem.Spec PyProof.Rows

/-- the module's facts, over the base: the heap at the law's entry without what is tracked there -/
structure Mod (K : PySem.W.Frag) (mg : Str → Option Value) (base : Heap) : Prop where
  kin : K.In base
  glob : base.Ns mainGlobals mg
  blt : ∃ mb, base.Ns builtinsNs mb ∧ ∀ x : Str, x ≠ "__name__" → mb x = bootBuiltins x
  nolimit : base.NoLimit

/-- the context: a def's body (or a comprehension's block) running. base: fixed through the whole law; s₀, H₀: the entry; outer: the frames whose slots others may change (a def's callers); stack: all frames that run;
   ex: iterators that were made ahead of the entry and are walked here (a comprehension's); fn: the names whose cells were made at the entry (a def: all; a comprehension's block: its own); calm: not within an except suite; pn: pins that every state bears; xe: what is wanted of an exception that leaves the code -/
structure Cx where
  prog : Program
  w : World
  K : PySem.W.Frag
  mg : Str → Option Value
  base : Heap
  A : Around
  N : List Str
  s_0 : Shared
  H_0 : Hp
  env : Env
  outer : List Env
  stack : List Env
  ex : List Addr
  fn : Str → Bool
  calm : Bool
  pn : List (Addr × Obj)
  xe : Value → Shared → Prop
/-- the callers' frames -/
def frs (l : List Env) : List Addr := l.filterMap (·.frame)
abbrev Cx.fs (X : Cx) : List Addr := frs X.outer

def Vis (sc : Scope) (x : Str) : Prop := sc.names.lookup x = some .local ∨ sc.names.lookup x = some .cell ∨ sc.names.lookup x = some .free
def Loc (sc : Scope) (x : Str) : Prop := sc.names.lookup x = some .local ∨ sc.names.lookup x = some .cell
def Look (env : Env) (h : Heap) (m : Str → Option Value) (x : Str) (u : Value) : Prop :=
  (env.kindOf x = some .local ∧ m x = some u) ∨ ((env.kindOf x = some .cell ∨ env.kindOf x = some .free) ∧ ∃ c, env.cells.lookup x = some c ∧ h.IsCell c (some u))

structure Cx.Ok (X : Cx) : Prop where
  mod : Mod X.K X.mg X.base
  kind : X.env.scope.kind = .function
  glob : X.env.globals = mainGlobals
  blt : X.env.builtins = builtinsNs
  above : X.s_0.heap.objs.size ≤ X.env.locals
  inj : ∀ x y c, X.env.cells.lookup x = some c → X.env.cells.lookup y = some c → x = y
  has : ∀ x, (X.env.kindOf x = some .cell ∨ X.env.kindOf x = some .free) → ∃ c, X.env.cells.lookup x = some c
  cab : ∀ x c, X.fn x = true → X.env.cells.lookup x = some c → X.s_0.heap.objs.size ≤ c
  hd : X.calm = true → X.A.handled = none
  frames : X.A.frames = some X.stack
  stk : X.stack = X.outer ∨ (X.stack = X.env :: X.outer ∧ X.env.frame = some X.env.locals)
  exf : ∀ b ∈ X.ex, b ≠ X.env.locals ∧ ∀ x c, X.env.cells.lookup x = some c → c ≠ b
  bs : ∀ b o, X.base.get? b = some o → X.s_0.heap.get? b = some o ∧ X.H_0 b = none
  bsz : X.base.objs.size ≤ X.s_0.heap.objs.size
  noex : ∀ b o, X.base.get? b = some o → b ∉ X.ex
  exfs : ∀ b ∈ X.ex, b ∉ X.fs
  funs : X.s_0.heap.FunFrames X.base X.outer
  frf : ∀ b ∈ X.fs, X.H_0 b = none

structure Inv (X : Cx) (pins : List (Addr × Obj)) (σ : List (Option V)) (H : Hp) (s : Shared) : Prop where
  ok : X.Ok
  os : s.os = X.s_0.os
  bare : AllBare s.gens
  base : Un X.fs X.ex X.H_0 H X.s_0.heap s.heap
  loc : ∃ m, s.heap.Ns X.env.locals m ∧ ∀ (i : Nat) (x : Str) (v : V), X.N[i]? = some x → σ[i]? = some (some v) → Vis X.env.scope x → ∃ u, RelV v u ∧ Look X.env s.heap m x u
  cell : ∀ x c, X.env.cells.lookup x = some c → ∃ v, s.heap.IsCell c v
  free : H X.env.locals = none
  freeC : ∀ x c, X.env.cells.lookup x = some c → H c = none
  pin : ∀ p ∈ X.pn ++ pins, s.heap.get? p.1 = some p.2 ∧ H p.1 = none ∧ p.1 ≠ X.env.locals ∧ p.1 ∉ X.fs ∧ ∀ v, p.2.data ≠ .cell v
  hok : HOk X.prog X.w H s.heap
  len : σ.length = X.N.length

section
variable {X : Cx} {pins : List (Addr × Obj)} {σ : List (Option V)} {H H' : Hp} {s : Shared} {h' : Heap}

theorem Cx.Ok.nofr (ok : X.Ok) {b : Addr} {o : Obj} (e : X.base.get? b = some o) : b ∉ X.fs := fun hb => by
  have := (ok.funs.mem hb).1
  rw [e] at this; cases this
theorem Inv.bs (I : Inv X pins σ H s) : ∀ b o, X.base.get? b = some o → s.heap.get? b = some o ∧ H b = none := fun b o e =>
  ⟨I.base.keep b o (I.ok.bs b o e).1 (I.ok.bs b o e).2 (I.ok.nofr e) (I.ok.noex b o e), I.base.free b o (I.ok.bs b o e).1 (I.ok.bs b o e).2 (I.ok.noex b o e)⟩
theorem Inv.bk (I : Inv X pins σ H s) : ∀ b o, X.base.get? b = some o → s.heap.get? b = some o := fun b o e => (I.bs b o e).1
theorem Inv.mod (I : Inv X pins σ H s) : Mod X.K X.mg X.base := I.ok.mod
theorem Inv.kIn (I : Inv X pins σ H s) : X.K.In s.heap := I.ok.mod.kin.keeps I.bk
theorem Inv.lt (I : Inv X pins σ H s) : X.env.locals < s.heap.objs.size := let ⟨_, hn, _⟩ := I.loc; hn.lt
theorem Inv.sz (I : Inv X pins σ H s) : X.s_0.heap.objs.size ≤ s.heap.objs.size := Nat.le_trans I.ok.above (Nat.le_of_lt I.lt)
theorem Inv.nofs (I : Inv X pins σ H s) {a : Addr} (h : s.heap.objs.size ≤ a) : a ∉ X.fs := fun hb => by
  obtain ⟨_, o, ho, _⟩ := I.ok.funs.mem hb
  exact absurd (Nat.lt_of_lt_of_le (Heap.lt_size ho) (Nat.le_trans I.sz h)) (Nat.lt_irrefl _)
theorem Inv.cne (I : Inv X pins σ H s) : ∀ x c, X.env.cells.lookup x = some c → c ≠ X.env.locals := fun x c e z => by
  obtain ⟨v, o, ho, hd⟩ := I.cell x c e
  obtain ⟨m, ⟨o', es, ep, ho', hd', _⟩, _⟩ := I.loc
  rw [z, ho'] at ho; cases ho; rw [hd'] at hd; cases hd
theorem Inv.funs (I : Inv X pins σ H s) : s.heap.FunFrames X.base X.outer := by
  have all : ∀ (l : List Env), (∀ b ∈ frs l, b ∈ X.fs) → X.s_0.heap.FunFrames X.base l → s.heap.FunFrames X.base l := by
    intro l
    induction l with
    | nil => intro _ _; trivial
    | cons env r ih =>
      intro hs hl
      obtain ⟨hk, ⟨L, o, hf, hn, ho, hd⟩, hr⟩ := hl
      have hL : L ∈ X.fs := hs L (by unfold frs; rw [List.filterMap_cons, hf]; exact List.mem_cons_self)
      obtain ⟨sl, e⟩ := I.base.slot L o ho (I.ok.frf L hL) hL fun z => I.ok.exfs L z hL
      exact ⟨hk, ⟨L, _, hf, hn, e, hd⟩, ih (fun b hb => hs b (by unfold frs; rw [List.filterMap_cons, hf]; exact List.mem_cons_of_mem _ hb)) hr⟩
  exact all X.outer (fun _ hb => hb) I.ok.funs

/-- the frames that run, for a call -/
theorem Inv.stack (I : Inv X pins σ H s) : s.heap.FunFrames X.base X.stack := by
  rcases I.ok.stk with e | ⟨e, hf⟩
  · rw [e]; exact I.funs
  · rw [e]
    obtain ⟨m, hn, _⟩ := I.loc
    refine .cons (by rw [I.ok.kind]; decide) hf hn ?_ I.funs
    exact Heap.get?_none_of_le (Nat.le_trans I.ok.bsz I.ok.above)
theorem Inv.stkSub (I : Inv X pins σ H s) : ∀ b ∈ frs X.stack, b ∈ X.env.locals :: X.fs := fun b hb => by
  rcases I.ok.stk with e | ⟨e, hf⟩
  · rw [e] at hb; exact List.mem_cons_of_mem _ hb
  · rw [e] at hb
    unfold frs at hb
    rw [List.filterMap_cons, hf] at hb
    exact hb
theorem Inv.stkFree (I : Inv X pins σ H s) : ∀ b ∈ frs X.stack, H b = none := fun b hb => by
  rcases List.mem_cons.mp (I.stkSub b hb) with e | hb
  · rw [e]; exact I.free
  · obtain ⟨_, o, ho, _⟩ := I.ok.funs.mem hb
    exact I.base.free b o ho (I.ok.frf b hb) fun z => I.ok.exfs b z hb

/-- THE STEP: the untracked objects but the frame and the records at ch are kept (the callers' frames up to slots), the frame's map is kept, the new abstract heap is held -/
theorem Inv.step {g' : Array GenState} {t' : Nat} {d' : Drawn} {ch : List Addr} (I : Inv X pins σ H s)
    (hch : ∀ b ∈ ch, (b ∈ X.ex ∨ X.s_0.heap.objs.size ≤ b) ∧ b ≠ X.env.locals ∧ (∀ x c, X.env.cells.lookup x = some c → c ≠ b) ∧ ∀ p ∈ X.pn ++ pins, p.1 ≠ b)
    (keep : ∀ b o, b ≠ X.env.locals → b ∉ X.fs → b ∉ ch → s.heap.get? b = some o → H b = none → h'.get? b = some o)
    (slot : ∀ b o, b ≠ X.env.locals → b ∈ X.fs → b ∉ ch → s.heap.get? b = some o → H b = none → ∃ sl, h'.get? b = some { o with slots := sl }) (free : ∀ b o, b ∉ ch → s.heap.get? b = some o → H b = none → H' b = none)
    (there : ∀ b o, b ∉ ch → s.heap.get? b = some o → ∃ o', h'.get? b = some o')
    (tups : ∀ b xs, H b = some (.tup xs) → H' b = some (.tup xs)) (frzs : ∀ b o u, H b = some (.frz o u) → H' b = some (.frz o u)) (tbls : ∀ b ps, H b = some (.tbl ps) → ∃ more, H' b = some (.tbl (ps ++ more)))
    (ns : ∀ m, s.heap.Ns X.env.locals m → h'.Ns X.env.locals m) (hok : HOk X.prog X.w H' h') (hg : AllBare g') :
    Inv X pins σ H' { s with heap := h', gens := g', drawn := d', toks := t' } := by
  have neL : ∀ b o, X.s_0.heap.get? b = some o → b ≠ X.env.locals := fun b o e => Nat.ne_of_lt (Nat.lt_of_lt_of_le (Heap.lt_size e) I.ok.above)
  have neC : ∀ b o, X.s_0.heap.get? b = some o → b ∉ X.ex → b ∉ ch := fun b o e hx hb => by
    rcases (hch b hb).1 with z | z
    · exact hx z
    · exact absurd (Nat.lt_of_lt_of_le (Heap.lt_size e) z) (Nat.lt_irrefl _)
  have cellK : ∀ x c, X.env.cells.lookup x = some c → ∀ v, s.heap.IsCell c v → h'.IsCell c v := fun x c e v ⟨o, ho, hd⟩ => by
    have nch : c ∉ ch := fun z => (hch c z).2.2.1 x c e rfl
    by_cases hc : c ∈ X.fs
    · obtain ⟨sl, q⟩ := slot c o (I.cne x c e) hc nch ho (I.freeC x c e)
      exact ⟨_, q, hd⟩
    · exact ⟨o, keep c o (I.cne x c e) hc nch ho (I.freeC x c e), hd⟩
  refine ⟨I.ok, I.os, hg, ⟨fun b o e n hb hx => ?_, fun b o e n hb hx => ?_, fun b o e n hx => ?_, fun b o e hx => ?_, fun b xs e => tups b xs (I.base.tups b xs e), fun b o xs e => frzs b o xs (I.base.frzs b o xs e), fun b ps e => ?_⟩, ?_, fun x c e => ?_, ?_, fun x c e => ?_, fun p hp => ?_, hok, I.len⟩
  · exact keep b o (neL b o e) hb (neC b o e hx) (I.base.keep b o e n hb hx) (I.base.free b o e n hx)
  · obtain ⟨sl, e1⟩ := I.base.slot b o e n hb hx
    obtain ⟨sl', e2⟩ := slot b _ (neL b o e) hb (neC b o e hx) e1 (I.base.free b o e n hx)
    exact ⟨sl', e2⟩
  · obtain ⟨o', e1⟩ := I.base.there b o e hx
    exact free b o' (neC b o e hx) e1 (I.base.free b o e n hx)
  · obtain ⟨o', e1⟩ := I.base.there b o e hx
    exact there b o' (neC b o e hx) e1
  · obtain ⟨m1, e1⟩ := I.base.tbls b ps e
    obtain ⟨m2, e2⟩ := tbls b _ e1
    exact ⟨m1 ++ m2, by rw [e2, Array.append_assoc]⟩
  · obtain ⟨m, hn, hl⟩ := I.loc
    refine ⟨m, ns m hn, fun i x v e1 e2 e3 => ?_⟩
    obtain ⟨u, r, l⟩ := hl i x v e1 e2 e3
    refine ⟨u, r, ?_⟩
    rcases l with l | ⟨k, c, e, z⟩
    · exact .inl l
    · exact .inr ⟨k, c, e, cellK x c e _ z⟩
  · obtain ⟨v, z⟩ := I.cell x c e
    exact ⟨v, cellK x c e v z⟩
  · obtain ⟨m, ⟨o, _, _, ho, _⟩, _⟩ := I.loc
    exact free _ o (fun z => (hch _ z).2.1 rfl) ho I.free
  · obtain ⟨v, o, ho, hd⟩ := I.cell x c e
    exact free c o (fun z => (hch c z).2.2.1 x c e rfl) ho (I.freeC x c e)
  · obtain ⟨e, n, ne, nf, d⟩ := I.pin p hp
    have nch : p.1 ∉ ch := fun z => (hch p.1 z).2.2.2 p hp rfl
    exact ⟨keep p.1 p.2 ne nf nch e n, free p.1 p.2 nch e n, ne, nf, d⟩
/-- .. where the frame's own object is kept too -/
theorem Inv.un {t' : Nat} (I : Inv X pins σ H s) (u : Un X.fs [] H H' s.heap h') (hok : HOk X.prog X.w H' h') : Inv X pins σ H' { s with heap := h', toks := t' } := by
  obtain ⟨m, ⟨o, es, ep, ho, r⟩, _⟩ := id I.loc
  obtain ⟨sl, hL⟩ := u.any ho I.free (by simp)
  exact I.step (g' := s.gens) (d' := s.drawn) (ch := []) (fun _ z => nomatch z) (fun b o _ hb _ e n => u.keep b o e n hb (by simp)) (fun b o _ hb _ e n => u.slot b o e n hb (by simp)) (fun b o _ e n => u.free b o e n (by simp)) (fun b o _ e => u.there b o e (by simp)) u.tups u.frzs u.tbls (fun m' hm => by
    obtain ⟨o', es', ep', ho', r'⟩ := hm
    rw [ho] at ho'; cases ho'
    exact ⟨_, es', ep', hL, r'⟩) hok I.bare
/-- behind a call (or a comprehension's block): the slots of this frame may have changed too, the records at ch may have turned -/
theorem Inv.call {g' : Array GenState} {t' : Nat} {d' : Drawn} {ch : List Addr} (I : Inv X pins σ H s) (u : Un (frs X.stack) ch H H' s.heap h') (hok : HOk X.prog X.w H' h') (hg : AllBare g')
    (hch : ∀ b ∈ ch, (b ∈ X.ex ∨ X.s_0.heap.objs.size ≤ b) ∧ b ≠ X.env.locals ∧ (∀ x c, X.env.cells.lookup x = some c → c ≠ b) ∧ ∀ p ∈ X.pn ++ pins, p.1 ≠ b) :
    Inv X pins σ H' { s with heap := h', gens := g', drawn := d', toks := t' } := by
  obtain ⟨m, ⟨o, es, ep, ho, r⟩, _⟩ := id I.loc
  obtain ⟨sl, hL⟩ := u.any ho I.free fun z => (hch _ z).2.1 rfl
  exact I.step (ch := ch) hch (fun b o hL hb hc e n => u.keep b o e n (fun z => (List.mem_cons.mp (I.stkSub b z)).elim hL hb) hc) (fun b o _ _ hc e n => u.any e n hc) (fun b o hc e n => u.free b o e n hc) (fun b o hc e => u.there b o e hc) u.tups u.frzs u.tbls (fun m' hm => by
    obtain ⟨o', es', ep', ho', r'⟩ := hm
    rw [ho] at ho'; cases ho'
    exact ⟨_, es', ep', hL, r'⟩) hok hg
/-- an untracked record of ours (an iterator) has turned -/
theorem Inv.turned {t' : Nat} {it : Addr} (I : Inv X pins σ H s) (k : ∀ b o, b ≠ it → s.heap.get? b = some o → h'.get? b = some o) (hn : H it = none) (hL : it ≠ X.env.locals)
    (h1 : it ∈ X.ex ∨ X.s_0.heap.objs.size ≤ it) (h2 : ∀ x c, X.env.cells.lookup x = some c → c ≠ it) (h3 : ∀ p ∈ X.pn ++ pins, p.1 ≠ it) : Inv X pins σ H { s with heap := h', toks := t' } := by
  have nit : ∀ b u, H b = some u → b ≠ it := fun b u e z => by rw [z, hn] at e; cases e
  refine I.step (g' := s.gens) (d' := s.drawn) (ch := [it]) (fun b hb => ?_) (fun b o _ _ hc e _ => k b o (fun z => hc (by simp [z])) e) (fun b o _ _ hc e _ => ⟨o.slots, k b o (fun z => hc (by simp [z])) e⟩) (fun _ _ _ _ n => n)
    (fun b o hc e => ⟨o, k b o (fun z => hc (by simp [z])) e⟩) (fun _ _ e => e) (fun _ _ _ e => e) (fun b ps e => ⟨#[], by rw [e]; simp⟩) (fun m hm => ?_) (fun b u e => ?_) I.bare
  · have e : b = it := by simpa using hb
    subst e
    exact ⟨h1, hL, h2, h3⟩
  · obtain ⟨o, es, ep, ho, r⟩ := hm
    exact ⟨o, es, ep, k _ o (Ne.symm hL) ho, r⟩
  · refine (I.hok b u e).stay (fun c v hc q => k c v ?_ q) (fun _ q => q) fun _ _ q => q
    rcases hc with z | z
    · rw [z]; exact nit b u e
    · exact nit c _ z
theorem Inv.tok (I : Inv X pins σ H s) (t : Nat) : Inv X pins σ H { s with toks := t } := I.un (h' := s.heap) (t' := t) Un.refl I.hok
/-- all objects kept -/
theorem Inv.kept {t' : Nat} (I : Inv X pins σ H s) (k : ∀ b u, s.heap.get? b = some u → h'.get? b = some u) : Inv X pins σ H { s with heap := h', toks := t' } := I.un (Un.kept k) (I.hok.kept k)
/-- a new object laid and tracked -/
theorem Inv.laid {a : Addr} {o : HO} {t' : Nat} (I : Inv X pins σ H s) (k : ∀ b u, s.heap.get? b = some u → h'.get? b = some u) (hp : s.heap.objs.size ≤ a) (new : ObjOk X.prog X.w (upd H a o) h' a o) :
    Inv X pins σ (upd H a o) { s with heap := h', toks := t' } := I.un (Un.laid k hp (I.hok.fresh hp)) (I.hok.laid k hp new)
/-- an object written -/
theorem Inv.write {x e : Addr} {o : HO} {t' : Nat} (I : Inv X pins σ H s) (mu : Mut (H x)) (he : e = x ∨ H e = some (.own x)) (k : ∀ b u, b ≠ e → s.heap.get? b = some u → h'.get? b = some u) (heo : ∃ u, h'.get? e = some u)
    (new : ObjOk X.prog X.w (upd H x o) h' x o) : Inv X pins σ (upd H x o) { s with heap := h', toks := t' } := I.un (Un.write mu he k heo) (I.hok.write mu he k heo new)
/-- forgetting slots, pins -/
theorem Inv.weak {σ' : List (Option V)} (I : Inv X pins σ H s) (hl : σ'.length = σ.length) (w : ∀ (i : Nat) v, σ'[i]? = some (some v) → σ[i]? = some (some v)) : Inv X pins σ' H s :=
  ⟨I.ok, I.os, I.bare, I.base, let ⟨m, hn, hl'⟩ := I.loc; ⟨m, hn, fun i x v e1 e2 e3 => hl' i x v e1 (w i v e2) e3⟩, I.cell, I.free, I.freeC, I.pin, I.hok, hl.trans I.len⟩
theorem Inv.pins_of {pins' : List (Addr × Obj)} (I : Inv X pins σ H s) (h : ∀ p ∈ pins', s.heap.get? p.1 = some p.2 ∧ H p.1 = none ∧ p.1 ≠ X.env.locals ∧ p.1 ∉ X.fs ∧ ∀ v, p.2.data ≠ .cell v) : Inv X pins' σ H s :=
  ⟨I.ok, I.os, I.bare, I.base, I.loc, I.cell, I.free, I.freeC, fun p hp => (List.mem_append.mp hp).elim (fun z => I.pin p (List.mem_append_left _ z)) (h p), I.hok, I.len⟩

theorem nodup_ix {N : List Str} (hN : N.Nodup) {i j : Nat} {x : Str} (a : N[i]? = some x) (b : N[j]? = some x) : i = j := by
  obtain ⟨h1, e1⟩ := List.getElem?_eq_some_iff.mp a
  obtain ⟨h2, e2⟩ := List.getElem?_eq_some_iff.mp b
  exact (List.getElem_inj hN).mp (e1.trans e2.symm)

/-- a name is stored; what changed -/
theorem store_ok2 {M : Model} {A : Around} {E : Value → Shared → Prop} {i : Nat} {x : Str} {v : V} {u : Value} {Q : Unit → Shared → Prop} (I : Inv X pins σ H s) (hN : X.N.Nodup) (hi : X.N[i]? = some x) (hx : Loc X.env.scope x) (r : RelV v u)
    (h : ∀ s', Inv X pins (σ.set i (some v)) H s' → (∃ a, Heap.SameBut a s.heap s'.heap ∧ (a = X.env.locals ∨ X.env.cells.lookup x = some a)) → Q () s') (hf : X.fn x = true ∨ X.env.scope.names.lookup x = some .local := by first | exact .inl rfl | exact .inr rfl | assumption) : wpAny M A (storeName X.env x u) Q E s := by
  obtain ⟨m, hn, hl⟩ := id I.loc
  have hcls : (X.env.scope.kind == .class || (X.env.scope.kind == .module && X.env.locals != X.env.globals)) = false := by rw [I.ok.kind]; rfl
  have hiσ : i < σ.length := by rw [I.len]; exact (List.getElem?_eq_some_iff.mp hi).1
  have cne := I.cne
  have tracked : ∀ {a : Addr} {h' : Heap}, (∃ o, s.heap.get? a = some o ∧ H a = none) → Heap.SameBut a s.heap h' → HOk X.prog X.w H h' := fun {a h'} ha hs b ob e => by
    obtain ⟨_, _, hfree⟩ := ha
    refine (I.hok b ob e).stay (fun c w' hc q => (hs.2 c ?_).trans q) (fun _ q => q) fun _ _ q => q
    rintro rfl
    rcases hc with rfl | hc
    · rw [hfree] at e; cases e
    · rw [hfree] at hc; cases hc
  rcases hx with hk | hk
  · refine wpAny_storeName_local hk hn (fun h' hn' hs => ?_) hcls
    obtain ⟨oL, _, _, hoL, _⟩ := id hn
    refine h _ ⟨I.ok, I.os, I.bare, ⟨fun b o e n hb hx => ?_, fun b o e n hb hx => ?_, I.base.free, fun b o e hx => ?_, I.base.tups, I.base.frzs, I.base.tbls⟩, ⟨_, hn', fun j y v' e1 e2 e3 => ?_⟩, fun y c e => ?_, I.free, I.freeC, fun p hp => ?_, tracked ⟨oL, hoL, I.free⟩ hs, by simpa using I.len⟩ ⟨_, hs, .inl rfl⟩
    · exact (hs.2 b (Nat.ne_of_lt (Nat.lt_of_lt_of_le (Heap.lt_size e) I.ok.above))).trans (I.base.keep b o e n hb hx)
    · obtain ⟨sl, e1⟩ := I.base.slot b o e n hb hx
      exact ⟨sl, (hs.2 b (Nat.ne_of_lt (Nat.lt_of_lt_of_le (Heap.lt_size e) I.ok.above))).trans e1⟩
    · obtain ⟨o', e1⟩ := I.base.there b o e hx
      exact ⟨o', (hs.2 b (Nat.ne_of_lt (Nat.lt_of_lt_of_le (Heap.lt_size e) I.ok.above))).trans e1⟩
    · by_cases hj : j = i
      · subst hj
        rw [hi] at e1; cases e1
        rw [List.getElem?_set_self hiσ] at e2
        cases e2
        exact ⟨u, r, .inl ⟨hk, by simp⟩⟩
      · rw [List.getElem?_set_ne (Ne.symm hj)] at e2
        obtain ⟨u', r', q⟩ := hl j y v' e1 e2 e3
        refine ⟨u', r', ?_⟩
        rcases q with ⟨k, e⟩ | ⟨k, c, e, z⟩
        · refine .inl ⟨k, ?_⟩
          have : y ≠ x := fun e => hj (nodup_ix hN e1 (e ▸ hi))
          simp [this, e]
        · exact .inr ⟨k, c, e, z.sameBut hs (cne y c e)⟩
    · obtain ⟨w', z⟩ := I.cell y c e
      exact ⟨w', z.sameBut hs (cne y c e)⟩
    · obtain ⟨e, n, ne, nf, d⟩ := I.pin p hp
      exact ⟨(hs.2 p.1 ne).trans e, n, ne, nf, d⟩
  · have hfn : X.fn x = true := by
      rcases hf with z | z
      · exact z
      · rw [z] at hk; cases hk
    obtain ⟨c, hc⟩ := I.ok.has x (.inl hk)
    obtain ⟨w', z⟩ := I.cell x c hc
    refine wpAny_storeName_cell I.ok.kind hk hc z (fun h' hc' hs => ?_)
    obtain ⟨oc, hoc, hocd⟩ := id z
    refine h { s with heap := h' } ⟨I.ok, I.os, I.bare, ⟨fun b o e n hb hx => ?_, fun b o e n hb hx => ?_, I.base.free, fun b o e hx => ?_, I.base.tups, I.base.frzs, I.base.tbls⟩, ⟨m, hn.sameBut hs (Ne.symm (cne x c hc)), fun j y v' e1 e2 e3 => ?_⟩, fun y c' e => ?_, I.free, I.freeC, fun p hp => ?_, tracked ⟨oc, hoc, I.freeC x c hc⟩ hs, by simpa using I.len⟩ ⟨c, hs, .inr hc⟩
    · exact (hs.2 b (Nat.ne_of_lt (Nat.lt_of_lt_of_le (Heap.lt_size e) (I.ok.cab x c hfn hc)))).trans (I.base.keep b o e n hb hx)
    · obtain ⟨sl, e1⟩ := I.base.slot b o e n hb hx
      exact ⟨sl, (hs.2 b (Nat.ne_of_lt (Nat.lt_of_lt_of_le (Heap.lt_size e) (I.ok.cab x c hfn hc)))).trans e1⟩
    · obtain ⟨o', e1⟩ := I.base.there b o e hx
      exact ⟨o', (hs.2 b (Nat.ne_of_lt (Nat.lt_of_lt_of_le (Heap.lt_size e) (I.ok.cab x c hfn hc)))).trans e1⟩
    · by_cases hj : j = i
      · subst hj
        rw [hi] at e1; cases e1
        rw [List.getElem?_set_self hiσ] at e2
        cases e2
        exact ⟨u, r, .inr ⟨.inl hk, c, hc, hc'⟩⟩
      · rw [List.getElem?_set_ne (Ne.symm hj)] at e2
        obtain ⟨u', r', q⟩ := hl j y v' e1 e2 e3
        refine ⟨u', r', ?_⟩
        rcases q with q | ⟨k, c', e, z'⟩
        · exact .inl q
        · refine .inr ⟨k, c', e, z'.sameBut hs ?_⟩
          rintro rfl
          exact hj (nodup_ix hN e1 (I.ok.inj _ _ _ e hc ▸ hi))
    · by_cases hcc : c' = c
      · subst hcc; exact ⟨_, hc'⟩
      · obtain ⟨w2, z2⟩ := I.cell y c' e
        exact ⟨w2, z2.sameBut hs hcc⟩
    · obtain ⟨e, n, ne, nf, d⟩ := I.pin p hp
      refine ⟨(hs.2 p.1 ?_).trans e, n, ne, nf, d⟩
      intro q
      rw [q, hoc] at e
      have q' : oc = p.2 := Option.some.inj e
      exact d w' (by rw [← q']; exact hocd)
theorem store_ok {M : Model} {A : Around} {E : Value → Shared → Prop} {i : Nat} {x : Str} {v : V} {u : Value} {Q : Unit → Shared → Prop} (I : Inv X pins σ H s) (hN : X.N.Nodup) (hi : X.N[i]? = some x) (hx : Loc X.env.scope x) (r : RelV v u)
    (h : ∀ s', Inv X pins (σ.set i (some v)) H s' → Q () s') (hf : X.fn x = true ∨ X.env.scope.names.lookup x = some .local := by first | exact .inl rfl | exact .inr rfl | assumption) : wpAny M A (storeName X.env x u) Q E s :=
  store_ok2 I hN hi hx r (fun s' I' _ => h s' I') hf
/-- behind a call or a block, the state as it is -/
theorem Inv.call' {s' : Shared} {ch : List Addr} (I : Inv X pins σ H s) (ho : s'.os = s.os) (u : Un (frs X.stack) ch H H' s.heap s'.heap) (hok : HOk X.prog X.w H' s'.heap) (hg : AllBare s'.gens)
    (hch : ∀ b ∈ ch, (b ∈ X.ex ∨ X.s_0.heap.objs.size ≤ b) ∧ b ≠ X.env.locals ∧ (∀ x c, X.env.cells.lookup x = some c → c ≠ b) ∧ ∀ p ∈ X.pn ++ pins, p.1 ≠ b) : Inv X pins σ H' s' := by
  obtain ⟨h', g', d', t', o'⟩ := s'
  have e : o' = s.os := ho
  subst e
  exact I.call (g' := g') (t' := t') (d' := d') u hok hg hch
end

/-! ### the judgements -/
/-- an exception: its class, its own dict's address (where it has one), the abstract heap behind it -/
abbrev XK := Value → Option Addr → Hp → Prop
abbrev St := List (Option V)
abbrev VK := V → Hp → Prop
/-- an expression's reading; a test's; an argument list's -/
abbrev TE := St → Hp → VK → Prop
abbrev TT := St → Hp → (Bool → Hp → Prop) → Prop
abbrev TA := St → Hp → (List V → Hp → Prop) → Prop
/-- what is wanted behind a statement -/
structure Ends where
  nx : St → Hp → Prop
  rt : VK
  bk : St → Hp → Prop := fun _ _ => False
  ct : St → Hp → Prop := fun _ _ => False
abbrev TS := Ends → St → Hp → Prop

def EP (X : Cx) (pins : List (Addr × Obj)) (σ : St) (Q : VK) (u : Value) (s' : Shared) : Prop := ∃ v H', Inv X pins σ H' s' ∧ RelV v u ∧ Q v H'
def TP (X : Cx) (pins : List (Addr × Obj)) (σ : St) (Q : Bool → Hp → Prop) (b : Bool) (s' : Shared) : Prop := ∃ H', Inv X pins σ H' s' ∧ Q b H'
def AP (X : Cx) (pins : List (Addr × Obj)) (σ : St) (Q : List V → Hp → Prop) (us : List Value) (s' : Shared) : Prop := ∃ vs H', Inv X pins σ H' s' ∧ Vals vs us ∧ Q vs H'
def SP (X : Cx) (pins : List (Addr × Obj)) (D : Ends) (f : Flow) (s' : Shared) : Prop :=
  match f with
  | .next => ∃ σ' H', Inv X pins σ' H' s' ∧ D.nx σ' H'
  | .brk => ∃ σ' H', Inv X pins σ' H' s' ∧ D.bk σ' H'
  | .cont => ∃ σ' H', Inv X pins σ' H' s' ∧ D.ct σ' H'
  | .ret u => ∃ v σ' H', Inv X pins σ' H' s' ∧ RelV v u ∧ D.rt v H'

def PE (X : Cx) (e : Expr) (t : TE) : Prop :=
  ∀ (pins : List (Addr × Obj)) (s : Shared) (σ : St) (H : Hp) (Q : VK), Inv X pins σ H s → t σ H Q → wpAny (model X.prog X.w) X.A (eval e X.env) (EP X pins σ Q) X.xe s
def PT (X : Cx) (e : Expr) (t : TT) : Prop :=
  ∀ (pins : List (Addr × Obj)) (s : Shared) (σ : St) (H : Hp) (Q : Bool → Hp → Prop), Inv X pins σ H s → t σ H Q → wpAny (model X.prog X.w) X.A (isTrue e X.env (eval e X.env)) (TP X pins σ Q) X.xe s
/-- a test whatever its 'whole' is (and, or) -/
def PW (X : Cx) (e : Expr) (t : TT) : Prop :=
  ∀ (whole : Sem Value) (pins : List (Addr × Obj)) (s : Shared) (σ : St) (H : Hp) (Q : Bool → Hp → Prop), Inv X pins σ H s → t σ H Q → wpAny (model X.prog X.w) X.A (isTrue e X.env whole) (TP X pins σ Q) X.xe s
theorem PW.pt {X : Cx} {e : Expr} {t : TT} (h : PW X e t) : PT X e t := h _
/-- an argument list (no star), from the left -/
def PA (X : Cx) (es : List Expr) (t : TA) : Prop :=
  ∀ (pos : Pos) (pins : List (Addr × Obj)) (s : Shared) (σ : St) (H : Hp) (Q : List V → Hp → Prop), Inv X pins σ H s → t σ H Q → wpAny (model X.prog X.w) X.A (spliced (backTo pos (starEach es X.env))) (AP X pins σ Q) X.xe s
def PS (X : Cx) (st : Stmt) (t : TS) : Prop :=
  ∀ (pins : List (Addr × Obj)) (s : Shared) (σ : St) (H : Hp) (D : Ends), Inv X pins σ H s → t D σ H → wpAny (model X.prog X.w) X.A (exec st X.env) (SP X pins D) X.xe s
def PSs (X : Cx) (st : List Stmt) (t : TS) : Prop :=
  ∀ (pins : List (Addr × Obj)) (s : Shared) (σ : St) (H : Hp) (D : Ends), Inv X pins σ H s → t D σ H → wpAny (model X.prog X.w) X.A (execs st X.env) (SP X pins D) X.xe s
/-- weaken the end -/
theorem thn {α : Type} {t : Sem α} {Q Q' : α → Shared → Prop} {M : Model} {A : Around} {E : Value → Shared → Prop} {s : Shared} (h : wpAny M A t Q E s) (hQ : ∀ a s, Q a s → Q' a s) : wpAny M A t Q' E s := wpAny_mono h hQ fun _ _ x => x
end L2

namespace L2
open PySem PySem.Spec PyProof.Rows
section
variable {X : Cx}

/-! ### names and constants -/
def tVar (i : Nat) : TE := fun σ H Q => ∃ v, σ[i]? = some (some v) ∧ Q v H
def tC (v : V) : TE := fun _ H Q => Q v H
theorem pe_var {i : Nat} {x : Str} {pos : Pos} (hN : X.N[i]? = some x) (hv : Vis X.env.scope x) (hd : (x == ("__debug__" : Str)) = false := by decide) (hcd : (x == ("__classdict__" : Str)) = false := by decide) : PE X (.Name x pos) (tVar i) := by
  intro pins s σ H Q I h
  obtain ⟨v, e, h⟩ := h
  obtain ⟨m, hn, hl⟩ := I.loc
  obtain ⟨u, r, l⟩ := hl i x v hN e hv
  have fin : EP X pins σ Q u s := ⟨v, H, I, r, h⟩
  rcases l with ⟨hk, hm⟩ | ⟨hk, c, hc, hcell⟩
  · exact wpAny_Name (wpAny_loadName_local I.ok.kind hk hn hm fin) hd
  · rcases hk with hk | hk
    · exact wpAny_Name (wpAny_loadName_cell I.ok.kind hk hc hcell fin) hd
    · exact wpAny_Name (wpAny_loadName_free I.ok.kind hk hc hcell fin hcd) hd
theorem pe_int {i j pos} : PE X (.Constant (.int i) j pos) (tC (.int i)) := fun _ _ _ H _ I h => wpAny_Constant_int ⟨.int i, H, I.tok _, ⟨_, rfl⟩, h⟩
theorem pe_bl {b j pos} : PE X (.Constant (.bool b) j pos) (tC (.bl b)) := fun _ _ _ H _ I h => Constant_bool ⟨.bl b, H, I, rfl, h⟩
/-- a global name of the def -/
def Gl (X : Cx) (x : Str) : Prop := X.env.kindOf x = some .globalImplicit
theorem ld_glob {E : Value → Shared → Prop} {pins : List (Addr × Obj)} {s : Shared} {σ : St} {H : Hp} {x : Str} {u : Value} {pos : Pos} {Q : Value → Shared → Prop} (I : Inv X pins σ H s) (hg : Gl X x) (hm : X.mg x = some u) (h : Q u s)
    (hd : (x == ("__debug__" : Str)) = false := by decide) : wpAny (model X.prog X.w) X.A (eval (.Name x pos) X.env) Q E s :=
  Calls.Name_function_global I.ok.kind hg (Calls.loadGlobal_global (by rw [I.ok.glob]; exact I.mod.glob.keeps I.bk) hm h) hd
theorem ld_blt {E : Value → Shared → Prop} {pins : List (Addr × Obj)} {s : Shared} {σ : St} {H : Hp} {x : Str} {u : Value} {pos : Pos} {Q : Value → Shared → Prop} (I : Inv X pins σ H s) (hg : Gl X x) (hm : X.mg x = none) (hv : bootBuiltins x = some u) (h : Q u s)
    (hn : x ≠ "__name__" := by decide) (hd : (x == ("__debug__" : Str)) = false := by decide) : wpAny (model X.prog X.w) X.A (eval (.Name x pos) X.env) Q E s := by
  obtain ⟨mb, h1, h2⟩ := I.mod.blt
  exact Calls.Name_function_global I.ok.kind hg (Calls.loadGlobal_builtin (by rw [I.ok.glob]; exact I.mod.glob.keeps I.bk) hm (by rw [I.ok.blt]; exact h1.keeps I.bk) ((h2 x hn).trans hv) h) hd
/-- a module's constant, a class, a function, as a value -/
theorem pe_glob {x : Str} {v : V} {u : Value} {pos : Pos} (hg : Gl X x) (hm : X.mg x = some u) (r : RelV v u) (hd : (x == ("__debug__" : Str)) = false := by decide) : PE X (.Name x pos) (tC v) :=
  fun _ _ _ H _ I h => ld_glob I hg hm ⟨v, H, I, r, h⟩ hd
/-! ### arithmetic -/
variable {a b : Expr} {ta tb : TE} {pos : Pos}
/-! ### comparisons -/
/-- a comparison as a value, as a test -/
def tB (t : TE) : TT := fun σ H Q => t σ H fun x H1 => ∃ c, x = .bl c ∧ Q c H1
/-- an expression whose value is a bool, as a test -/
theorem pt_val {e : Expr} {t : TE} (h : PE X e t) (he : ∀ whole, isTrue e X.env whole = (do let v ← whole; standAt e.pos; holding [v] (truthy v)) := by intro _; rfl) : PT X e (tB t) := by
  intro pins s σ H Q I hw
  refine isTrue_plain (thn (h pins s σ H _ I hw) fun v s1 ⟨x, H1, I1, r1, q1⟩ => ?_) (he _)
  obtain ⟨d, rfl, q⟩ := q1
  cases r1
  exact wpAny_truthy_bool ⟨H1, I1, q⟩

/-! ### and, or, not -/
variable {tA tB' : TT} {rest : List Expr}
def tAnd (t u : TT) : TT := fun σ H Q => t σ H fun c H1 => if c = true then u σ H1 Q else Q false H1
def tOr (t u : TT) : TT := fun σ H Q => t σ H fun c H1 => if c = true then Q true H1 else u σ H1 Q
def tNot (t : TT) : TT := fun σ H Q => t σ H fun c H1 => Q (!c) H1
theorem pw_and1 (ha : PT X a tA) : PW X (.BoolOp .And [a] pos) tA := by
  intro wh pins s σ H Q I h
  refine isTrue_and (thn (ha pins s σ H Q I h) fun c s1 e => ?_)
  cases c with
  | true => exact isTrue_and_nil e
  | false => exact e
theorem pw_or1 (ha : PT X a tA) : PW X (.BoolOp .Or [a] pos) tA := by
  intro wh pins s σ H Q I h
  refine isTrue_or (thn (ha pins s σ H Q I h) fun c s1 e => ?_)
  cases c with
  | false => exact isTrue_or_nil e
  | true => exact e
theorem pw_and (ha : PT X a tA) (hb : PW X (.BoolOp .And (b :: rest) pos) tB') : PW X (.BoolOp .And (a :: b :: rest) pos) (tAnd tA tB') := by
  intro wh pins s σ H Q I h
  refine isTrue_and (thn (ha pins s σ H _ I h) fun c s1 ⟨H1, I1, q1⟩ => ?_)
  cases c with
  | true => exact hb wh pins s1 σ H1 Q I1 q1
  | false => exact ⟨H1, I1, q1⟩
theorem pw_or (ha : PT X a tA) (hb : PW X (.BoolOp .Or (b :: rest) pos) tB') : PW X (.BoolOp .Or (a :: b :: rest) pos) (tOr tA tB') := by
  intro wh pins s σ H Q I h
  refine isTrue_or (thn (ha pins s σ H _ I h) fun c s1 ⟨H1, I1, q1⟩ => ?_)
  cases c with
  | true => exact ⟨H1, I1, q1⟩
  | false => exact hb wh pins s1 σ H1 Q I1 q1
theorem pt_not (ha : PT X a tA) : PT X (.UnaryOp .Not a pos) (tNot tA) := by
  intro pins s σ H Q I h
  exact isTrue_not (ha pins s σ H (fun c H1 => Q (!c) H1) I h)
/-- a if t else b -/
def tIf (t : TT) (ta tb : TE) : TE := fun σ H Q => t σ H fun c H1 => if c = true then ta σ H1 Q else tb σ H1 Q
theorem pe_ifExp {c : Expr} (hc : PT X c tA) (ha : PE X a ta) (hb : PE X b tb) : PE X (.IfExp c a b pos) (tIf tA ta tb) := by
  intro pins s σ H Q I h
  refine wpAny_IfExp (thn (hc pins s σ H _ I h) fun d s1 ⟨H1, I1, q1⟩ => ?_)
  cases d with
  | true => exact ha pins s1 σ H1 Q I1 q1
  | false => exact hb pins s1 σ H1 Q I1 q1
end
end L2

namespace L2
open PySem PySem.Spec PyProof.Rows

/-! ### a list, a tuple that is read: tracked, frozen, or an object of the module -/
def SqL (K : PySem.W.Frag) (H : Hp) (a : Addr) (xs : List V) : Prop :=
  Rd H a (.lst xs) ∨
    ∃ (o : Obj) (its : Array Value) (n : Nat), K.lookup a = some o ∧ o.cls = .type "list" ∧ o.dict = none ∧ o.data = .seq its n ∧ its.size ≤ sizeLine ∧ Vals xs its.toList
def SqT (K : PySem.W.Frag) (H : Hp) (a : Addr) (xs : List V) : Prop :=
  Rd H a (.tup xs) ∨
    ∃ (o : Obj) (its : Array Value) (n : Nat), K.lookup a = some o ∧ o.cls = .type "tuple" ∧ o.data = .seq its n ∧ its.size ≤ sizeLine ∧ Vals xs its.toList
def absV : Value → Option V
  | .none => some .non
  | .bool b => some (.bl b)
  | .int i _ => some (.int i)
  | .str x _ => some (.str x)
  | .bytes b _ => some (.byt b)
  | .float b _ => some (.flt b)
  | .ref a => some (.ref a)
  | .type n => some (.ty n)
  | _ => none
theorem RelV.abs {x : V} {u : Value} (r : RelV x u) : absV u = some x := by
  cases x with
  | non => cases r; rfl
  | bl _ => cases r; rfl
  | int _ => obtain ⟨t, rfl⟩ := r; rfl
  | str _ => obtain ⟨t, rfl⟩ := r; rfl
  | byt _ => obtain ⟨t, rfl⟩ := r; rfl
  | flt _ => obtain ⟨t, rfl⟩ := r; rfl
  | ref _ => cases r; rfl
  | ty _ => cases r; rfl
theorem RelV.inj {x y : V} {u : Value} (r : RelV x u) (q : RelV y u) : x = y := Option.some.inj (r.abs.symm.trans q.abs)
theorem Vals.inj : ∀ {xs ys : List V} {us : List Value}, Vals xs us → Vals ys us → xs = ys
  | _, _, _, .nil, .nil => rfl
  | _, _, _, .cons r t, .cons r' t' => by rw [r.inj r', Vals.inj t t']
section
variable {X : Cx} {pins : List (Addr × Obj)} {σ : St} {H : Hp} {s : Shared} {a : Addr} {xs ys : List V}
theorem SqL.of {K : PySem.W.Frag} (h : H a = some (.lst xs)) : SqL K H a xs := .inl (.inl h)
theorem SqT.of {K : PySem.W.Frag} (h : H a = some (.tup xs)) : SqT K H a xs := .inl (.inl h)
theorem Inv.list (I : Inv X pins σ H s) (h : SqL X.K H a xs) : ∃ its : List Value, Vals xs its ∧ PlainL s.heap a its.toArray ∧ xs.length ≤ sizeLine := by
  rcases h with h | ⟨o, its, n, hk, hc, hd, hs, hz, r⟩
  · obtain ⟨z, its, n, r, e⟩ := h.ok I.hok
    exact ⟨its, r, ⟨_, n, e, rfl, rfl, rfl⟩, z⟩
  · refine ⟨its.toList, r, ⟨o, n, I.kIn a o hk, hc, hd, by simpa using hs⟩, ?_⟩
    have e := r.length
    simp only [Array.length_toList] at e
    omega
theorem Inv.tuple (I : Inv X pins σ H s) (h : SqT X.K H a xs) : ∃ its : List Value, Vals xs its ∧ IsTup s.heap a its.toArray ∧ xs.length ≤ sizeLine := by
  rcases h with h | ⟨o, its, n, hk, hc, hs, hz, r⟩
  · obtain ⟨z, its, r, p⟩ := h.ok I.hok
    exact ⟨its, r, p, z⟩
  · refine ⟨its.toList, r, ⟨o, I.kIn a o hk, hc, n, by simpa using hs⟩, ?_⟩
    have e := r.length
    simp only [Array.length_toList] at e
    omega
theorem Inv.list_inj (I : Inv X pins σ H s) (h : SqL X.K H a xs) (h' : SqL X.K H a ys) : xs = ys := by
  obtain ⟨its, r, ⟨o, n, e, _, _, d⟩, _⟩ := I.list h
  obtain ⟨its', r', ⟨o', n', e', _, _, d'⟩, _⟩ := I.list h'
  rw [e] at e'; cases e'
  rw [d] at d'
  injection d' with d1 _
  have : its = its' := by simpa using congrArg Array.toList d1
  subst this
  exact r.inj r'
end

/-! ### another wish about exceptions -/
abbrev Cx.wish (X : Cx) (E : Value → Shared → Prop) : Cx := { X with xe := E }
/-- no exception leaves -/
abbrev Cx.nox (X : Cx) : Cx := X.wish fun _ _ => False
theorem Cx.Ok.wish {X : Cx} (ok : X.Ok) (E : Value → Shared → Prop) : (X.wish E).Ok :=
  ⟨ok.mod, ok.kind, ok.glob, ok.blt, ok.above, ok.inj, ok.has, ok.cab, ok.hd, ok.frames, ok.stk, ok.exf, ok.bs, ok.bsz, ok.noex, ok.exfs, ok.funs, ok.frf⟩
theorem Cx.Ok.unwish {X : Cx} {E : Value → Shared → Prop} (ok : (X.wish E).Ok) : X.Ok :=
  ⟨ok.mod, ok.kind, ok.glob, ok.blt, ok.above, ok.inj, ok.has, ok.cab, ok.hd, ok.frames, ok.stk, ok.exf, ok.bs, ok.bsz, ok.noex, ok.exfs, ok.funs, ok.frf⟩
section
variable {X : Cx} {pins : List (Addr × Obj)} {σ : St} {H : Hp} {s : Shared} {E : Value → Shared → Prop}
theorem Inv.wish (I : Inv X pins σ H s) (E : Value → Shared → Prop) : Inv (X.wish E) pins σ H s := ⟨I.ok.wish E, I.os, I.bare, I.base, I.loc, I.cell, I.free, I.freeC, I.pin, I.hok, I.len⟩
theorem Inv.unwish (I : Inv (X.wish E) pins σ H s) : Inv X pins σ H s := ⟨I.ok.unwish, I.os, I.bare, I.base, I.loc, I.cell, I.free, I.freeC, I.pin, I.hok, I.len⟩
theorem SP.unwish {D : Ends} {f : Flow} {s' : Shared} (h : SP (X.wish E) pins D f s') : SP X pins D f s' := by
  cases f with
  | next => obtain ⟨σ', H', I, q⟩ := h; exact ⟨σ', H', I.unwish, q⟩
  | brk => obtain ⟨σ', H', I, q⟩ := h; exact ⟨σ', H', I.unwish, q⟩
  | cont => obtain ⟨σ', H', I, q⟩ := h; exact ⟨σ', H', I.unwish, q⟩
  | ret u => obtain ⟨v, σ', H', I, r, q⟩ := h; exact ⟨v, σ', H', I.unwish, r, q⟩
theorem PSs.nox {st : List Stmt} {t : TS} (h : PSs X.nox st t) : PSs X st t := fun pins s σ H D I hw =>
  wpAny_mono (h pins s σ H D (I.wish _) hw) (fun _ _ q => q.unwish) fun _ _ z => False.elim z
end

/-! ### blocks and small statements -/
section
variable {X : Cx} {st : Stmt} {rest : List Stmt} {t u : TS} {e : Expr} {te : TE} {pos : Pos}
def tNext : TS := fun D σ H => D.nx σ H
def tSeq (t u : TS) : TS := fun D σ H => t { D with nx := u D } σ H
theorem pss_nil : PSs X [] tNext := fun _ _ σ H _ I h => wpAny_execs_nil ⟨σ, H, I, h⟩
theorem pss_cons (h1 : PS X st t) (h2 : PSs X rest u) : PSs X (st :: rest) (tSeq t u) := by
  intro pins s σ H D I h
  refine wpAny_execs_cons (thn (h1 pins s σ H { D with nx := u D } I h) fun f s1 q => ?_)
  cases f with
  | next =>
    obtain ⟨σ', H', I', q⟩ := q
    exact h2 pins s1 σ' H' D I' q
  | ret v => exact q
  | brk => exact q
  | cont => exact q
theorem pss_one (h1 : PS X st t) : PSs X [st] t := by
  intro pins s σ H D I h
  refine wpAny_execs_cons (thn (h1 pins s σ H D I h) fun f s1 q => ?_)
  cases f with
  | next => exact wpAny_execs_nil q
  | ret v => exact q
  | brk => exact q
  | cont => exact q
def tBreak : TS := fun D σ H => D.bk σ H
theorem ps_break : PS X (.Break pos) tBreak := fun _ _ σ H _ I h => wpAny_Break ⟨σ, H, I, h⟩
/-- in a def's body nothing is shown -/
theorem Inv.quiet {pins : List (Addr × Obj)} {σ : St} {H : Hp} {s : Shared} (I : Inv X pins σ H s) : interactive X.env = false := by simp [interactive, I.ok.kind]
/-- an expression whose value is dropped -/
def tDrop (te : TE) : TS := fun D σ H => te σ H fun _ H1 => D.nx σ H1
theorem ps_expr (he : PE X e te) (hs : swapsWith e none pos.line X.env = pure false := by rfl) : PS X (.Expr e pos) (tDrop te) := by
  intro pins s σ H D I h
  exact wpAny_Expr_any (thn (he pins s σ H _ I h) fun v s1 ⟨x, H1, I1, r1, q1⟩ => ⟨σ, H1, I1, q1⟩) I.quiet hs
def tRet (te : TE) : TS := fun D σ H => te σ H D.rt
theorem ps_ret (he : PE X e te) : PS X (.Return (some e) pos) (tRet te) := by
  intro pins s σ H D I h
  exact wpAny_Return_some (thn (he pins s σ H _ I h) fun v s1 ⟨x, H1, I1, r1, q1⟩ => ⟨x, σ, H1, I1, r1, q1⟩)
def tIfS (c : TT) (t u : TS) : TS := fun D σ H => c σ H fun b H1 => if b = true then t D σ H1 else u D σ H1
theorem ps_if {c : Expr} {a b : List Stmt} {tc : TT} (hc : PT X c tc) (ha : PSs X a t) (hb : PSs X b u) : PS X (.If c a b pos) (tIfS tc t u) := by
  intro pins s σ H D I h
  refine wpAny_If (thn (hc pins s σ H _ I h) fun d s1 ⟨H1, I1, q1⟩ => ?_)
  cases d with
  | true => exact ha pins s1 σ H1 D I1 q1
  | false => exact hb pins s1 σ H1 D I1 q1
/-- code that the proof never comes to -/
def tNever : TS := fun _ _ _ => False
theorem ps_never : PS X st tNever := fun _ _ _ _ _ _ h => h.elim
end

/-! ### targets -/
abbrev TG := V → St → Hp → (St → Hp → Prop) → Prop
abbrev TGs := List V → St → Hp → (St → Hp → Prop) → Prop
def PG (X : Cx) (target : Expr) (t : TG) : Prop :=
  ∀ (pins : List (Addr × Obj)) (s : Shared) (σ : St) (H : Hp) (v : V) (u : Value) (Q : St → Hp → Prop), Inv X pins σ H s → RelV v u → t v σ H Q →
    wpAny (model X.prog X.w) X.A (assign target X.env u) (fun _ s' => ∃ σ' H', Inv X pins σ' H' s' ∧ Q σ' H') X.xe s
/-- several targets, one after another -/
def PGs (X : Cx) (ts : List Expr) (t : TGs) : Prop :=
  ∀ (pins : List (Addr × Obj)) (s : Shared) (σ : St) (H : Hp) (vs : List V) (us : List Value) (Q : St → Hp → Prop), Inv X pins σ H s → Vals vs us → t vs σ H Q →
    wpAny (model X.prog X.w) X.A (assignInOrder ((assignEach ts X.env).map (·.2)) us) (fun _ s' => ∃ σ' H', Inv X pins σ' H' s' ∧ Q σ' H') X.xe s
section
variable {X : Cx} {pos : Pos}
def gName (i : Nat) : TG := fun v σ H Q => Q (σ.set i (some v)) H
theorem pg_name {i : Nat} {x : Str} (hN : X.N.Nodup) (hi : X.N[i]? = some x) (hx : Loc X.env.scope x) (hf : X.fn x = true ∨ X.env.scope.names.lookup x = some .local := by first | exact .inl rfl | exact .inr rfl | assumption) : PG X (.Name x pos) (gName i) := by
  intro pins s σ H v u Q I r h
  exact wpAny_assign_Name (store_ok I hN hi hx r (fun s' I' => ⟨_, H, I', h⟩) hf)
def gNil : TGs := fun vs σ H Q => vs = [] ∧ Q σ H
def gCons (t : TG) (u : TGs) : TGs := fun vs σ H Q => ∃ v r, vs = v :: r ∧ t v σ H fun σ' H' => u r σ' H' Q
theorem pgs_nil : PGs X [] gNil := by
  intro pins s σ H vs us Q I r h
  obtain ⟨e, h⟩ := h
  subst e
  cases r
  exact assignInOrder_nil ⟨σ, H, I, h⟩
theorem pgs_cons {e : Expr} {es : List Expr} {t : TG} {u : TGs} (h1 : PG X e t) (h2 : PGs X es u)
    (hs : (assignEach (e :: es) X.env).map (·.2) = assign e X.env :: (assignEach es X.env).map (·.2) := by rfl) : PGs X (e :: es) (gCons t u) := by
  intro pins s σ H vs us Q I r h
  obtain ⟨v, vr, e1, h⟩ := h
  subst e1
  cases r with
  | cons r rr =>
    rw [hs]
    refine assignInOrder_cons (thn (h1 pins s σ H _ _ _ I r h) fun _ s1 ⟨σ1, H1, I1, q1⟩ => ?_)
    exact h2 pins s1 σ1 H1 _ _ Q I1 rr q1
/-- (a, b, ..) = a tuple of that length -/
def gTup (K : PySem.W.Frag) (n : Nat) (t : TGs) : TG := fun v σ H Q => ∃ a xs, v = .ref a ∧ SqT K H a xs ∧ xs.length = n ∧ t xs σ H Q
theorem pg_tup {es : List Expr} {k : Nat} {t : TGs} {n : Nat} (hc : X.calm = true) (h : PGs X es t)
    (hn : (assignEach es X.env).length = n := by rfl) (hst : (assignEach es X.env).findIdx? (·.1) = none := by rfl) : PG X (.Tuple es k pos) (gTup X.K n t) := by
  intro pins s σ H v u Q I r hw
  obtain ⟨a, xs, e1, hq, hl, hw⟩ := hw
  subst e1
  cases r
  obtain ⟨its, rv, ht, hz⟩ := I.tuple hq
  refine assign_Tuple_tuple (I.ok.hd hc) ht (by simp [hn, ← hl, rv.length]) hst fun h' hx => ?_
  have I1 : Inv X pins σ H { s with heap := h' } := I.kept (t' := s.toks) fun b o e => hx b o (Nat.ne_of_lt (Heap.lt_size e)) e
  exact h pins _ σ H xs _ Q I1 (by simpa using rv) hw
/-- target = value -/
def tAsg (te : TE) (g : TG) : TS := fun D σ H => te σ H fun x H1 => g x σ H1 D.nx
/-- name = value -/
theorem ps_set {i : Nat} {x : Str} {e : Expr} {te : TE} {pos' : Pos} (hN : X.N.Nodup) (hi : X.N[i]? = some x) (hx : Loc X.env.scope x) (he : PE X e te) (hs : swapsWith e (some (.Name x pos')) pos.line X.env = pure false := by rfl) (hf : X.fn x = true ∨ X.env.scope.names.lookup x = some .local := by first | exact .inl rfl | exact .inr rfl | assumption) :
    PS X (.Assign [.Name x pos'] e pos) (tAsg te (gName i)) := by
  intro pins s σ H D I h
  refine wpAny_Assign_Name (thn (he pins s σ H _ I h) fun v s1 ⟨y, H1, I1, r1, q1⟩ => ?_) hs
  exact store_ok I1 hN hi hx r1 (fun s2 I2 => ⟨_, H1, I2, q1⟩) hf
end

/-! ### while -/
section
variable {X : Cx} {pos : Pos}
/-- the invariant W with its measure -/
def tWhile (c : TT) (tb : TS) : TS := fun D σ H => ∃ W : Nat → St → Hp → Prop, (∃ m, W m σ H) ∧ ∀ m σ H, W m σ H →
  c σ H fun b H1 => if b = true then ∃ N : St → Hp → Prop, (∀ σ' H', N σ' H' → ∃ m', m' < m ∧ W m' σ' H') ∧ tb { D with nx := N, ct := N, bk := D.nx } σ H1 else D.nx σ H1
theorem ps_while {c : Expr} {body : List Stmt} {tc : TT} {tb : TS} (hp : PassesOwn (model X.prog X.w) X.A X.env X.xe) (hc : PT X c tc) (hb : PSs X body tb) : PS X (.While c body [] pos) (tWhile tc tb) := by
  intro pins s σ H D I h
  obtain ⟨W, ⟨m0, w0⟩, turn⟩ := h
  refine wpAny_While (codeAny_whileLoop (fun n s' => ∃ σ' H', Inv X pins σ' H' s' ∧ W n σ' H') ?_ m0 ⟨σ, H, I, w0⟩)
  rintro n s1 ⟨σ1, H1, I1, w1⟩
  refine wpAny_passesOwn hp (thn (hc pins s1 σ1 H1 _ I1 (turn n σ1 H1 w1)) fun b s2 ⟨H2, I2, q2⟩ => ?_)
  cases b with
  | true =>
    obtain ⟨N, hN, q2⟩ := q2
    rw [if_pos rfl]
    refine wpAny_passesOwn hp (thn (hb pins s2 σ1 H2 _ I2 q2) fun f s3 q3 => ?_)
    cases f with
    | next =>
      obtain ⟨σ3, H3, I3, n3⟩ := q3
      obtain ⟨m', hm, w3⟩ := hN σ3 H3 n3
      exact ⟨m', hm, σ3, H3, I3, w3⟩
    | cont =>
      obtain ⟨σ3, H3, I3, n3⟩ := q3
      obtain ⟨m', hm, w3⟩ := hN σ3 H3 n3
      exact ⟨m', hm, σ3, H3, I3, w3⟩
    | brk => exact q3
    | ret v => exact q3
  | false =>
    rw [if_neg Bool.false_ne_true]
    exact wpAny_execs_nil ⟨σ1, H2, I2, q2⟩
end

/-! ### what a loop or a comprehension walks -/
/-- at turn i: it yields x (the heap may grow), or it stops -/
structure It where
  go : Nat → Hp → Prop
  yld : Nat → Hp → V → Hp → Prop
  stop : Nat → Hp → Prop
/-- the iterator's own objects may turn: they are not the frame's, not pinned, younger than the entry (or a comprehension's own) -/
def FpOk (X : Cx) (pins : List (Addr × Obj)) (H : Hp) (b : Addr) : Prop :=
  H b = none ∧ b ≠ X.env.locals ∧ b ∉ X.fs ∧ (b ∈ X.ex ∨ X.s_0.heap.objs.size ≤ b) ∧ (∀ x c, X.env.cells.lookup x = some c → c ≠ b) ∧ ∀ p ∈ X.pn ++ pins, p.1 ≠ b
theorem Inv.fpOk {X : Cx} {pins : List (Addr × Obj)} {σ : St} {H H' : Hp} {s : Shared} {b : Addr} (I : Inv X pins σ H s) (hb : s.heap.objs.size ≤ b) (hn : H' b = none) : FpOk X pins H' b := by
  refine ⟨hn, Nat.ne_of_gt (Nat.lt_of_lt_of_le I.lt hb), I.nofs hb, .inr (Nat.le_trans I.sz hb), fun x c e z => ?_, fun p hp z => ?_⟩
  · obtain ⟨v, q⟩ := I.cell x c e
    exact absurd (Nat.lt_of_lt_of_le q.lt (by rw [z]; exact hb)) (Nat.lt_irrefl _)
  · exact absurd (Nat.lt_of_lt_of_le (Heap.lt_size (I.pin p hp).1) (by rw [z]; exact hb)) (Nat.lt_irrefl _)
structure Turn (P : Program) (w : World) (K : PySem.W.Frag) (tg : Expr) (J : It) (fp : List Addr) (it : Addr) (tn : Nat → Heap → Prop) : Prop where
  mem : it ∈ fp
  obj : ∀ i h, tn i h → ∀ b ∈ fp, ∃ o, h.get? b = some o ∧ ∀ v, o.data ≠ .cell v
  keep : ∀ i h h', tn i h → (∀ b ∈ fp, ∀ o, h.get? b = some o → h'.get? b = some o) → tn i h'
  item : ∀ (X : Cx), X.prog = P → X.w = w → X.K = K → X.calm = true → ∀ (i : Nat) (pins : List (Addr × Obj)) (s : Shared) (σ : St) (H : Hp) (E : Value → Shared → Prop), Inv X pins σ H s → (∀ b ∈ fp, FpOk X pins H b) → tn i s.heap → J.go i H →
    wpAny (model P w) X.A (pyNext (.ref it)) (fun r s1 => ∃ u, r = some u ∧
      wpAny (model P w) X.A (letOwnedTupleGo tg (.ref it) u) (fun _ s2 => ∃ x H', Inv X pins σ H' s2 ∧ RelV x u ∧ J.yld i H x H' ∧ tn (i + 1) s2.heap ∧ ∀ b ∈ fp, H' b = none) E s1) E s
  done : ∀ (X : Cx), X.prog = P → X.w = w → X.K = K → X.calm = true → ∀ (i : Nat) (pins : List (Addr × Obj)) (s : Shared) (σ : St) (H : Hp) (E : Value → Shared → Prop), Inv X pins σ H s → (∀ b ∈ fp, FpOk X pins H b) → tn i s.heap → J.stop i H →
    wpAny (model P w) X.A (pyNext (.ref it)) (fun r s1 => r = none ∧ Inv X pins σ H s1) E s
  self : ∀ (A : Around) (i : Nat) (s : Shared) (Q : Value → Shared → Prop) (E : Value → Shared → Prop), tn i s.heap → Q (.ref it) s → wpAny (model P w) A (pyIter (.ref it)) Q E s
abbrev TI := St → Hp → (It → Hp → Prop) → Prop
/-- an iterator has come -/
def PIE (X : Cx) (pins : List (Addr × Obj)) (σ : St) (tg : Expr) (R : It → Hp → Prop) (itv : Value) (s2 : Shared) : Prop :=
  ∃ (it : Addr) (fp : List Addr) (tn : Nat → Heap → Prop) (J : It) (H' : Hp), itv = .ref it ∧ Inv X pins σ H' s2 ∧ Turn X.prog X.w X.K tg J fp it tn ∧ tn 0 s2.heap ∧ (∀ b ∈ fp, FpOk X pins H' b) ∧ R J H'
def PI (X : Cx) (tg iter : Expr) (wi : TI) : Prop :=
  ∀ (pins : List (Addr × Obj)) (s : Shared) (σ : St) (H : Hp) (R : It → Hp → Prop), Inv X pins σ H s → wi σ H R →
    wpAny (model X.prog X.w) X.A (eval iter X.env) (fun v s1 => wpAny (model X.prog X.w) X.A (pyIter v) (PIE X pins σ tg R) X.xe s1) X.xe s

/-- the step ahead of the store is nothing for an iterator that keeps no tuple -/
theorem go_of {M : Model} {A : Around} {E : Value → Shared → Prop} {s : Shared} {tg : Expr} {it : Addr} {u : Value} {o : Obj} {n : String} {vs : Array Value} {Q : Unit → Shared → Prop} (ho : s.heap.get? it = some o) (hc : o.cls = .type n) (hd : o.data = .fields vs)
    (hn : ["enumerate", "zip", "dict_itemiterator", "dict_reverseitemiterator", "odict_iterator", "itertools.zip_longest", "itertools.pairwise"].contains n = false) (hQ : Q () s) : wpAny M A (letOwnedTupleGo tg (.ref it) u) Q E s := by
  unfold letOwnedTupleGo
  cases tg <;> first
    | exact wpAny_pure hQ
    | (cases u <;> first
        | exact wpAny_pure hQ
        | (refine wpAny_bind (wpAny_load ho ?_)
           rw [hc, hd]
           show wpAny M A (if (["enumerate", "zip", "dict_itemiterator", "dict_reverseitemiterator", "odict_iterator", "itertools.zip_longest", "itertools.pairwise"].contains n && vs[0]? == some (rawInt _)) = true then _ else _) Q E s
           rw [if_neg (by intro h; rw [hn, Bool.false_and] at h; cases h)]
           exact wpAny_pure hQ))

/-- the list at a, as it stands at each turn (a loop may append to it) -/
def Itl (K : PySem.W.Frag) (a : Addr) : It :=
  ⟨fun i H => ∃ xs x, SqL K H a xs ∧ xs[i]? = some x, fun i H x H' => H' = H ∧ ∀ xs, SqL K H a xs → xs[i]? = some x, fun i H => ∃ xs, SqL K H a xs ∧ xs.length ≤ i⟩
/-- lo, lo + 1, .. (n of them) -/
def Itr (lo : Int) (n : Nat) : It := ⟨fun i _ => i < n, fun i H x H' => H' = H ∧ x = .int (lo + i), fun i _ => n ≤ i⟩
theorem turn_list {P : Program} {w : World} {K : PySem.W.Frag} {tg : Expr} (a it : Addr) : Turn P w K tg (Itl K a) [it] it (fun i h => h.IsListIter it a i) where
  mem := by simp
  obj := fun i h st b hb => by
    have e : b = it := by simpa using hb
    subst e
    obtain ⟨o, e, c, d⟩ := st
    exact ⟨o, e, fun v z => by rw [d] at z; cases z⟩
  keep := fun i h h' st k => st.at fun o e => k it (by simp) o e
  item := by
    intro X hP hw hK hc i pins s σ H E I hf st hg
    subst hP hw hK
    obtain ⟨xs, x, hq, hx⟩ := hg
    obtain ⟨its, rv, p, hz⟩ := I.list hq
    obtain ⟨u, hu, ru⟩ := rv.get hx
    obtain ⟨f0, f1, f2, f3, f4, f5⟩ := hf it (by simp)
    refine wpAny_pyNext_list_item st p.isList (x := u) (by simpa using hu) fun h' st' sb => ?_
    have I1 : Inv X pins σ H { s with heap := h' } := I.turned (t' := s.toks) (fun b o hb e => (sb.2 b hb).trans e) f0 f1 f3 f4 f5
    obtain ⟨o, e, c, d⟩ := id st'
    exact ⟨u, rfl, go_of (s := { s with heap := h' }) e c d (by decide) ⟨x, H, I1, ru, ⟨rfl, fun ys hy => by rw [I.list_inj hy hq]; exact hx⟩, st', fun b hb => (hf b hb).1⟩⟩
  done := by
    intro X hP hw hK hc i pins s σ H E I hf st hg
    subst hP hw hK
    obtain ⟨xs, hq, hx⟩ := hg
    obtain ⟨its, rv, p, hz⟩ := I.list hq
    obtain ⟨f0, f1, f2, f3, f4, f5⟩ := hf it (by simp)
    have hl := rv.length
    exact wpAny_pyNext_list_end (I.ok.hd hc) st p.isList (by simp; omega) fun h' eb => ⟨rfl, I.turned (t' := s.toks) (fun b o hb e => eb b o hb e) f0 f1 f3 f4 f5⟩
  self := fun _ _ _ _ _ st h => wpAny_pyIter_listiter st h
theorem turn_range {P : Program} {w : World} {K : PySem.W.Frag} {tg : Expr} (it : Addr) (lo : Int) (n : Nat) : Turn P w K tg (Itr lo n) [it] it (fun i h => IsRangeIter h it (lo + (i : Nat) * 1) ((n : Int) - (i : Nat)) 1) where
  mem := by simp
  obj := fun i h st b hb => by
    have e : b = it := by simpa using hb
    subst e
    exact ⟨_, st, fun v z => by
      have z' : Data.fields _ = Data.cell v := z
      cases z'⟩
  keep := fun i h h' st k => k it (by simp) _ st
  item := by
    intro X hP hw hK hc i pins s σ H E I hf st hg
    subst hP hw hK
    obtain ⟨f0, f1, f2, f3, f4, f5⟩ := hf it (by simp)
    have W := Walks.range (prog := X.prog) (w := X.w) (I.ok.hd hc) it lo 1 n
    refine W.item i s _ _ hg st fun v h' tk hv st' kk => ?_
    obtain ⟨t, rfl⟩ := hv
    have I1 : Inv X pins σ H { s with heap := h', toks := tk } := I.turned (fun b o hb e => kk b o (by simpa using hb) e) f0 f1 f3 f4 f5
    refine ⟨_, rfl, go_of (s := { s with heap := h', toks := tk }) (n := "range_iterator") st' rfl rfl (by decide) ⟨.int (lo + i), H, I1, ⟨t, ?_⟩, ⟨rfl, rfl⟩, st', fun b hb => (hf b hb).1⟩⟩
    rw [Int.mul_one]
  done := by
    intro X hP hw hK hc i pins s σ H E I hf st hg
    subst hP hw hK
    obtain ⟨f0, f1, f2, f3, f4, f5⟩ := hf it (by simp)
    exact wpAny_pyNext_range_end (I.ok.hd hc) st (by have : n ≤ i := hg; omega) fun h' eb => ⟨rfl, I.turned (t' := s.toks) (fun b o hb e => eb b o hb e) f0 f1 f3 f4 f5⟩
  self := fun _ _ _ _ _ st h => wpAny_pyIter_rangeiter st h
end L2

namespace L2
open PySem PySem.Spec PyProof.Rows
section
variable {X : Cx} {tg : Expr}
def iList (K : PySem.W.Frag) (tl : TE) : TI := fun σ H R => tl σ H fun x H1 => ∃ a, x = .ref a ∧ (∃ xs, SqL K H1 a xs) ∧ R (Itl K a) H1
theorem pi_list {l : Expr} {tl : TE} (hl : PE X l tl) : PI X tg l (iList X.K tl) := by
  intro pins s σ H R I h
  refine thn (hl pins s σ H _ I h) fun v s1 ⟨x, H1, I1, r1, q1⟩ => ?_
  obtain ⟨a, e, ⟨xs, hq⟩, q⟩ := q1
  subst e
  cases r1
  obtain ⟨its, rv, p, hz⟩ := I1.list hq
  refine wpAny_pyIter_list p.isList ?_
  refine ⟨s1.heap.objs.size, [s1.heap.objs.size], _, _, H1, rfl, I1.kept (t' := s1.toks) fun b o e => Heap.get?_push_of_some _ e, turn_list a _, ⟨_, Heap.get?_push_size _ rfl, rfl, rfl⟩, fun b hb => ?_, q⟩
  have e : b = s1.heap.objs.size := by simpa using hb
  subst e
  exact I1.fpOk (Nat.le_refl _) (I1.hok.fresh (Nat.le_refl _))
/-- a range object just made, walked -/
theorem range_it {pins : List (Addr × Obj)} {σ : St} {H : Hp} {s : Shared} {R : It → Hp → Prop} {E : Value → Shared → Prop} {lo hi : Int} {t u v : Tok} {tk : Nat} (I : Inv X pins σ H s) (h1 : -(2 ^ 62) ≤ lo) (h2 : lo < 2 ^ 62) (h3 : -(2 ^ 62) ≤ hi) (h4 : hi < 2 ^ 62)
    (q : R (Itr lo (hi - lo).toNat) H) : wpAny (model X.prog X.w) X.A (pyIter (.ref s.heap.objs.size)) (PIE X pins σ tg R) E { s with heap := s.heap.push { cls := .type "range", data := .fields #[.int lo t, .int hi u, .int 1 v] }, toks := tk } := by
  refine wpAny_pyIter_range (IsRange.new ..) (small_one h1 h2 h3 h4) ?_
  have I1 : Inv X pins σ H { s with heap := s.heap.push { cls := .type "range", data := .fields #[.int lo t, .int hi u, .int 1 v] }, toks := tk } := I.kept fun b o e => Heap.get?_push_of_some _ e
  refine ⟨(s.heap.push { cls := .type "range", data := .fields #[.int lo t, .int hi u, .int 1 v] }).objs.size, [(s.heap.push { cls := .type "range", data := .fields #[.int lo t, .int hi u, .int 1 v] }).objs.size], _, _, H, rfl,
    I1.kept (t' := tk) fun b o e => Heap.get?_push_of_some _ e, turn_range _ lo (hi - lo).toNat, ?_, fun b hb => ?_, q⟩
  · have e1 : lo + ((0 : Nat) : Int) * 1 = lo := by simp
    have e2 : (((hi - lo).toNat : Nat) : Int) - ((0 : Nat) : Int) = Builtin.Range.rangeSize lo hi 1 := by rw [rangeSize_one]; split <;> omega
    show IsRangeIter _ _ (lo + ((0 : Nat) : Int) * 1) ((((hi - lo).toNat : Nat) : Int) - ((0 : Nat) : Int)) 1
    rw [e1, e2]
    exact Heap.get?_push_size _ rfl
  · have e : b = (s.heap.push { cls := .type "range", data := .fields #[.int lo t, .int hi u, .int 1 v] }).objs.size := by simpa using hb
    subst e
    exact I1.fpOk (Nat.le_refl _) (I1.hok.fresh (Nat.le_refl _))
def iRng1 (ta : TA) : TI := fun σ H R => ta σ H fun vs H1 => ∃ j : Int, vs = [.int j] ∧ -(2 ^ 62) ≤ j ∧ j < 2 ^ 62 ∧ R (Itr 0 j.toNat) H1
theorem pi_range1 {a : Expr} {ta : TA} {p pos : Pos} (hg : Gl X "range") (hm : X.mg "range" = none) (ha : PA X [a] ta) (hs : starEach [a] X.env = [(false, eval a X.env)] := by rfl) : PI X tg (.Call (.Name "range" p) [a] [] pos) (iRng1 ta) := by
  intro pins s σ H R I h
  refine Call_ (ld_blt I hg hm boot_range (PyProof.Rows.callWith_type1 (thn (ha pos pins s σ H _ I h) fun us s1 ⟨vs, H1, I1, r1, q1⟩ => ?_) hs rfl))
  obtain ⟨j, e, q1, q2, q⟩ := q1
  subst e
  cases r1 with
  | cons r rr =>
    cases rr
    obtain ⟨t, rfl⟩ := r
    exact call_range_1 (range_it I1 (by omega) (by omega) q1 q2 (by simpa using q))
/-! ### for -/
/-- W: the invariant by the turn and a measure; N: what the body is to reach -/
def tFor (wi : TI) (g : TG) (tb : TS) : TS := fun D σ H => wi σ H fun J H1 => ∃ W : Nat → Nat → St → Hp → Prop, (∃ m, W 0 m σ H1) ∧ ∀ i m σ H, W i m σ H →
  (J.stop i H ∧ D.nx σ H) ∨ (J.go i H ∧ ∃ N : St → Hp → Prop, (∀ σ' H', N σ' H' → ∃ m', m' < m ∧ W (i + 1) m' σ' H') ∧ ∀ x H', J.yld i H x H' → g x σ H' fun σ2 H2 => tb { D with nx := N, ct := N, bk := D.nx } σ2 H2)
/-- the records at fp as they stand -/
def pinsAt (fp : List Addr) (h : Heap) : List (Addr × Obj) := fp.filterMap fun b => (h.get? b).map fun o => (b, o)
theorem mem_pinsAt {fp : List Addr} {h : Heap} {b : Addr} {o : Obj} (hb : b ∈ fp) (e : h.get? b = some o) : (b, o) ∈ pinsAt fp h := List.mem_filterMap.mpr ⟨b, hb, by rw [e]; rfl⟩
theorem of_pinsAt {fp : List Addr} {h : Heap} {p : Addr × Obj} (hp : p ∈ pinsAt fp h) : p.1 ∈ fp ∧ h.get? p.1 = some p.2 := by
  obtain ⟨b, hb, e⟩ := List.mem_filterMap.mp hp
  cases q : h.get? b with
  | none => rw [q] at e; cases e
  | some o =>
    rw [q] at e
    have e' : (b, o) = p := Option.some.inj e
    subst e'
    exact ⟨hb, q⟩
theorem Inv.pinned {pins : List (Addr × Obj)} {σ : St} {H : Hp} {s : Shared} {fp : List Addr} (I : Inv X pins σ H s) (hf : ∀ b ∈ fp, FpOk X pins H b) (ho : ∀ b ∈ fp, ∃ o, s.heap.get? b = some o ∧ ∀ v, o.data ≠ .cell v) : Inv X (pins ++ pinsAt fp s.heap) σ H s :=
  I.pins_of fun p hp => (List.mem_append.mp hp).elim (fun z => I.pin p (List.mem_append_right _ z)) fun z => by
    obtain ⟨hb, e⟩ := of_pinsAt z
    obtain ⟨f0, f1, f2, _⟩ := hf p.1 hb
    obtain ⟨o, e', d⟩ := ho p.1 hb
    rw [e] at e'; cases e'
    exact ⟨e, f0, f1, f2, d⟩
theorem Inv.unpinned {pins pl : List (Addr × Obj)} {σ : St} {H : Hp} {s : Shared} (I : Inv X (pins ++ pl) σ H s) : Inv X pins σ H s := I.pins_of fun p hp => I.pin p (List.mem_append_right _ (List.mem_append_left _ hp))
theorem ps_for {iter : Expr} {body : List Stmt} {wi : TI} {g : TG} {tb : TS} {pos : Pos} (hp : PassesOwn (model X.prog X.w) X.A X.env X.xe) (hc : X.calm = true) (hi : PI X tg iter wi) (hg : PG X tg g) (hb : PSs X body tb)
    (hs : ∀ x, foldedSetIterable iter X.env x = pure x := by intro _; rfl) : PS X (.For tg iter body [] pos) (tFor wi g tb) := by
  intro pins s σ H D I h
  refine wpAny_For (thn (hi pins s σ H _ I h) fun v s1 h1 => thn h1 fun itv s2 h2 => ?_) hs
  obtain ⟨it, fp, tn, J, H2, e, I2, T, st2, f2, W, ⟨m0, w0⟩, turn⟩ := h2
  subst e
  -- what stays true of the iterator's objects through the loop
  have stat : ∀ {H' : Hp}, (∀ b ∈ fp, H' b = none) → ∀ b ∈ fp, FpOk X pins H' b := fun hn b hb => ⟨hn b hb, (f2 b hb).2⟩
  refine codeAny_forLoop_any (fun n s' => ∃ i σ' H', Inv X pins σ' H' s' ∧ tn i s'.heap ∧ (∀ b ∈ fp, H' b = none) ∧ W i n σ' H') ?_ m0 ⟨0, σ, H2, I2, st2, fun b hb => (f2 b hb).1, w0⟩
  rintro n s3 ⟨i, σ3, H3, I3, st3, fr3, w3⟩
  rcases turn i n σ3 H3 w3 with ⟨stop, qn⟩ | ⟨go, N, hN, step⟩
  · refine wpAny_passesOwn hp (thn (T.done X rfl rfl rfl hc i pins s3 σ3 H3 X.xe I3 (stat fr3) st3 stop) fun r s4 ⟨hr, I4⟩ => ?_)
    subst hr
    exact wpAny_execs_nil ⟨σ3, H3, I4, qn⟩
  · refine wpAny_passesOwn hp (thn (T.item X rfl rfl rfl hc i pins s3 σ3 H3 X.xe I3 (stat fr3) st3 go) fun r s4 ⟨u, hr, h4⟩ => ?_)
    subst hr
    refine wpAny_passesOwn hp (thn h4 fun _ s5 ⟨x, H5, I5, r5, y5, st5, fr5⟩ => ?_)
    have I5' := I5.pinned (stat fr5) (T.obj _ _ st5)
    refine wpAny_passesOwn hp (thn (hg _ s5 σ3 H5 x u _ I5' r5 (step x H5 y5)) fun _ s6 ⟨σ6, H6, I6, q6⟩ => ?_)
    refine wpAny_passesOwn hp (thn (hb _ s6 σ6 H6 _ I6 q6) fun f s7 q7 => ?_)
    have again : ∀ {σ7 : St} {H7 : Hp}, Inv X (pins ++ pinsAt fp s5.heap) σ7 H7 s7 → N σ7 H7 → ∃ m, m < n ∧ ∃ i σ' H', Inv X pins σ' H' s7 ∧ tn i s7.heap ∧ (∀ b ∈ fp, H' b = none) ∧ W i m σ' H' := fun {σ7 H7} I7 n7 => by
      obtain ⟨m', hm, w7⟩ := hN σ7 H7 n7
      refine ⟨m', hm, i + 1, σ7, H7, I7.unpinned, T.keep _ _ _ st5 fun b hb o e => (I7.pin (b, o) (List.mem_append_right _ (List.mem_append_right _ (mem_pinsAt hb e)))).1, fun b hb => ?_, w7⟩
      obtain ⟨o, e, d⟩ := T.obj _ _ st5 b hb
      exact (I7.pin (b, o) (List.mem_append_right _ (List.mem_append_right _ (mem_pinsAt hb e)))).2.1
    cases f with
    | next => obtain ⟨σ7, H7, I7, n7⟩ := q7; exact again I7 n7
    | cont => obtain ⟨σ7, H7, I7, n7⟩ := q7; exact again I7 n7
    | brk => obtain ⟨σ7, H7, I7, q7⟩ := q7; exact ⟨σ7, H7, I7.unpinned, q7⟩
    | ret v => obtain ⟨x7, σ7, H7, I7, r7, q7⟩ := q7; exact ⟨x7, σ7, H7, I7.unpinned, r7, q7⟩
end

/-! ### the forms one uses -/
/-- over a list that the body leaves as it is -/
theorem for_list {K : PySem.W.Frag} {a : Addr} {xs : List V} {g : TG} {tb : TS} {D : Ends} {σ : St} {H : Hp} (Pv : Nat → St → Hp → Prop) (h0 : Pv 0 σ H) (hl : ∀ i σ H, i ≤ xs.length → Pv i σ H → SqL K H a xs)
    (hs : ∀ i x σ H, xs[i]? = some x → Pv i σ H → g x σ H fun σ2 H2 => tb { D with nx := Pv (i + 1), ct := Pv (i + 1), bk := D.nx } σ2 H2) (hd : ∀ σ H, Pv xs.length σ H → D.nx σ H) :
    ∃ W : Nat → Nat → St → Hp → Prop, (∃ m, W 0 m σ H) ∧ ∀ i m σ H, W i m σ H →
      ((Itl K a).stop i H ∧ D.nx σ H) ∨ ((Itl K a).go i H ∧ ∃ N : St → Hp → Prop, (∀ σ' H', N σ' H' → ∃ m', m' < m ∧ W (i + 1) m' σ' H') ∧ ∀ x H', (Itl K a).yld i H x H' → g x σ H' fun σ2 H2 => tb { D with nx := N, ct := N, bk := D.nx } σ2 H2) := by
  refine ⟨fun i m σ H => m = xs.length - i ∧ i ≤ xs.length ∧ Pv i σ H, ⟨xs.length, by simp, Nat.zero_le _, h0⟩, ?_⟩
  rintro i m σ H ⟨rfl, hi, p⟩
  have q := hl i σ H hi p
  by_cases hlt : i < xs.length
  · refine .inr ⟨⟨xs, xs[i], q, by simp [hlt]⟩, Pv (i + 1), fun σ' H' p' => ⟨xs.length - (i + 1), by omega, rfl, hlt, p'⟩, fun x H' y => ?_⟩
    obtain ⟨e, y⟩ := y
    subst e
    exact hs i x σ _ (y xs q) p
  · have e : i = xs.length := by omega
    subst e
    exact .inl ⟨⟨xs, q, Nat.le_refl _⟩, hd σ H p⟩
end L2

namespace L2
open PySem PySem.Spec PyProof.Rows

abbrev R2 := V → V → Hp → VK → Prop
/-- a two-place operation on values: f is binaryOp op, inplaceOp op or compareOp op -/
def OpR (X : Cx) (f : Value → Value → Sem Value) (r : R2) : Prop :=
  ∀ (pins : List (Addr × Obj)) (s : Shared) (σ : St) (H : Hp) (x y : V) (v u : Value) (Q : VK), Inv X pins σ H s → RelV x v → RelV y u → r x y H Q →
    wpAny (model X.prog X.w) X.A (f v u) (EP X pins σ Q) X.xe s
/-- a one-place operation -/
def UnR (X : Cx) (f : Value → Sem Value) (r : V → Hp → VK → Prop) : Prop :=
  ∀ (pins : List (Addr × Obj)) (s : Shared) (σ : St) (H : Hp) (x : V) (v : Value) (Q : VK), Inv X pins σ H s → RelV x v → r x H Q →
    wpAny (model X.prog X.w) X.A (f v) (EP X pins σ Q) X.xe s
/-- a call of a value that is known (a builtin, a type) with values -/
def CallR (X : Cx) (f : Value) (r : List V → Hp → VK → Prop) : Prop :=
  ∀ (pins : List (Addr × Obj)) (s : Shared) (σ : St) (H : Hp) (xs : List V) (us : List Value) (Q : VK), Inv X pins σ H s → Vals xs us → r xs H Q →
    wpAny (model X.prog X.w) X.A (call f us) (EP X pins σ Q) X.xe s
def tOp (r : R2) (ta tb : TE) : TE := fun σ H Q => ta σ H fun x H1 => tb σ H1 fun y H2 => r x y H2 Q
def tUn (r : V → Hp → VK → Prop) (ta : TE) : TE := fun σ H Q => ta σ H fun x H1 => r x H1 Q
/-- ints in, under C, and a value out -/
def rI (C : Int → Int → Prop) (g : Int → Int → V) : R2 := fun x y H Q => ∃ i j, x = .int i ∧ y = .int j ∧ C i j ∧ Q (g i j) H
def rI0 (g : Int → Int → V) : R2 := fun x y H Q => ∃ i j, x = .int i ∧ y = .int j ∧ Q (g i j) H
def rU (g : Int → V) : V → Hp → VK → Prop := fun x H Q => ∃ i, x = .int i ∧ Q (g i) H

section
variable {X : Cx} {a b c : Expr} {ta tb tc : TE} {pos : Pos}

theorem binT (ha : PE X a ta) (hb : PE X b tb) {pins : List (Addr × Obj)} {s : Shared} {σ : St} {H : Hp} {R : V → V → Hp → Prop} (I : Inv X pins σ H s)
    (h : ta σ H fun x H1 => tb σ H1 fun y H2 => R x y H2) {Q : Value → Shared → Prop} {f : Value → Value → Sem Value}
    (hf : ∀ v u s2 x y H2, Inv X pins σ H2 s2 → RelV x v → RelV y u → R x y H2 → wpAny (model X.prog X.w) X.A (f v u) Q X.xe s2) :
    wpAny (model X.prog X.w) X.A (eval a X.env) (fun v s₁ => wpAny (model X.prog X.w) X.A (eval b X.env) (fun u s₂ => wpAny (model X.prog X.w) X.A (f v u) Q X.xe s₂) X.xe s₁) X.xe s := by
  refine thn (ha pins s σ H _ I h) fun v s1 ⟨x, H1, I1, r1, q1⟩ => ?_
  refine thn (hb pins s1 σ H1 _ I1 q1) fun u s2 ⟨y, H2, I2, r2, q2⟩ => ?_
  exact hf v u s2 x y H2 I2 r1 r2 q2

theorem pe_op {op : Operator} {r : R2} (ho : OpR X (binaryOp op) r) (ha : PE X a ta) (hb : PE X b tb) : PE X (.BinOp a op b pos) (tOp r ta tb) := by
  intro pins s σ H Q I h
  exact wpAny_BinOp (binT ha hb I h fun v u s2 x y H2 I2 rx ry q => ho pins s2 σ H2 x y v u Q I2 rx ry q)
theorem pe_un {op : UnaryOp} {r : V → Hp → VK → Prop} (ho : UnR X (unaryOp op) r) (ha : PE X a ta) : PE X (.UnaryOp op a pos) (tUn r ta) := by
  intro pins s σ H Q I h
  exact UnaryOp_ (thn (ha pins s σ H _ I h) fun v s1 ⟨x, H1, I1, r1, q1⟩ => ho pins s1 σ H1 x v Q I1 r1 q1)
/-! ### ints -/
theorem opI {f : Value → Value → Sem Value} {C : Int → Int → Prop} {g : Int → Int → Int}
    (rule : ∀ (i j : Int) (t u : Tok) (s : Shared) (Q : Value → Shared → Prop) (E : Value → Shared → Prop), C i j → Q (.int (g i j) s.toks) { s with toks := s.toks + 1 } → wpAny (model X.prog X.w) X.A (f (.int i t) (.int j u)) Q E s) :
    OpR X f (rI C fun i j => .int (g i j)) := by
  intro pins s σ H x y v u Q I rx ry h
  obtain ⟨i, j, rfl, rfl, hc, q⟩ := h
  obtain ⟨t, rfl⟩ := rx
  obtain ⟨t', rfl⟩ := ry
  exact rule i j t t' s _ _ hc ⟨.int (g i j), H, I.tok _, ⟨_, rfl⟩, q⟩
theorem opI0 {f : Value → Value → Sem Value} {g : Int → Int → Int}
    (rule : ∀ (i j : Int) (t u : Tok) (s : Shared) (Q : Value → Shared → Prop) (E : Value → Shared → Prop), Q (.int (g i j) s.toks) { s with toks := s.toks + 1 } → wpAny (model X.prog X.w) X.A (f (.int i t) (.int j u)) Q E s) :
    OpR X f (rI0 fun i j => .int (g i j)) := by
  intro pins s σ H x y v u Q I rx ry h
  obtain ⟨i, j, rfl, rfl, q⟩ := h
  obtain ⟨t, rfl⟩ := rx
  obtain ⟨t', rfl⟩ := ry
  exact rule i j t t' s _ _ ⟨.int (g i j), H, I.tok _, ⟨_, rfl⟩, q⟩
theorem opB0 {f : Value → Value → Sem Value} {g : Int → Int → Bool}
    (rule : ∀ (i j : Int) (t u : Tok) (s : Shared) (Q : Value → Shared → Prop) (E : Value → Shared → Prop), Q (.bool (g i j)) s → wpAny (model X.prog X.w) X.A (f (.int i t) (.int j u)) Q E s) :
    OpR X f (rI0 fun i j => .bl (g i j)) := by
  intro pins s σ H x y v u Q I rx ry h
  obtain ⟨i, j, rfl, rfl, q⟩ := h
  obtain ⟨t, rfl⟩ := rx
  obtain ⟨t', rfl⟩ := ry
  exact rule i j t t' s _ _ ⟨.bl (g i j), H, I, rfl, q⟩

def CMul (i j : Int) : Prop := (-(2 ^ 64) < i ∧ i < 2 ^ 64) ∨ (-(2 ^ 64) < j ∧ j < 2 ^ 64)
theorem CMul.ok {i j : Int} (h : CMul i j) : IntMulOk i j := by
  rcases h with ⟨h1, h2⟩ | ⟨h1, h2⟩
  · exact .of_left (intBits_le_64 h1 h2)
  · exact .of_right (intBits_le_64 h1 h2)
theorem op_add : OpR X (binaryOp .Add) (rI0 fun i j => .int (i + j)) := opI0 fun _ _ _ _ _ _ _ q => add_int q
theorem op_sub : OpR X (binaryOp .Sub) (rI0 fun i j => .int (i - j)) := opI0 fun _ _ _ _ _ _ _ q => sub_int q
theorem op_mul : OpR X (binaryOp .Mult) (rI CMul fun i j => .int (i * j)) := opI fun _ _ _ _ _ _ _ hc q => mul_int q hc.ok
theorem unI {f : Value → Sem Value} {g : Int → Int}
    (rule : ∀ (i : Int) (t : Tok) (s : Shared) (Q : Value → Shared → Prop) (E : Value → Shared → Prop), Q (.int (g i) s.toks) { s with toks := s.toks + 1 } → wpAny (model X.prog X.w) X.A (f (.int i t)) Q E s) :
    UnR X f (rU fun i => .int (g i)) := by
  intro pins s σ H x v Q I rx h
  obtain ⟨i, rfl, q⟩ := h
  obtain ⟨t, rfl⟩ := rx
  exact rule i t s _ _ ⟨.int (g i), H, I.tok _, ⟨_, rfl⟩, q⟩
theorem un_neg : UnR X (unaryOp .USub) (rU fun i => .int (-i)) := unI fun _ _ _ _ _ q => neg_int q
/-! ### bools among ints: n += (a < b) -/
end

/-! ### comparisons -/
/-- the scalars that == tells apart as data does -/
def scal : V → V → Bool
  | .non, .non => true | .non, .int _ => true | .int _, .non => true | .non, .bl _ => true | .bl _, .non => true | .non, .str _ => true | .str _, .non => true
  | .int _, .int _ => true | .bl _, .bl _ => true | .str _, .str _ => true | .byt _, .byt _ => true
  | .int _, .str _ => true | .str _, .int _ => true | .bl _, .str _ => true | .str _, .bl _ => true
  | _, _ => false
def rEq : R2 := fun x y H Q => scal x y = true ∧ Q (.bl (decide (x = y))) H
def rNe : R2 := fun x y H Q => scal x y = true ∧ Q (.bl (!decide (x = y))) H

theorem dec_int {i j : Int} : decide (V.int i = V.int j) = (i == j) := by
  rw [Bool.eq_iff_iff]
  simp
theorem dec_bl {i j : Bool} : decide (V.bl i = V.bl j) = (i == j) := by
  rw [Bool.eq_iff_iff]
  simp
theorem dec_str {i j : Str} : decide (V.str i = V.str j) = (i == j) := by
  rw [Bool.eq_iff_iff]
  simp
theorem dec_byt {i j : Array UInt8} : decide (V.byt i = V.byt j) = (i.toList == j.toList) := by
  rw [Bool.eq_iff_iff]
  cases i
  cases j
  simp

section
variable {X : Cx} {a b c : Expr} {ta tb tc : TE} {pos : Pos}
theorem fin_bl {pins : List (Addr × Obj)} {σ : St} {H : Hp} {s : Shared} {Q : VK} {k k' : Bool} (I : Inv X pins σ H s) (q : Q (.bl k) H) (e : k = k') : EP X pins σ Q (.bool k') s := by
  subst e
  exact ⟨.bl k, H, I, rfl, q⟩
theorem op_eq : OpR X (compareOp .Eq) rEq := by
  intro pins s σ H x y v u Q I rx ry h
  obtain ⟨hs, q⟩ := h
  cases x with
  | non =>
    cases rx
    cases y with
    | non => cases ry; exact PySem.EqNone.eq_none_none (fin_bl I q (by simp))
    | bl j => cases ry; exact PySem.EqNone.eq_none_bool (fin_bl I q (by simp))
    | int j => obtain ⟨t', rfl⟩ := ry; exact PySem.EqNone.eq_none_int (fin_bl I q (by simp))
    | str j => obtain ⟨t', rfl⟩ := ry; exact PySem.EqNone.eq_none_str (fin_bl I q (by simp))
    | _ => exact absurd (show false = true from hs) Bool.false_ne_true
  | bl i =>
    cases rx
    cases y with
    | non => cases ry; exact PySem.EqNone.eq_bool_none (fin_bl I q (by simp))
    | bl j => cases ry; exact eq_bool (fin_bl I q dec_bl)
    | str j => obtain ⟨t', rfl⟩ := ry; exact PySem.EqMixed.eq_bool_str (fin_bl I q (by simp))
    | _ => exact absurd (show false = true from hs) Bool.false_ne_true
  | int i =>
    obtain ⟨t, rfl⟩ := rx
    cases y with
    | non => cases ry; exact PySem.EqNone.eq_int_none (fin_bl I q (by simp))
    | int j => obtain ⟨t', rfl⟩ := ry; exact eq_int (fin_bl I q dec_int)
    | str j => obtain ⟨t', rfl⟩ := ry; exact PySem.EqMixed.eq_int_str (fin_bl I q (by simp))
    | _ => exact absurd (show false = true from hs) Bool.false_ne_true
  | str i =>
    obtain ⟨t, rfl⟩ := rx
    cases y with
    | non => cases ry; exact PySem.EqNone.eq_str_none (fin_bl I q (by simp))
    | bl j => cases ry; exact PySem.EqMixed.eq_str_bool (fin_bl I q (by simp))
    | int j => obtain ⟨t', rfl⟩ := ry; exact PySem.EqMixed.eq_str_int (fin_bl I q (by simp))
    | str j => obtain ⟨t', rfl⟩ := ry; exact eq_str (fin_bl I q dec_str)
    | _ => exact absurd (show false = true from hs) Bool.false_ne_true
  | byt i =>
    obtain ⟨t, rfl⟩ := rx
    cases y with
    | byt j => obtain ⟨t', rfl⟩ := ry; exact PySem.W.eq_bytes (fin_bl I q dec_byt)
    | _ => exact absurd (show false = true from hs) Bool.false_ne_true
  | _ => cases y <;> exact absurd (show false = true from hs) Bool.false_ne_true
theorem op_ne : OpR X (compareOp .NotEq) rNe := by
  intro pins s σ H x y v u Q I rx ry h
  obtain ⟨hs, q⟩ := h
  cases x with
  | non =>
    cases rx
    cases y with
    | non => cases ry; exact PySem.EqNone.ne_none_none (fin_bl I q (by simp))
    | bl j => cases ry; exact PySem.EqNone.ne_none_bool (fin_bl I q (by simp))
    | int j => obtain ⟨t', rfl⟩ := ry; exact PySem.EqNone.ne_none_int (fin_bl I q (by simp))
    | str j => obtain ⟨t', rfl⟩ := ry; exact PySem.EqNone.ne_none_str (fin_bl I q (by simp))
    | _ => exact absurd (show false = true from hs) Bool.false_ne_true
  | bl i =>
    cases rx
    cases y with
    | non => cases ry; exact PySem.EqNone.ne_bool_none (fin_bl I q (by simp))
    | bl j => cases ry; exact ne_bool (fin_bl I q (congrArg not dec_bl))
    | str j => obtain ⟨t', rfl⟩ := ry; exact PySem.EqMixed.ne_bool_str (fin_bl I q (by simp))
    | _ => exact absurd (show false = true from hs) Bool.false_ne_true
  | int i =>
    obtain ⟨t, rfl⟩ := rx
    cases y with
    | non => cases ry; exact PySem.EqNone.ne_int_none (fin_bl I q (by simp))
    | int j => obtain ⟨t', rfl⟩ := ry; exact ne_int (fin_bl I q (congrArg not dec_int))
    | str j => obtain ⟨t', rfl⟩ := ry; exact PySem.EqMixed.ne_int_str (fin_bl I q (by simp))
    | _ => exact absurd (show false = true from hs) Bool.false_ne_true
  | str i =>
    obtain ⟨t, rfl⟩ := rx
    cases y with
    | non => cases ry; exact PySem.EqNone.ne_str_none (fin_bl I q (by simp))
    | bl j => cases ry; exact PySem.EqMixed.ne_str_bool (fin_bl I q (by simp))
    | int j => obtain ⟨t', rfl⟩ := ry; exact PySem.EqMixed.ne_str_int (fin_bl I q (by simp))
    | str j => obtain ⟨t', rfl⟩ := ry; exact ne_str (fin_bl I q (congrArg not dec_str))
    | _ => exact absurd (show false = true from hs) Bool.false_ne_true
  | byt i =>
    obtain ⟨t, rfl⟩ := rx
    cases y with
    | byt j => obtain ⟨t', rfl⟩ := ry; exact PySem.W.ne_bytes (fin_bl I q (congrArg not dec_byt))
    | _ => exact absurd (show false = true from hs) Bool.false_ne_true
  | _ => cases y <;> exact absurd (show false = true from hs) Bool.false_ne_true

theorem op_lt : OpR X (compareOp .Lt) (rI0 fun i j => .bl (decide (i < j))) := opB0 fun _ _ _ _ _ _ _ q => lt_int q
theorem op_le : OpR X (compareOp .LtE) (rI0 fun i j => .bl (decide (i ≤ j))) := opB0 fun _ _ _ _ _ _ _ q => le_int q
theorem op_gt : OpR X (compareOp .Gt) (rI0 fun i j => .bl (decide (j < i))) := opB0 fun _ _ _ _ _ _ _ q => gt_int q
theorem op_ge : OpR X (compareOp .GtE) (rI0 fun i j => .bl (decide (j ≤ i))) := opB0 fun _ _ _ _ _ _ _ q => ge_int q
theorem nomark (b : Expr) {op : CmpOp} (h : op ≠ .In := by decide) (h2 : op ≠ .NotIn := by decide) : behindInMarks op b = false := by
  have e1 : (op == CmpOp.In) = false := by cases op <;> first | rfl | exact absurd rfl h
  have e2 : (op == CmpOp.NotIn) = false := by cases op <;> first | rfl | exact absurd rfl h2
  cases b <;> simp [behindInMarks, e1, e2]
/-- a comparison as a value; hm: nomark b, or (for in, not in) by with_unfolding_all rfl -/
theorem pe_cmpR {op : CmpOp} {r : R2} (ho : OpR X (compareOp op) r) (ha : PE X a ta) (hb : PE X b tb) (hm : behindInMarks op b = false) : PE X (.Compare a [op] [b] pos) (tOp r ta tb) := by
  intro pins s σ H Q I h
  exact wpAny_Compare1 (binT ha hb I h fun v u s2 x y H2 I2 rx ry q => ho pins s2 σ H2 x y v u Q I2 rx ry q) hm
/-- a reading of a value as a test -/
def tTest (t : TE) : TT := fun σ H Q => t σ H fun x H' => ∃ k, x = .bl k ∧ Q k H'
theorem pt_cmpR {op : CmpOp} {r : R2} (ho : OpR X (compareOp op) r) (ha : PE X a ta) (hb : PE X b tb) (hm : behindInMarks op b = false) : PT X (.Compare a [op] [b] pos) (tTest (tOp r ta tb)) := by
  intro pins s σ H Q I h
  refine wpAny_isTrue_Compare1 (thn (ha pins s σ H _ I h) fun v s1 ⟨x, H1, I1, r1, q1⟩ => thn (hb pins s1 σ H1 _ I1 q1) fun u s2 ⟨y, H2, I2, r2, q2⟩ =>
    thn (ho pins s2 σ H2 x y v u _ I2 r1 r2 q2) fun c s3 ⟨z, H3, I3, r3, k, e, q3⟩ => ?_) hm
  subst e
  cases r3
  exact wpAny_truthy_bool ⟨H3, I3, q3⟩
/-- a op1 b op2 c -/
def tChain (r r' : R2) (ta tb tc : TE) : TE := fun σ H Q => ta σ H fun x H1 => tb σ H1 fun y H2 => r x y H2 fun z H3 => ∃ k, z = .bl k ∧
  (if k = true then tc σ H3 fun w' H4 => r' y w' H4 Q else Q (.bl false) H3)
theorem pe_chain {op op' : CmpOp} {r r' : R2} (ho : OpR X (compareOp op) r) (ho' : OpR X (compareOp op') r') (ha : PE X a ta) (hb : PE X b tb) (hc : PE X c tc)
    (hm : lastMarks [op, op'] [b, c] = false := by with_unfolding_all rfl) : PE X (.Compare a [op, op'] [b, c] pos) (tChain r r' ta tb tc) := by
  intro pins s σ H Q I h
  refine Compare_chain (thn (ha pins s σ H _ I h) fun v s1 ⟨x, H1, I1, r1, q1⟩ => chain_link (thn (hb pins s1 σ H1 _ I1 q1) fun u s2 ⟨y, H2, I2, r2, q2⟩ =>
    thn (ho pins s2 σ H2 x y v u _ I2 r1 r2 q2) fun d s3 ⟨z, H3, I3, r3, k, e, q3⟩ => ?_)) hm
  subst e
  cases r3
  refine wpAny_truthy_bool ?_
  cases k with
  | false => exact ite_ff ⟨.bl false, H3, I3, rfl, q3⟩
  | true => exact ite_tt (chain_last (thn (hc pins s3 σ H3 _ I3 q3) fun w' s4 ⟨z', H4, I4, r4, q4⟩ => ho' pins s4 σ H4 y z' u w' Q I4 r2 r4 q4))
/-! ### truth -/
theorem line63 : (sizeLine : Nat) < 2 ^ 63 := by rw [sizeLine_eq]; decide
/-! ### strs and bytes -/
/-! ### scalar builtins, by CallR -/
theorem vals1 {x : V} {us : List Value} (r : Vals [x] us) : ∃ u, us = [u] ∧ RelV x u := by
  cases r with
  | cons r1 r2 => cases r2; exact ⟨_, rfl, r1⟩
theorem vals2 {x y : V} {us : List Value} (r : Vals [x, y] us) : ∃ u w', us = [u, w'] ∧ RelV x u ∧ RelV y w' := by
  cases r with
  | cons r1 r2 =>
    cases r2 with
    | cons r3 r4 => cases r4; exact ⟨_, _, rfl, r1, r3⟩
theorem call_abs : CallR X (.builtin "abs") (fun xs H Q => ∃ i, xs = [.int i] ∧ Q (.int (if i < 0 then -i else i)) H) := by
  intro pins s σ H xs us Q I r h
  obtain ⟨i, rfl, q⟩ := h
  obtain ⟨u, rfl, t, rfl⟩ := vals1 r
  exact call_abs_int fun u tk => ⟨.int (if i < 0 then -i else i), H, I.tok _, ⟨_, rfl⟩, q⟩
theorem call_max2 (hc : X.calm = true) : CallR X (.builtin "max") (fun xs H Q => ∃ i j, xs = [.int i, .int j] ∧ Q (.int (if j > i then j else i)) H) := by
  intro pins s σ H xs us Q I r h
  obtain ⟨i, j, rfl, q⟩ := h
  obtain ⟨u, w', rfl, ⟨t, rfl⟩, ⟨t', rfl⟩⟩ := vals2 r
  refine max_two_ints (I.ok.hd hc) fun h' tk k => ⟨_, H, I.kept k, ?_, q⟩
  by_cases hj : j > i
  · rw [if_pos hj, if_pos hj]; exact ⟨_, rfl⟩
  · rw [if_neg hj, if_neg hj]; exact ⟨_, rfl⟩
theorem call_min2 (hc : X.calm = true) : CallR X (.builtin "min") (fun xs H Q => ∃ i j, xs = [.int i, .int j] ∧ Q (.int (if j < i then j else i)) H) := by
  intro pins s σ H xs us Q I r h
  obtain ⟨i, j, rfl, q⟩ := h
  obtain ⟨u, w', rfl, ⟨t, rfl⟩, ⟨t', rfl⟩⟩ := vals2 r
  refine min_two_ints (I.ok.hd hc) fun h' tk k => ⟨_, H, I.kept k, ?_, q⟩
  by_cases hj : j < i
  · rw [if_pos hj, if_pos hj]; exact ⟨_, rfl⟩
  · rw [if_neg hj, if_neg hj]; exact ⟨_, rfl⟩
end
end L2

namespace L2
open PySem PySem.Spec PyProof.Rows

/-! ### an instance, its attributes a map -/
structure ObjM (h : Heap) (x dx C : Addr) (mA : Str → Option Value) : Prop where
  obj : h.get? x = some (PySem.W.instObj C dx)
  ns : h.Ns1 dx mA
  ne : dx ≠ x

theorem lookIn_ns {h : Heap} {dx : Addr} {mA : Str → Option Value} (n : h.Ns1 dx mA) : ∃ od, h.get? dx = some od ∧ ∀ name, PySem.W.lookIn name od = some (mA name) := by
  obtain ⟨o, es, ep, ho, hd, hk, _, hm⟩ := n
  refine ⟨o, ho, fun name => ?_⟩
  have e := hm name
  unfold nsFind findBy at e
  rw [← Array.find?_toList] at e
  unfold PySem.W.lookIn
  rw [hd]
  dsimp only
  split
  · rename_i y q
    rw [q] at e
    exact congrArg some e
  · rename_i q
    rw [q] at e
    have a : es.toList.any (·.refKey) = false := by
      rw [List.any_eq_false]
      intro y hy
      obtain ⟨z, t, hkey⟩ := hk y (Array.mem_toList_iff.mp hy)
      simp [DictEntry.refKey, hkey]
    have a' : ¬ es.toList.any (·.refKey) = true := by rw [a]; exact Bool.false_ne_true
    rw [if_neg a']
    exact congrArg some e

theorem ObjM.look {h : Heap} {x dx C : Addr} {mA : Str → Option Value} (I : ObjM h x dx C mA) : ∃ od, PySem.W.InstAt h x (PySem.W.instObj C dx) C (some od) ∧ ∀ name, PySem.W.lookIn name od = some (mA name) :=
  let ⟨od, ho, hl⟩ := lookIn_ns I.ns
  ⟨od, ⟨I.obj, rfl, rfl, ho⟩, hl⟩

section
variable {prog : Program} {w : World} {A : Around} {E : Value → Shared → Prop} {s : Shared} {K : PySem.W.Frag} {x dx C f : Addr} {mA : Str → Option Value} {name : Str} {v : Value}

theorem get_map {expr : Bool} {Q : Value → Shared → Prop} (X : K.In s.heap) (I : ObjM s.heap x dx C mA) (hg : PySem.W.plainGet K C name = true) (hh : PySem.W.hasDictIn K C = true)
    (ha : PySem.W.findIn K (.ref C) name = some none) (hv : mA name = some v) (hv' : PySem.W.handedIn v = true) (h : Q v { s with toks := s.toks + 1 }) :
    wpAny (model prog w) A (getAttr (.ref x) name expr) Q E s := by
  obtain ⟨od, J, hl⟩ := I.look
  exact PySem.W.get_value X J (PySem.W.plainGet_of hg).1 (PySem.W.findObj_own hh ha rfl (by rw [hl, hv])) hv' h

theorem get_meth {pl : Sem Bool} {Q : Value × List Value → Shared → Prop} (X : K.In s.heap) (I : ObjM s.heap x dx C mA) (hg : PySem.W.plainGet K C name = true)
    (hf : PySem.W.findIn K (.ref C) name = some (some (.ref f))) (ht : PySem.W.isFn K (.ref f) = true) (hv : mA name = none) (h : Q (.ref f, [.ref x]) s) :
    wpAny (model prog w) A (getMethod (.ref x) name pl) Q E s := by
  obtain ⟨od, J, hl⟩ := I.look
  exact PySem.W.method_fn X J (PySem.W.plainGet_of hg).1 (PySem.W.plainGet_of hg).2 hf (beq_iff_eq.mp ht) (by show (PySem.W.lookIn name od).map (·.isSome) = some false; rw [hl, hv]; rfl) h

theorem set_map {ns : List Str} {Q : Unit → Shared → Prop} (X : K.In s.heap) (I : ObjM s.heap x dx C mA)
    (hs : PySem.W.findIn K (.ref C) "__setattr__" = some (some (.builtin "object.__setattr__"))) (hp : PySem.W.plainOver K C = true) (ht : PySem.W.takerIn K C name = some none) (hh : PySem.W.hasDictIn K C = true)
    (hw : PySem.Within mA ns) (hsz : ns.length ≤ sizeLine)
    (h : ∀ h', ObjM h' x dx C (fun y => if y = name then some v else mA y) → Heap.SameBut dx s.heap h' → Q () { s with heap := h', toks := s.toks + 2 }) :
    wpAny (model prog w) A (setAttr (.ref x) name v) Q E s := by
  obtain ⟨od, J, hl⟩ := I.look
  refine PySem.W.set_plain X J hs (PySem.W.osa_open (s := { s with toks := s.toks + 1 }) (r := none) X J hp ht fun b => ?_)
  obtain ⟨cd, hc, hd'⟩ := PySem.W.any_some hh
  have hx : s.heap.get? x = some ⟨.ref C, some dx, .plain, #[]⟩ := I.obj
  refine wpAny_bind (wpAny_pure (wpAny_bind (wpAny_bind (wpAny_loadPart hx (wpAny_bind (PySem.W.Looks.here (s := { s with toks := s.toks + 1 }) (PySem.W.looks_clsIn X hc) ?_))))))
  rw [hd']
  refine wpAny_pure (a := some dx) (wpAny_bind (wpAny_pure (wpAny_bind ?_)))
  refine wpAny_nsSet1 (s := { s with toks := s.toks + 1 }) I.ns fun h' hn2 hs2 => ?_
  obtain ⟨oD, esD, epD, hoD, hdD, hcD⟩ := hn2.count (PySem.Within.cons name v hw)
  refine wpAny_bind (wpAny_lookBehind hoD (by rw [hdD]; exact pastItsLine_dict (Nat.le_trans hcD (by rw [List.length_cons]; omega))) ?_)
  exact wpAny_pure (h _ ⟨(hs2.2 _ (Ne.symm I.ne)).trans I.obj, hn2, I.ne⟩ hs2)

/-- C(..): the dict at the heap's end, the instance behind it; then its __init__ -/
theorem make_map {R : Result → Shared → Prop} {vs : List Value} {kw : List (Str × Value)} (X : K.In s.heap) (hm : PySem.W.makesIn K C = true)
    (hi : PySem.W.findIn K (.ref C) "__init__" = some (some (.ref f))) (hf : PySem.W.typeIn K (.ref f) = some (.type "function"))
    (h : codeAny (model prog w) (A.under (.builtin "type.__call__" ⟨.ref C :: vs, kw⟩)) (.call (.ref f) ⟨.ref (s.heap.objs.size + 1) :: vs, kw⟩) (PySem.W.InitBack (s.heap.objs.size + 1) R)
      { s with heap := (s.heap.push PySem.W.emptyDict).push (PySem.W.instObj C s.heap.objs.size) }) :
    codeAny (model prog w) A (.call (.ref C) ⟨vs, kw⟩) R s := by
  obtain ⟨hh, g, d, t, os⟩ := s
  exact PySem.W.make_core (PySem.W.makes_of X hm) (PySem.W.looks_findIn X hi) (fun self => PySem.W.bind_fn X self hf) (.inl rfl) h
end

/-! ### the attributes as a list of pairs -/
def putF (f : Str) (v : V) : List (Str × V) → List (Str × V)
  | [] => [(f, v)]
  | (g, x) :: r => if g = f then (g, v) :: r else (g, x) :: putF f v r
theorem lookup_putF (f g : Str) (v : V) : ∀ fs : List (Str × V), (putF f v fs).lookup g = if g = f then some v else fs.lookup g
  | [] => by
    show List.lookup g [(f, v)] = _
    by_cases h : g = f
    · have hb : (g == f) = true := beq_iff_eq.mpr h
      simp only [List.lookup, hb, if_pos h]
    · have hb : (g == f) = false := beq_eq_false_iff_ne.mpr h
      simp only [List.lookup, hb, if_neg h]
  | (k, x) :: r => by
    have ih := lookup_putF f g v r
    rw [show putF f v ((k, x) :: r) = (if k = f then (k, v) :: r else (k, x) :: putF f v r) from rfl]
    by_cases hk : k = f
    · rw [if_pos hk]
      by_cases h : g = k
      · have hb : (g == k) = true := beq_iff_eq.mpr h
        simp only [List.lookup, hb, if_pos (h.trans hk)]
      · have hb : (g == k) = false := beq_eq_false_iff_ne.mpr h
        simp only [List.lookup, hb, if_neg (fun e : g = f => h (e.trans hk.symm))]
    · rw [if_neg hk]
      by_cases h : g = k
      · have hb : (g == k) = true := beq_iff_eq.mpr h
        simp only [List.lookup, hb, if_neg (fun e : g = f => hk (h.symm.trans e))]
      · have hb : (g == k) = false := beq_eq_false_iff_ne.mpr h
        simp only [List.lookup, hb]
        exact ih
theorem keys_putF (f : Str) (v : V) : ∀ fs : List (Str × V), f ∈ (putF f v fs).map (·.1) ∧ ∀ g, g ∈ fs.map (·.1) → g ∈ (putF f v fs).map (·.1)
  | [] => ⟨by simp [putF], fun g h => by simp at h⟩
  | (k, x) :: r => by
    obtain ⟨i1, i2⟩ := keys_putF f v r
    rw [show putF f v ((k, x) :: r) = (if k = f then (k, v) :: r else (k, x) :: putF f v r) from rfl]
    by_cases hk : k = f
    · rw [if_pos hk]
      subst hk
      exact ⟨by simp, fun g h => by simpa using h⟩
    · rw [if_neg hk]
      refine ⟨?_, fun g h => ?_⟩
      · rw [List.map_cons]
        exact List.mem_cons_of_mem _ i1
      · rw [List.map_cons] at h ⊢
        rcases List.mem_cons.mp h with e | e
        · exact List.mem_cons.mpr (.inl e)
        · exact List.mem_cons_of_mem _ (i2 g e)
theorem length_putF (f : Str) (v : V) : ∀ fs : List (Str × V), (putF f v fs).length ≤ fs.length + 1
  | [] => by simp [putF]
  | (k, x) :: r => by
    have ih := length_putF f v r
    rw [show putF f v ((k, x) :: r) = (if k = f then (k, v) :: r else (k, x) :: putF f v r) from rfl]
    by_cases hk : k = f
    · rw [if_pos hk, List.length_cons, List.length_cons]; omega
    · rw [if_neg hk, List.length_cons, List.length_cons]; omega

theorem RelO.some_of {v : V} {o : Option Value} (r : RelO (some v) o) : ∃ u, o = some u ∧ RelV v u := by
  cases o with
  | none => exact (show False from r).elim
  | some u => exact ⟨u, rfl, r⟩
theorem RelO.none_of {o : Option Value} (r : RelO none o) : o = none := by
  cases o with
  | none => rfl
  | some u => exact (show False from r).elim
theorem handed_of {v : V} {u : Value} (r : RelV v u) : PySem.W.handedIn u = true := by
  cases v with
  | non => cases (show u = Value.none from r); rfl
  | bl b => cases (show u = Value.bool b from r); rfl
  | int i => obtain ⟨t, e⟩ := (show ∃ t, u = Value.int i t from r); cases e; rfl
  | str x => obtain ⟨t, e⟩ := (show ∃ t, u = Value.str x t from r); cases e; rfl
  | byt b => obtain ⟨t, e⟩ := (show ∃ t, u = Value.bytes b t from r); cases e; rfl
  | flt b => obtain ⟨t, e⟩ := (show ∃ t, u = Value.float b t from r); cases e; rfl
  | ref a => cases (show u = Value.ref a from r); rfl
  | ty n => cases (show u = Value.type n from r); rfl

section
variable {P : Program} {w : World} {H H' : Hp} {h h' : Heap} {a C dx : Addr} {fs fs' : List (Str × V)}
theorem ins_get (hok : HOk P w H h) (e : H a = some (.ins C dx fs)) : ∃ mA, ObjM h a dx C mA ∧ (∀ f, RelO (fs.lookup f) (mA f)) ∧ PySem.Within mA (fs.map (·.1)) ∧ fs.length ≤ 1000 ∧ H dx = some (.own a) := by
  obtain ⟨d, z, ne, ob, mA, n, r, q⟩ := (show ObjOk P w H h a (.ins C dx fs) from hok a _ e)
  exact ⟨mA, ⟨ob, n, ne⟩, r, q, z, d⟩
end

/-! ### what of the text a class must have -/
structure Cls (K : PySem.W.Frag) (C : Addr) : Prop where
  pg : PySem.W.plainGet K C Str.empty = true
  hd : PySem.W.hasDictIn K C = true
  po : PySem.W.plainOver K C = true
  sa : PySem.W.findIn K (.ref C) "__setattr__" = some (some (.builtin "object.__setattr__"))
theorem Cls.get {K : PySem.W.Frag} {C : Addr} (c : Cls K C) (f : Str) : PySem.W.plainGet K C f = true := c.pg
/-- no class of it has the name -/
def NoAttr (K : PySem.W.Frag) (C : Addr) (f : Str) : Prop := PySem.W.findIn K (.ref C) f = some none
theorem NoAttr.taker {K : PySem.W.Frag} {C : Addr} {f : Str} (n : NoAttr K C f) : PySem.W.takerIn K C f = some none := by
  unfold PySem.W.takerIn
  rw [show PySem.W.findIn K (.ref C) f = some none from n]
  rfl
/-- a method: a plain def of the class or of one above it -/
structure Meth (K : PySem.W.Frag) (C : Addr) (m : Str) (f : Addr) : Prop where
  at_ : PySem.W.findIn K (.ref C) m = some (some (.ref f))
  fn : PySem.W.isFn K (.ref f) = true
  kp : PySem.W.keepIn K (.ref f) = true

section
variable {X : Cx} {pins : List (Addr × Obj)} {σ : St} {H : Hp} {s : Shared} {a C dx : Addr} {fs : List (Str × V)} {f : Str} {v : V} {A : Around} {E : Value → Shared → Prop}

theorem getattr_ok {b : Bool} {Q : Value → Shared → Prop} (I : Inv X pins σ H s) (e : H a = some (.ins C dx fs)) (c : Cls X.K C) (n : NoAttr X.K C f) (l : fs.lookup f = some v)
    (h : ∀ u s', Inv X pins σ H s' → RelV v u → Q u s') : wpAny (model X.prog X.w) A (getAttr (.ref a) f b) Q E s := by
  obtain ⟨mA, O, r, _, _, _⟩ := ins_get I.hok e
  obtain ⟨u, hu, ru⟩ := RelO.some_of (v := v) (o := mA f) (by rw [← l]; exact r f)
  exact get_map I.kIn O (c.get f) c.hd n hu (handed_of ru) (h u _ (I.tok _) ru)

theorem getmeth_ok {m : Str} {g : Addr} {pl : Sem Bool} {Q : Value × List Value → Shared → Prop} (I : Inv X pins σ H s) (e : H a = some (.ins C dx fs)) (c : Cls X.K C) (k : Meth X.K C m g) (l : fs.lookup m = none)
    (h : Q (.ref g, [.ref a]) s) : wpAny (model X.prog X.w) A (getMethod (.ref a) m pl) Q E s := by
  obtain ⟨mA, O, r, _, _, _⟩ := ins_get I.hok e
  have hn : mA m = none := RelO.none_of (by rw [← l]; exact r m)
  exact get_meth I.kIn O (c.get m) k.at_ k.fn hn h

theorem setattr_ok {y : V} {u : Value} {Q : Unit → Shared → Prop} (I : Inv X pins σ H s) (e : H a = some (.ins C dx fs)) (c : Cls X.K C) (n : NoAttr X.K C f) (hl : fs.length < 1000) (ry : RelV y u)
    (h : ∀ s', Inv X pins σ (upd H a (.ins C dx (putF f y fs))) s' → Q () s') : wpAny (model X.prog X.w) A (setAttr (.ref a) f u) Q E s := by
  obtain ⟨mA, O, r, wi, _, ho⟩ := ins_get I.hok e
  have hz : (fs.map (·.1)).length ≤ sizeLine := by rw [List.length_map, sizeLine_eq]; omega
  refine set_map I.kIn O c.sa c.po n.taker c.hd wi hz fun h' O' sb => h _ ?_
  have hd : ∃ o, h'.get? dx = some o := let ⟨o, _, _, e', _⟩ := O'.ns; ⟨o, e'⟩
  refine I.write (x := a) (e := dx) (by rw [e]; exact True.intro) (.inr ho) (fun b q hb z => (sb.2 b hb).trans z) hd ?_
  refine ⟨by rw [upd_ne O.ne]; exact ho, ?_, O.ne, O'.obj, _, O'.ns, fun g => ?_, fun g hg => ?_⟩
  · have := length_putF f y fs; omega
  · show RelO ((putF f y fs).lookup g) (if g = f then some u else mA g)
    rw [lookup_putF]
    by_cases q : g = f
    · rw [if_pos q, if_pos q]; exact ry
    · rw [if_neg q, if_neg q]; exact r g
  · by_cases q : g = f
    · rw [q]; exact (keys_putF f y fs).1
    · refine (keys_putF f y fs).2 g (wi g fun z => hg ?_)
      show (if g = f then some u else mA g) = none
      rw [if_neg q]; exact z

/-- a new instance, tracked, without attributes -/
theorem Inv.made (I : Inv X pins σ H s) : Inv X pins σ (upd (upd H s.heap.objs.size (.own (s.heap.objs.size + 1))) (s.heap.objs.size + 1) (.ins C s.heap.objs.size []))
    { s with heap := (s.heap.push PySem.W.emptyDict).push (PySem.W.instObj C s.heap.objs.size) } := by
  have e1 : (s.heap.push PySem.W.emptyDict).get? s.heap.objs.size = some PySem.W.emptyDict := Heap.get?_push_size s.heap rfl
  have e2 : ((s.heap.push PySem.W.emptyDict).push (PySem.W.instObj C s.heap.objs.size)).get? (s.heap.objs.size + 1) = some (PySem.W.instObj C s.heap.objs.size) := by
    have := Heap.get?_push_size (s.heap.push PySem.W.emptyDict) (o := PySem.W.instObj C s.heap.objs.size) rfl
    rwa [Heap.size_push] at this
  have e3 : (s.heap.push PySem.W.emptyDict).Ns s.heap.objs.size (fun _ => none) := ⟨PySem.W.emptyDict, #[], _, e1, rfl, (fun e he => absurd he (by simp)), fun _ => rfl⟩
  have I1 := I.laid (a := s.heap.objs.size) (o := .own (s.heap.objs.size + 1)) (h' := s.heap.push PySem.W.emptyDict) (t' := s.toks) (fun b u q => Heap.get?_push_of_some _ q) (Nat.le_refl _) ⟨_, e1⟩
  refine I1.laid (a := s.heap.objs.size + 1) (o := .ins C s.heap.objs.size []) (t' := s.toks) (fun b u q => Heap.get?_push_of_some _ q) (Nat.le_of_eq (Heap.size_push _ _)) ?_
  have ne : s.heap.objs.size ≠ s.heap.objs.size + 1 := Nat.ne_of_lt (Nat.lt_succ_self _)
  refine ⟨by rw [upd_ne ne, upd_same], Nat.zero_le _, ne, e2, fun _ => none, (Heap.Ns1.of_empty e3).at fun o q => Heap.get?_push_of_some _ q, fun _ => True.intro, fun y hy => absurd rfl hy⟩

/-- e.f where nothing but the object is asked: through attributeBase (super) and the last hold -/
theorem attr_of {prog : Program} {w : World} {env : Env} {e : Expr} {f : Str} {pos : Pos} {s : Shared} {Q : Value → Shared → Prop} (hb : attributeBase e f env (eval e env) = eval e env)
    (h : wpAny (model prog w) A (eval e env) (fun o s₁ => wpAny (model prog w) A (getAttr o f true) Q E s₁) E s) : wpAny (model prog w) A (eval (.Attribute e f pos) env) Q E s :=
  Attribute_any_ h (by rw [arm_eval_Attribute, hb])
end

/-! ### readings and rules -/
/-- e.f, an attribute of the instance -/
def tFld (K : PySem.W.Frag) (ta : TE) (f : Str) : TE := fun σ H Q => ta σ H fun x H1 => ∃ a C dx fs v, x = .ref a ∧ H1 a = some (.ins C dx fs) ∧ Cls K C ∧ NoAttr K C f ∧ fs.lookup f = some v ∧ Q v H1
/-- e.f = value -/
def sFld (K : PySem.W.Frag) (ta tv : TE) (f : Str) : TS := fun D σ H => tv σ H fun y H1 => ta σ H1 fun x H2 => ∃ a C dx fs, x = .ref a ∧ H2 a = some (.ins C dx fs) ∧ Cls K C ∧ NoAttr K C f ∧ fs.length < 1000 ∧
  D.nx σ (upd H2 a (.ins C dx (putF f y fs)))
section
variable {X : Cx} {o e value : Expr} {f : Str} {pos pos' tpos : Pos} {ta tv : TE}
theorem pe_fld (he : PE X e ta) (hb : attributeBase e f X.env (eval e X.env) = eval e X.env) : PE X (.Attribute e f pos) (tFld X.K ta f) := by
  intro pins s σ H Q I h
  refine attr_of hb (thn (he pins s σ H _ I h) fun u s1 ⟨x, H1, I1, rx, a, C, dx, fs, v, ex, ea, c, n, l, q⟩ => ?_)
  subst ex
  obtain rfl : u = Value.ref a := rx
  exact getattr_ok I1 ea c n l fun u' s2 I2 ru => ⟨v, H1, I2, ru, q⟩
theorem ps_fld (ha : PE X o ta) (hv : PE X value tv) (hs : swapsWith value (some (.Attribute o f pos')) pos.line X.env = pure false) : PS X (.Assign [.Attribute o f pos'] value pos) (sFld X.K ta tv f) := by
  intro pins s σ H D I h
  refine plainObj_wpAny_Assign_Attribute (thn (hv pins s σ H _ I h) fun u s1 ⟨y, H1, I1, ry, q⟩ => thn (ha pins s1 σ H1 _ I1 q) fun ov s2 ⟨x, H2, I2, rx, a, C, dx, fs, ex, ea, c, n, l, q2⟩ => ?_) hs
  subst ex
  obtain rfl : ov = Value.ref a := rx
  exact setattr_ok I2 ea c n l ry fun s3 I3 => ⟨σ, _, I3, q2⟩
end

/-! ### isinstance -/
section
variable {X : Cx} {pins : List (Addr × Obj)} {σ : St} {H : Hp} {s : Shared} {A : Around} {E : Value → Shared → Prop} {Q : Value → Shared → Prop} {c : Value} {b : Bool}
end
end L2

namespace L2
open PySem PySem.Spec PyProof.Rows

/-! ### room -/
structure Room (k : Nat) (A : Around) : Prop where
  hd : A.handled = none
  dp : A.depth + 3 * k + 5 < recursionLimit
  un : A.units + 16 * k + 200 < cLine
theorem Room.mono {j k : Nat} {A : Around} (r : Room k A) (h : j ≤ k) : Room j A := ⟨r.hd, by have := r.dp; omega, by have := r.un; omega⟩
theorem Room.deeper {k : Nat} {A : Around} (r : Room (k + 1) A) (env : Env) : Room k (A.deeper env) :=
  ⟨r.hd, by have := r.dp; show A.depth + 1 + 3 * k + 5 < _; omega, by have := r.un; show A.units + 3 + 16 * k + 200 < _; omega⟩
theorem make_depth {A : Around} {C : Addr} {us : List Value} {kw : List (Str × Value)} : (A.under (.builtin "type.__call__" ⟨.ref C :: us, kw⟩)).depth = A.depth + 1 := by
  first | rfl | simp [Around.under, Code.weight, Code.isCreation, Code.isGuard, Code.isCaller, Code.frames, Code.isFrame, guardIds]
theorem make_units {A : Around} {C : Addr} {us : List Value} {kw : List (Str × Value)} : (A.under (.builtin "type.__call__" ⟨.ref C :: us, kw⟩)).units = A.units + 1 := by
  first | rfl | simp [Around.under, Code.cUnits, Code.frames, Code.isFrame]
theorem Room.make {k : Nat} {A : Around} (r : Room (k + 1) A) (C : Addr) (us : List Value) (kw : List (Str × Value)) : Room k (A.under (.builtin "type.__call__" ⟨.ref C :: us, kw⟩)) :=
  ⟨r.hd, by have := r.dp; rw [make_depth]; omega, by have := r.un; rw [make_units]; omega⟩
theorem Room.depth {k : Nat} {A : Around} (r : Room k A) : A.depth < recursionLimit := by have := r.dp; omega
theorem Room.units {k : Nat} {A : Around} (r : Room k A) : A.units + 64 < cLine := by have := r.un; omega
/-! ### argument lists and displays -/
def tNil : TA := fun _ H Q => Q [] H
def tCons (ta : TE) (tr : TA) : TA := fun σ H Q => ta σ H fun x H1 => tr σ H1 fun xs H2 => Q (x :: xs) H2
section
variable {X : Cx} {e : Expr} {es : List Expr} {te : TE} {t : TA} {pos : Pos}
theorem pa_nil : PA X [] tNil := fun _ _ _ _ H Q I h => Calls.spliced_nil ⟨[], H, I, .nil, h⟩
theorem pa_cons (ha : PE X e te) (hr : PA X es t) (hs : starEach (e :: es) X.env = (false, eval e X.env) :: starEach es X.env := by rfl) : PA X (e :: es) (tCons te t) := by
  intro pos pins s σ H Q I h
  rw [hs]
  show wpAny _ _ (spliced ((false, eval e X.env) :: backTo pos (starEach es X.env))) _ _ s
  refine Calls.spliced_cons (thn (ha pins s σ H _ I h) fun u s1 ⟨x, H1, I1, r1, q1⟩ => ?_)
  exact thn (hr pos pins s1 σ H1 _ I1 q1) fun us s2 ⟨xs, H2, I2, r2, q2⟩ => ⟨x :: xs, H2, I2, .cons r1 r2, q2⟩

/-- a tuple, a list of written items -/
def tTup (t : TA) : TE := fun σ H Q => t σ H fun xs H1 => xs.length ≤ sizeLine ∧ ∀ p, H1 p = none → Q (.ref p) (upd H1 p (.tup xs))
def tLst (t : TA) : TE := fun σ H Q => t σ H fun xs H1 => xs.length ≤ sizeLine ∧ ∀ p, H1 p = none → Q (.ref p) (upd H1 p (.lst xs))
theorem pe_tup {x1} (h : PA X es t) : PE X (.Tuple es x1 pos) (tTup t) := by
  intro pins s σ H Q I hq
  refine wpAny_Tuple_spliced (thn (h pos pins s σ H _ I hq) fun us s1 ⟨xs, H1, I1, r, z, q⟩ => ⟨by rw [← r.length]; exact z, ?_⟩)
  have hf : H1 s1.heap.objs.size = none := I1.hok.fresh (Nat.le_refl _)
  refine ⟨.ref s1.heap.objs.size, upd H1 s1.heap.objs.size (.tup xs), I1.laid (t' := s1.toks) (fun b u e => Heap.get?_push_of_some _ e) (Nat.le_refl _) ?_, rfl, q _ hf⟩
  exact ⟨z, us, r, ⟨_, Heap.get?_push_size _ rfl, rfl, _, rfl⟩⟩
theorem pe_lst (h : PA X es t) : PE X (.List es pos) (tLst t) := by
  intro pins s σ H Q I hq
  refine wpAny_List_spliced (thn (h pos pins s σ H _ I hq) fun us s1 ⟨xs, H1, I1, r, z, q⟩ => ⟨by rw [← r.length]; exact z, ?_⟩)
  have hf : H1 s1.heap.objs.size = none := I1.hok.fresh (Nat.le_refl _)
  refine ⟨.ref s1.heap.objs.size, upd H1 s1.heap.objs.size (.lst xs), I1.laid (t' := s1.toks) (fun b u e => Heap.get?_push_of_some _ e) (Nat.le_refl _) ?_, rfl, q _ hf⟩
  exact ⟨z, us, 0, r, Heap.get?_push_size _ rfl⟩
end

/-! ### what a def promises -/
/-- a def's promise: the bound arguments in the parameters' order, the heap, the wanted end, the wanted exception -/
abbrev Sp := List V → Hp → VK → XK → Prop
/-- how an exception lies behind a call (file 08 gives it): the callers' frames, abstract heap and state ahead of the call, the wish, the exception, the state -/
abbrev CXT := List Env → Hp → Shared → XK → Value → Shared → Prop

/-- the state at a call -/
structure Env0 (P : Program) (w : World) (K : PySem.W.Frag) (mg : Str → Option Value) (base : Heap) (A : Around) (outer : List Env) (s : Shared) (H : Hp) : Prop where
  frames : A.frames = some outer
  mod : Mod K mg base
  bs : ∀ b o, base.get? b = some o → s.heap.get? b = some o ∧ H b = none
  bsz : base.objs.size ≤ s.heap.objs.size
  funs : s.heap.FunFrames base outer
  frf : ∀ b ∈ frs outer, H b = none
  hok : HOk P w H s.heap
  bare : AllBare s.gens
/-- a call's end -/
def CE (outer : List Env) (P : Program) (w : World) (H : Hp) (s : Shared) (Q : VK) (u : Value) (s' : Shared) : Prop :=
  ∃ v H', s'.os = s.os ∧ AllBare s'.gens ∧ Un (frs outer) [] H H' s.heap s'.heap ∧ HOk P w H' s'.heap ∧ RelV v u ∧ Q v H'
def CR (CX : CXT) (outer : List Env) (P : Program) (w : World) (H : Hp) (s : Shared) (Q : VK) (E : XK) (r : Result) (s' : Shared) : Prop :=
  match r with
  | .ok (.ret u) => CE outer P w H s Q u s'
  | .ok _ => False
  | .error e => CX outer H s E e s'
structure FnOk (P : Program) (w : World) (K : PySem.W.Frag) (mg : Str → Option Value) (base : Heap) (CX : CXT) (k : Nat) (f : Addr) (fd : FuncData) (ps : List Str) (sp : Sp) : Prop where
  len : ∀ vs H Q E, sp vs H Q E → vs.length = ps.length
  run : ∀ (A : Around) (outer : List Env) (s : Shared) (H : Hp) (args : Args) (us : List Value) (vs : List V) (Q : VK) (E : XK), Room k A → Env0 P w K mg base A outer s H → BindsTo s fd args (ps.zip us) → Vals vs us → sp vs H Q E →
    codeAny (model P w) A (.call (.ref f) args) (CR CX outer P w H s Q E) s
theorem Env0.make {P : Program} {w : World} {K : PySem.W.Frag} {mg : Str → Option Value} {base : Heap} {A : Around} {outer : List Env} {s : Shared} {H : Hp} (e : Env0 P w K mg base A outer s H) (C : Addr) (us : List Value) (kw : List (Str × Value)) :
    Env0 P w K mg base (A.under (.builtin "type.__call__" ⟨.ref C :: us, kw⟩)) outer s H := ⟨by first | exact e.frames | (simpa [Around.under, Code.envs, Code.isFrame, pushEnvs] using e.frames), e.mod, e.bs, e.bsz, e.funs, e.frf, e.hok, e.bare⟩
section
variable {X : Cx} {pins : List (Addr × Obj)} {σ : St} {H : Hp} {s s' : Shared}
/-- from a body: what a callee wants -/
theorem Inv.env0 (I : Inv X pins σ H s) : Env0 X.prog X.w X.K X.mg X.base X.A X.stack s H :=
  ⟨I.ok.frames, I.ok.mod, I.bs, Nat.le_trans I.ok.bsz I.sz, I.stack, I.stkFree, I.hok, I.bare⟩
/-- behind a call -/
theorem Inv.after {Q : VK} {u : Value} (I : Inv X pins σ H s) (h : CE X.stack X.prog X.w H s Q u s') : EP X pins σ Q u s' := by
  obtain ⟨v, H', os, bare, un, hok, r, q⟩ := h
  obtain ⟨hh, g, d, t, os'⟩ := s'
  obtain rfl : os' = s.os := os
  exact ⟨v, H', I.call (h' := hh) (g' := g) (d' := d) (t' := t) (ch := []) un hok bare (fun b z => absurd z (by simp)), r, q⟩
end

/-! ### calls -/
/-- f(..): the written arguments, then the defaults dvs; E: what is wanted of an exception -/
def tCall (sp : Sp) (dvs : List V) (E : XK) (t : TA) : TE := fun σ H Q => t σ H fun vs H1 => sp (vs ++ dvs) H1 Q E
/-- o.m(..) of an instance of the class at C -/
def tMeth (C : Addr) (m : Str) (sp : Sp) (dvs : List V) (E : XK) (ta : TE) (t : TA) : TE := fun σ H Q => ta σ H fun x H1 => ∃ a dx fs, x = .ref a ∧ H1 a = some (.ins C dx fs) ∧ fs.lookup m = none ∧
  t σ H1 fun vs H2 => sp (x :: (vs ++ dvs)) H2 Q E
/-- C(..): a new instance and its dict, then __init__ -/
def tMake (C : Addr) (sp : Sp) (dvs : List V) (E : XK) (t : TA) : TE := fun σ H Q => t σ H fun vs H1 => ∀ x dx, H1 x = none → H1 dx = none → dx ≠ x →
  sp (.ref x :: (vs ++ dvs)) (upd (upd H1 dx (.own x)) x (.ins C dx [])) (fun v H2 => v = .non ∧ Q (.ref x) H2) E

/-- how the parameters are bound: us the positional arguments, kw the keywords' values by name, ds the defaults that fill up -/
def Binds (K : PySem.W.Frag) (fd : FuncData) (ps : List Str) (ds : List Value) : Prop :=
  ∀ (s : Shared) (us : List Value), K.In s.heap → (us ++ ds).length = ps.length → BindsTo s fd ⟨us, []⟩ (ps.zip (us ++ ds))
/-- every parameter is given -/
theorem Binds.all {K : PySem.W.Frag} {fd : FuncData} {ps : List Str} (h : ∀ us : List Value, us.length = ps.length → bindArgs fd ⟨us, []⟩ = pure (ps.zip us)) : Binds K fd ps [] := fun s us _ hl => by
  rw [List.append_nil] at hl ⊢
  exact .of_eq (h us hl)

/-- an exception of a callee reaches what this body wants of exceptions -/
def Passes (CX : CXT) (X : Cx) (E : XK) : Prop := ∀ (pins : List (Addr × Obj)) (σ : St) (H : Hp) (s : Shared) (e : Value) (s' : Shared), Inv X pins σ H s → CX X.stack H s E e s' → X.xe e s'

section
variable {X : Cx} {CX : CXT} {k : Nat} {f C : Addr} {fd : FuncData} {ps : List Str} {sp : Sp} {dvs : List V} {ds : List Value} {E : XK} {x m : Str} {p pos apos : Pos} {e o : Expr} {es : List Expr} {ta : TE} {t : TA}

/-- the callee runs -/
theorem run_fn {pins : List (Addr × Obj)} {σ : St} {H : Hp} {s : Shared} {Q : VK} {us : List Value} {vs : List V} (F : FnOk X.prog X.w X.K X.mg X.base CX k f fd ps sp) (hr : Room k X.A) (hb : Binds X.K fd ps ds) (hd : Vals dvs ds) (hx : Passes CX X E)
    (I : Inv X pins σ H s) (r : Vals vs us) (h : sp (vs ++ dvs) H Q E) : wpAny (model X.prog X.w) X.A (call (.ref f) us) (EP X pins σ Q) X.xe s := by
  have r2 : Vals (vs ++ dvs) (us ++ ds) := r.append hd
  have hl : (us ++ ds).length = ps.length := by rw [← r2.length]; exact F.len _ _ _ _ h
  refine wpAny_call (codeAny_mono (F.run X.A X.stack s H ⟨us, []⟩ (us ++ ds) (vs ++ dvs) Q E hr I.env0 (hb s us I.kIn hl) r2 h) fun r s' hq => ?_)
  cases r with
  | error e => exact hx pins σ H s e s' I hq
  | ok fl =>
    cases fl with
    | ret u => exact I.after hq
    | next => exact False.elim hq
    | brk => exact False.elim hq
    | cont => exact False.elim hq

theorem pe_call (F : FnOk X.prog X.w X.K X.mg X.base CX k f fd ps sp) (hr : Room k X.A) (hg : Gl X x) (hm : X.mg x = some (.ref f)) (hk : PySem.W.keepIn X.K (.ref f) = true) (hb : Binds X.K fd ps ds) (hd : Vals dvs ds) (hx : Passes CX X E)
    (ha : PA X (e :: es) t) (hdb : (x == ("__debug__" : Str)) = false := by decide) (he : starEach (e :: es) X.env = (false, eval e X.env) :: starEach es X.env := by rfl) (hpl : (backTo pos (starEach es X.env)).any (·.1) = false := by rfl) :
    PE X (.Call (.Name x p) (e :: es) [] pos) (tCall sp dvs E t) := by
  intro pins s σ H Q I h
  refine wpAny_Call_Name_kw (ld_glob I hg hm ?_ hdb)
  refine PySem.W.callWith_K (h₀ := X.base) I.ok.mod.kin hk (thn (ha pos pins s σ H _ I h) fun us s1 ⟨vs, H1, I1, r, q⟩ => ⟨I1.kIn, ?_⟩) he hpl
  exact run_fn F hr hb hd hx I1 r q
/-- o.m(e, ..) -/
theorem pe_meth {pl : Sem Bool} (he : PE X o ta) (c : Cls X.K C) (hm : Meth X.K C m f) (F : FnOk X.prog X.w X.K X.mg X.base CX k f fd ps sp) (hr : Room k X.A) (hb : Binds X.K fd ps ds) (hd : Vals dvs ds) (hx : Passes CX X E) (ha : PA X (e :: es) t)
    (hst : starEach (e :: es) X.env = (false, eval e X.env) :: starEach es X.env := by rfl) (hpl : (backTo pos (starEach es X.env)).any (·.1) = false := by rfl)
    (ht : eval (.Call (.Attribute o m apos) (e :: es) [] pos) X.env = (do
      let ov ← eval o X.env
      standAt apos.atName
      let (f, first) ← holding [ov] (getMethod ov m pl)
      callWith pos f first (backTo pos (starEach (e :: es) X.env)) (backToKw pos (keywordEach [] X.env))) := by rfl) :
    PE X (.Call (.Attribute o m apos) (e :: es) [] pos) (tMeth C m sp dvs E ta t) := by
  intro pins s σ H Q I h
  refine PySem.W.methodCall_KW (pl := pl) (thn (he pins s σ H _ I h) fun u s1 ⟨x, H1, I1, rx, a, dx, fs, ex, ea, l, q⟩ => ?_) ht
  subst ex
  obtain rfl : u = Value.ref a := rx
  refine getmeth_ok I1 ea c hm l ?_
  refine PySem.W.callWith_K (first := [.ref a]) (h₀ := X.base) I.ok.mod.kin hm.kp (thn (ha pos pins s1 σ H1 _ I1 q) fun us s2 ⟨vs, H2, I2, r, q2⟩ => ⟨I2.kIn, ?_⟩) hst hpl
  exact run_fn (us := .ref a :: us) (vs := .ref a :: vs) F hr hb hd hx I2 (.cons rfl r) q2
/-- o.m() -/
theorem pe_meth0 {pl : Sem Bool} (he : PE X o ta) (c : Cls X.K C) (hm : Meth X.K C m f) (F : FnOk X.prog X.w X.K X.mg X.base CX k f fd ps sp) (hr : Room k X.A) (hb : Binds X.K fd ps ds) (hd : Vals dvs ds) (hx : Passes CX X E)
    (ht : eval (.Call (.Attribute o m apos) [] [] pos) X.env = (do
      let ov ← eval o X.env
      standAt apos.atName
      let (f, first) ← holding [ov] (getMethod ov m pl)
      callWith pos f first (backTo pos (starEach [] X.env)) (backToKw pos (keywordEach [] X.env))) := by rfl) :
    PE X (.Call (.Attribute o m apos) [] [] pos) (tMeth C m sp dvs E ta tNil) := by
  intro pins s σ H Q I h
  refine PySem.W.methodCall_KW (pl := pl) (thn (he pins s σ H _ I h) fun u s1 ⟨x, H1, I1, rx, a, dx, fs, ex, ea, l, q⟩ => ?_) ht
  subst ex
  obtain rfl : u = Value.ref a := rx
  refine getmeth_ok I1 ea c hm l ?_
  exact PySem.W.callWith_K0 (first := [.ref a]) I1.kIn hm.kp (run_fn (us := [.ref a]) (vs := [.ref a]) F hr hb hd hx I1 (.cons rfl .nil) q)

/-- what a class must have to be made -/
structure Mk (K : PySem.W.Frag) (C f : Addr) : Prop where
  makes : PySem.W.makesIn K C = true
  init : PySem.W.findIn K (.ref C) "__init__" = some (some (.ref f))
  fn : PySem.W.isFn K (.ref f) = true
  kp : PySem.W.keepIn K (.ref C) = true

theorem run_make {pins : List (Addr × Obj)} {σ : St} {H : Hp} {s : Shared} {Q : VK} {us : List Value} {vs : List V} (M : Mk X.K C f) (F : FnOk X.prog X.w X.K X.mg X.base CX k f fd ps sp) (hr : Room (k + 1) X.A) (hb : Binds X.K fd ps ds) (hd : Vals dvs ds)
    (hx : Passes CX X E) (I : Inv X pins σ H s) (r : Vals vs us)
    (h : ∀ x dx, H x = none → H dx = none → dx ≠ x → sp (.ref x :: (vs ++ dvs)) (upd (upd H dx (.own x)) x (.ins C dx [])) (fun v H2 => v = .non ∧ Q (.ref x) H2) E) :
    wpAny (model X.prog X.w) X.A (call (.ref C) us) (EP X pins σ Q) X.xe s := by
  have hq := h (s.heap.objs.size + 1) s.heap.objs.size (I.hok.fresh (Nat.le_succ _)) (I.hok.fresh (Nat.le_refl _)) (Nat.ne_of_lt (Nat.lt_succ_self _))
  have I2 := Inv.made (C := C) I
  have r2 : Vals (V.ref (s.heap.objs.size + 1) :: (vs ++ dvs)) (Value.ref (s.heap.objs.size + 1) :: (us ++ ds)) := .cons rfl (r.append hd)
  have hl : (Value.ref (s.heap.objs.size + 1) :: us ++ ds).length = ps.length := by
    have e := r2.length
    rw [F.len _ _ _ _ hq] at e
    exact e.symm
  refine wpAny_call (make_map (f := f) I.kIn M.makes M.init (beq_iff_eq.mp M.fn) (codeAny_mono (F.run _ X.stack _ _ ⟨Value.ref (s.heap.objs.size + 1) :: us, []⟩ (Value.ref (s.heap.objs.size + 1) :: (us ++ ds)) _ _ E (hr.make C us [])
    (I2.env0.make C us []) (hb _ (Value.ref (s.heap.objs.size + 1) :: us) I2.kIn hl) r2 hq) fun r s' hq' => ?_))
  cases r with
  | error e => exact hx pins σ _ _ e s' I2 hq'
  | ok fl =>
    cases fl with
    | ret u =>
      obtain ⟨v, H', I3, rv, ev, q3⟩ := I2.after hq'
      subst ev
      exact ⟨rv, ⟨V.ref (s.heap.objs.size + 1), H', I3, rfl, q3⟩⟩
    | next => exact False.elim hq'
    | brk => exact False.elim hq'
    | cont => exact False.elim hq'
theorem pe_make (M : Mk X.K C f) (F : FnOk X.prog X.w X.K X.mg X.base CX k f fd ps sp) (hr : Room (k + 1) X.A) (hg : Gl X x) (hm : X.mg x = some (.ref C)) (hb : Binds X.K fd ps ds) (hd : Vals dvs ds) (hx : Passes CX X E)
    (ha : PA X (e :: es) t) (hdb : (x == ("__debug__" : Str)) = false := by decide) (he : starEach (e :: es) X.env = (false, eval e X.env) :: starEach es X.env := by rfl) (hpl : (backTo pos (starEach es X.env)).any (·.1) = false := by rfl) :
    PE X (.Call (.Name x p) (e :: es) [] pos) (tMake C sp dvs E t) := by
  intro pins s σ H Q I h
  refine wpAny_Call_Name_kw (ld_glob I hg hm ?_ hdb)
  refine PySem.W.callWith_K (h₀ := X.base) I.ok.mod.kin M.kp (thn (ha pos pins s σ H _ I h) fun us s1 ⟨vs, H1, I1, r, q⟩ => ⟨I1.kIn, ?_⟩) he hpl
  exact run_make M F hr hb hd hx I1 r q
theorem pe_make0 (M : Mk X.K C f) (F : FnOk X.prog X.w X.K X.mg X.base CX k f fd ps sp) (hr : Room (k + 1) X.A) (hg : Gl X x) (hm : X.mg x = some (.ref C)) (hb : Binds X.K fd ps ds) (hd : Vals dvs ds) (hx : Passes CX X E)
    (hdb : (x == ("__debug__" : Str)) = false := by decide) : PE X (.Call (.Name x p) [] [] pos) (tMake C sp dvs E tNil) := by
  intro pins s σ H Q I h
  refine wpAny_Call_Name_kw (ld_glob I hg hm ?_ hdb)
  exact PySem.W.callWith_K0 I.kIn M.kp (run_make (us := []) M F hr hb hd hx I .nil h)
end

/-! ### keywords -/
/-- the values of the keywords, from the left -/
def PK (X : Cx) (kws : List Keyword) (t : TA) : Prop :=
  ∀ (pos : Pos) (pins : List (Addr × Obj)) (s : Shared) (σ : St) (H : Hp) (Q : List V → Hp → Prop), Inv X pins σ H s → t σ H Q → wpAny (model X.prog X.w) X.A (evalAll ((backToKw pos (keywordEach kws X.env)).map (·.2))) (AP X pins σ Q) X.xe s
section
variable {X : Cx} {CX : CXT} {k : Nat} {f C : Addr} {fd : FuncData} {ps ks : List Str} {sp : Sp} {E : XK} {x m : Str} {p pos apos kpos : Pos} {e o : Expr} {es : List Expr} {kws : List Keyword} {te ta : TE} {t tk : TA} {nm : Option Str}
theorem pk_nil : PK X [] tNil := fun _ _ _ _ H Q I h => wpAny_evalAll_nil ⟨[], H, I, .nil, h⟩
theorem pk_cons (ha : PE X e te) (hr : PK X kws t) : PK X (⟨nm, e, kpos⟩ :: kws) (tCons te t) := by
  intro pos pins s σ H Q I h
  show wpAny _ _ (evalAll ((do let v ← eval e X.env; standAt pos; pure v) :: (backToKw pos (keywordEach kws X.env)).map (·.2))) _ _ s
  refine wpAny_evalAll_cons (wpAny_bind (thn (ha pins s σ H _ I h) fun u s1 ⟨x, H1, I1, r1, q1⟩ => wpAny_bind (wpAny_standAt (wpAny_pure ?_))))
  exact thn (hr pos pins s1 σ H1 _ I1 q1) fun us s2 ⟨xs, H2, I2, r2, q2⟩ => ⟨x :: xs, H2, I2, .cons r1 r2, q2⟩

variable {g : List Value → List Value → List Value} {gV : List V → List V → List V}
end

/-! ### a def's body keeps its promise -/
/-- names: the parameters first -/
structure FnScope (N P : List Str) (sc : Scope) : Prop where
  kind : sc.kind = .function
  co : sc.isCoroutine = false
  gen : sc.isGenerator = false
  nd : N.Nodup
  pre : N.take P.length = P
  par : ∀ x ∈ P, sc.names.lookup x = some .local ∨ sc.names.lookup x = some .cell
  nofree : ∀ y ∈ sc.names, y.2 ≠ .free

theorem bindL_out {kindOf : Str → Option NameKind} {x : Str} : ∀ {binds : List (Str × Value)} {m : Str → Option Value}, (∀ v, (x, v) ∉ binds) → bindL kindOf binds m x = m x
  | [], _, _ => rfl
  | (n, v) :: r, m, h => by
    unfold bindL
    rw [bindL_out fun w hw => h w (List.mem_cons_of_mem _ hw)]
    split
    · have : x ≠ n := by rintro rfl; exact h v List.mem_cons_self
      simp [this]
    · rfl
theorem bindC_out {kindOf : Str → Option NameKind} {x : Str} : ∀ {binds : List (Str × Value)} {m : Str → Option Value}, (∀ v, (x, v) ∉ binds) → bindC kindOf binds m x = m x
  | [], _, _ => rfl
  | (n, v) :: r, m, h => by
    unfold bindC
    rw [bindC_out fun w hw => h w (List.mem_cons_of_mem _ hw)]
    split
    · rfl
    · have : x ≠ n := by rintro rfl; exact h v List.mem_cons_self
      simp [this]
theorem bindL_get {kindOf : Str → Option NameKind} {x : Str} {v : Value} : ∀ {P : List Str} {vs : List Value} {i : Nat} {m : Str → Option Value}, P.Nodup → P[i]? = some x → vs[i]? = some v → kindOf x = some .local →
    bindL kindOf (P.zip vs) m x = some v
  | [], _, _, _, _, h, _, _ => by simp at h
  | _ :: _, [], _, _, _, _, h, _ => by simp at h
  | p :: P, w :: vs, 0, m, nd, h1, h2, hk => by
    simp at h1 h2; subst h1; subst h2
    show bindL kindOf ((p, w) :: P.zip vs) m p = _
    unfold bindL
    rw [bindL_out fun v hv => (List.nodup_cons.mp nd).1 (List.of_mem_zip hv).1, if_pos hk]
    simp
  | p :: P, w :: vs, i + 1, m, nd, h1, h2, hk => by
    show bindL kindOf ((p, w) :: P.zip vs) m x = _
    unfold bindL
    exact bindL_get (i := i) (List.nodup_cons.mp nd).2 (by simpa using h1) (by simpa using h2) hk
theorem bindC_get {kindOf : Str → Option NameKind} {x : Str} {v : Value} : ∀ {P : List Str} {vs : List Value} {i : Nat} {m : Str → Option Value}, P.Nodup → P[i]? = some x → vs[i]? = some v → kindOf x ≠ some .local →
    bindC kindOf (P.zip vs) m x = some v
  | [], _, _, _, _, h, _, _ => by simp at h
  | _ :: _, [], _, _, _, _, h, _ => by simp at h
  | p :: P, w :: vs, 0, m, nd, h1, h2, hk => by
    simp at h1 h2; subst h1; subst h2
    show bindC kindOf ((p, w) :: P.zip vs) m p = _
    unfold bindC
    rw [bindC_out fun v hv => (List.nodup_cons.mp nd).1 (List.of_mem_zip hv).1, if_neg hk]
    simp
  | p :: P, w :: vs, i + 1, m, nd, h1, h2, hk => by
    show bindC kindOf ((p, w) :: P.zip vs) m x = _
    unfold bindC
    exact bindC_get (i := i) (List.nodup_cons.mp nd).2 (by simpa using h1) (by simpa using h2) hk

/-- the names' values at the entry -/
def start (N : List Str) (vs : List V) : St := vs.map some ++ List.replicate (N.length - vs.length) none

/-- the context of a def's body, at its entry; an exception leaves the frame, then lies as CX says -/
def cxOf (CX : CXT) (P : Program) (w : World) (K : PySem.W.Frag) (mg : Str → Option Value) (base : Heap) (N : List Str) (qual : Str) (scope : Scope) (f : Addr) (cd : Value) (A : Around) (outer : List Env) (s : Shared) (H : Hp) (E : XK) : Cx where
  prog := P
  w := w
  K := K
  mg := mg
  base := base
  A := A.deeper (envOfC qual scope s.heap.objs.size f cd)
  N := N
  s_0 := s
  H_0 := H
  env := envOfC qual scope s.heap.objs.size f cd
  outer := outer
  stack := envOfC qual scope s.heap.objs.size f cd :: outer
  ex := []
  calm := true
  fn := fun _ => true
  pn := []
  xe := fun e s' => wpAny (model P w) (A.deeper (envOfC qual scope s.heap.objs.size f cd)) (leaving (envOfC qual scope s.heap.objs.size f cd) e) (fun _ s'' => CX outer H s E e s'') (fun e' s'' => CX outer H s E e' s'') s'

theorem cell_has {sc : Scope} {n : Nat} {x : Str} (h : sc.names.lookup x = some .cell) : ∃ c, (cellsFrom n sc.names []).lookup x = some c := by
  have q := PySem.W.cellsFrom_some sc.names n [] (.inl h)
  exact Option.isSome_iff_exists.mp q

theorem inv_start {CX : CXT} {P : Program} {w : World} {K : PySem.W.Frag} {mg : Str → Option Value} {base : Heap} {N ps : List Str} {qual : Str} {scope : Scope} {f : Addr} {cd : Value} {A : Around} {outer : List Env} {s s1 : Shared} {H : Hp} {E : XK} {us : List Value} {vs : List V}
    (S : FnScope N ps scope) (hd : A.handled = none) (e0 : Env0 P w K mg base A outer s H) (hl : vs.length = ps.length) (r : Vals vs us)
    (x : InCallC s s.heap.objs.size (bindL (envOfC qual scope s.heap.objs.size f cd).kindOf (ps.zip us) fun _ => none) (cellsFrom (s.heap.objs.size + 1) scope.names []) (bindC (envOfC qual scope s.heap.objs.size f cd).kindOf (ps.zip us) fun _ => none) s1) :
    Inv (cxOf CX P w K mg base N qual scope f cd A outer s H E) [] (start N vs) H s1 := by
  have hpl : ps.length ≤ N.length := by have := congrArg List.length S.pre; rw [List.length_take] at this; omega
  obtain ⟨h1, tk, rfl, hk⟩ := x.done
  have noA : ∀ b : Addr, b ∉ (cxOf CX P w K mg base N qual scope f cd A outer s H E).ex := fun b z => absurd (show b ∈ ([] : List Addr) from z) (by simp)
  refine ⟨⟨e0.mod, S.kind, rfl, rfl, Nat.le_refl _, fun y z c h1 h2 => ?_, fun y hy => ?_, fun y c _ h => ?_, fun _ => hd, Around.frames_deeper e0.frames, .inr ⟨rfl, rfl⟩, fun b z => absurd z (noA b), e0.bs, e0.bsz, fun b _ _ => noA b, fun b z => absurd z (noA b), e0.funs, e0.frf⟩,
    rfl, e0.bare, Un.kept hk, ⟨_, x.toInCall.ns, fun i y v h1 h2 h3 => ?_⟩, fun y c h => ⟨_, x.cell y c h⟩, e0.hok.fresh (Nat.le_refl _), fun y c h => ?_, fun p hp => absurd (show p ∈ ([] : List (Addr × Obj)) from hp) (by simp), e0.hok.kept hk, ?_⟩
  · exact name_of_addr x.apart (PySem.mem_of_lookup h1) (PySem.mem_of_lookup h2)
  · have hy : scope.names.lookup y = some .cell ∨ scope.names.lookup y = some .free := hy
    rcases hy with hy | hy
    · exact cell_has hy
    · exact absurd rfl (S.nofree _ (PySem.mem_of_lookup hy))
  · exact Nat.le_of_lt (x.above y c (PySem.mem_of_lookup h))
  · have hi : i < vs.length := by
      unfold start at h2
      by_cases hi : i < vs.length
      · exact hi
      · rw [List.getElem?_append_right (by simpa using hi)] at h2
        rw [List.getElem?_replicate] at h2
        split at h2 <;> cases h2
    have ha : vs[i]? = some v := by
      unfold start at h2
      rw [List.getElem?_append_left (by simpa using hi), List.getElem?_map] at h2
      cases e : vs[i]? with
      | none => rw [e] at h2; cases h2
      | some a => rw [e] at h2; cases h2; rfl
    obtain ⟨u, hu, rv⟩ := r.get ha
    have hp : ps[i]? = some y := by
      rw [← S.pre, List.getElem?_take_of_lt (by omega)]; exact h1
    have ndP : ps.Nodup := by rw [← S.pre]; exact S.nd.sublist (List.take_sublist _ _)
    refine ⟨u, rv, ?_⟩
    rcases S.par y (List.mem_of_getElem? hp) with k | k
    · exact .inl ⟨k, bindL_get ndP hp hu k⟩
    · obtain ⟨c, e⟩ := cell_has (n := s.heap.objs.size + 1) k
      refine .inr ⟨.inl k, c, e, ?_⟩
      have q := x.cell y c e
      rw [bindC_get ndP hp hu (by show scope.names.lookup y ≠ _; rw [k]; decide)] at q
      exact q
  · exact e0.hok.fresh (Nat.le_of_lt (x.above y c (PySem.mem_of_lookup h)))
  · unfold start
    show _ = N.length
    rw [List.length_append, List.length_map, List.length_replicate]
    omega

/-- THE RULE: a def (or a method) of the text, by its body. The body's reading t is chosen for each entry; it is run at the parameters' values -/
theorem fn_of {CX : CXT} {P : Program} {w : World} {K : PySem.W.Frag} {mg : Str → Option Value} {base : Heap} {k : Nat} {f : Addr} {name qual : Str} {params : Arguments} {body : List Stmt} {scope : Scope} {dV kV doc pm cdv ct oc : Value} {an od : Option Addr}
    {osl : Array (Option Value)} {N ps : List Str} {sp : Sp} (lk : K.lookup f = some ⟨oc, od, .func (PySem.W.fnOf name qual params body scope dV kV doc pm an cdv ct), osl⟩) (hcd : PySem.W.codeIn K cdv qual = true) (S : FnScope N ps scope)
    (len : ∀ vs H Q E, sp vs H Q E → vs.length = ps.length)
    (hbody : ∀ (A : Around) (outer : List Env) (s : Shared) (H : Hp) (vs : List V) (Q : VK) (E : XK), Room k (A.deeper (envOfC qual scope s.heap.objs.size f cdv)) → sp vs H Q E →
      ∃ t, PSs (cxOf CX P w K mg base N qual scope f cdv A outer s H E) body t ∧ t { nx := fun _ H' => Q .non H', rt := Q } (start N vs) H) :
    FnOk P w K mg base CX (k + 1) f (PySem.W.fnOf name qual params body scope dV kV doc pm an cdv ct) ps sp := by
  refine ⟨len, fun A outer s H args us vs Q E hr e0 hb r hsp => ?_⟩
  have hl := len _ _ _ _ hsp
  have KX : K.In s.heap := e0.mod.kin.keeps fun b o e => (e0.bs b o e).1
  have lim : s.heap.NoLimit := e0.mod.nolimit.keeps fun b o e => (e0.bs b o e).1
  have hkind : ∀ y ∈ ps.zip us, scope.names.lookup y.1 = some .local ∨ (scope.names.lookup y.1 = some .cell ∧ ((cellsFrom (s.heap.objs.size + 1) scope.names []).lookup y.1).isSome = true) := fun ⟨n, v⟩ hy => by
    rcases S.par n (List.of_mem_zip hy).1 with q | q
    · exact .inl q
    · exact .inr ⟨q, PySem.W.cellsFrom_some _ _ _ (.inl q)⟩
  refine codeAny_call_function hr.depth (KX _ _ lk) rfl S.co S.gen rfl (PySem.W.codeRec_of KX hcd) (hb _ _ _ _ ?_)
  refine wpAny_newFunctionEnv_cells S.kind hkind fun env he s1 x => ?_
  subst he
  refine ⟨lim.keeps x.toInCall.keep, codeAny_func ?_⟩
  obtain ⟨t, ht, hq⟩ := hbody A outer s H vs Q E (hr.deeper _) hsp
  have I : Inv (cxOf CX P w K mg base N qual scope f cdv A outer s H E) [] (start N vs) H s1 := inv_start S hr.hd e0 hl r x
  refine wpAny_mono (ht [] s1 (start N vs) H _ I hq) (fun fl s' hs => ?_) fun e s' hs => hs
  have fin : ∀ {σ' : St} {H' : Hp} {v : V} {u : Value}, Inv (cxOf CX P w K mg base N qual scope f cdv A outer s H E) [] σ' H' s' → RelV v u → Q v H' → CE outer P w H s Q u s' :=
    fun {σ' H' v u} J rv q => ⟨v, H', J.os, J.bare, J.base, J.hok, rv, q⟩
  cases fl with
  | ret u =>
    obtain ⟨v, σ', H', J, rv, q⟩ := hs
    exact fin J rv q
  | next =>
    obtain ⟨σ', H', J, q⟩ := hs
    exact fin (v := V.non) (u := Value.none) J rfl q
  | brk =>
    obtain ⟨_, _, _, q⟩ := hs
    exact False.elim q
  | cont =>
    obtain ⟨_, _, _, q⟩ := hs
    exact False.elim q
end L2

namespace L2
open PySem PySem.Spec PyProof.Rows
section
variable {X : Cx} {x : Str} {p pos : Pos} {e : Expr} {es : List Expr} {t : TA} {id T : String} {r : List V → Hp → VK → Prop}

def tCB (r : List V → Hp → VK → Prop) (t : TA) : TE := fun σ H Q => t σ H fun vs H1 => r vs H1 Q
/-- f(e, ..), f a built-in function -/
theorem pe_callB (hc : CallR X (.builtin id) r) (hg : Gl X x) (hm : X.mg x = none) (hv : bootBuiltins x = some (.builtin id)) (ha : PA X (e :: es) t) (hn : x ≠ "__name__" := by decide) (hdb : (x == ("__debug__" : Str)) = false := by decide)
    (he : starEach (e :: es) X.env = (false, eval e X.env) :: starEach es X.env := by rfl) (hpl : (backTo pos (starEach es X.env)).any (·.1) = false := by rfl) : PE X (.Call (.Name x p) (e :: es) [] pos) (tCB r t) := by
  intro pins s σ H Q I h
  refine wpAny_Call_Name_kw (ld_blt I hg hm hv ?_ hn hdb)
  exact PyProof.Rows.callWith_builtin1 (thn (ha pos pins s σ H _ I h) fun us s1 ⟨vs, H1, I1, r1, q1⟩ => hc pins s1 σ H1 vs us Q I1 r1 q1) he hpl
/-- T(e, ..), T a built-in type -/
theorem pe_callTy (hc : CallR X (.type T) r) (hg : Gl X x) (hm : X.mg x = none) (hv : bootBuiltins x = some (.type T)) (ha : PA X (e :: es) t) (hn : x ≠ "__name__" := by decide) (hdb : (x == ("__debug__" : Str)) = false := by decide)
    (he : starEach (e :: es) X.env = (false, eval e X.env) :: starEach es X.env := by rfl) (hpl : (backTo pos (starEach es X.env)).any (·.1) = false := by rfl) : PE X (.Call (.Name x p) (e :: es) [] pos) (tCB r t) := by
  intro pins s σ H Q I h
  refine wpAny_Call_Name_kw (ld_blt I hg hm hv ?_ hn hdb)
  exact PyProof.Rows.callWith_type1 (thn (ha pos pins s σ H _ I h) fun us s1 ⟨vs, H1, I1, r1, q1⟩ => hc pins s1 σ H1 vs us Q I1 r1 q1) he hpl
end
end L2

namespace HT
open PySem PyProof.Rows

section
open PySem.SeqAt
open PySem.AutoSeq1 (wpAny_loadPart')
open PySem.MeetsSeq PySem.MeetsSeq2 PySem.MeetsSeq3

end

section
variable {prog : Program} {w : World} {A : Around} {E : Value → Shared → Prop} {s : Shared}

/-! ### t[a:b], not the whole -/
/-- a slice's bound as a place among n (d where it is left out) -/
def sIx (n d : Nat) : Option Int → Nat
  | none => d
  | some v => if v < 0 then (v + (n : Int)).toNat else min v.toNat n
theorem sIx_none (n d : Nat) : sIx n d none = d := rfl
theorem sIx_nat (n d k : Nat) : sIx n d (some (k : Int)) = min k n := by
  show (if (k : Int) < 0 then ((k : Int) + (n : Int)).toNat else min (k : Int).toNat n) = min k n
  rw [if_neg (by omega), Int.toNat_natCast]
end
end HT

namespace L2
open PySem PySem.Spec PyProof.Rows

/-! ### the parts of a slice -/
abbrev TO := St → Hp → (Option Int → Hp → Prop) → Prop
/-- a slice's part (left out, or an int) -/
def PO (X : Cx) (e : Option Expr) (t : TO) : Prop :=
  ∀ (pins : List (Addr × Obj)) (s : Shared) (σ : St) (H : Hp) (Q : Option Int → Hp → Prop), Inv X pins σ H s → t σ H Q →
    wpAny (model X.prog X.w) X.A (evalPart e X.env) (fun u s' => ∃ o H', Inv X pins σ H' s' ∧ IsPart u o ∧ Q o H') X.xe s
def tNoPart : TO := fun _ H Q => Q none H
def tPart (t : TE) : TO := fun σ H Q => t σ H fun x H1 => ∃ i, x = .int i ∧ Q (some i) H1

section
variable {X : Cx} {e : Expr} {te : TE} {lo hi : Option Expr} {tl th : TO} {pos p2 : Pos}

theorem po_none : PO X none tNoPart := by
  intro pins s σ H Q I h
  rw [evalPart_none]
  exact wpAny_pure ⟨none, H, I, .none, h⟩
theorem po_some (h : PE X e te) : PO X (some e) (tPart te) := by
  intro pins s σ H Q I hw
  rw [evalPart_some]
  refine thn (h pins s σ H _ I hw) fun u s1 ⟨x, H1, I1, r1, q1⟩ => ?_
  obtain ⟨i, rfl, q⟩ := q1
  obtain ⟨t, rfl⟩ := r1
  exact ⟨some i, H1, I1, .int i t, q⟩

/-- what a slice of a value is, by values: the slice object stands at sl -/
def SlR (X : Cx) (r : V → Option Int → Option Int → Hp → VK → Prop) : Prop :=
  ∀ (pins : List (Addr × Obj)) (s : Shared) (σ : St) (H : Hp) (x : V) (v vl vu : Value) (lo hi : Option Int) (sl : Addr) (Q : VK), Inv X pins σ H s → RelV x v → s.heap.IsSliceOf sl vl vu .none → IsPart vl lo → IsPart vu hi → r x lo hi H Q →
    ∃ T id, typeLookup (.type T) "__getitem__" = pure (some (.builtin id)) ∧ s.TypeIs v T ∧ wpAny (model X.prog X.w) X.A (getItem v (.ref sl)) (EP X pins σ Q) X.xe s
def tSl (r : V → Option Int → Option Int → Hp → VK → Prop) (te : TE) (tl th : TO) : TE := fun σ H Q => te σ H fun x H1 => tl σ H1 fun l H2 => th σ H2 fun u H3 => r x l u H3 Q
/-- a[lo:hi], any a -/
theorem pe_slice {r : V → Option Int → Option Int → Hp → VK → Prop} (hr : SlR X r) (he : PE X e te) (hl : PO X lo tl) (hu : PO X hi th) : PE X (.Subscript e (.Slice lo hi none p2) pos) (tSl r te tl th) := by
  intro pins s σ H Q I h
  refine Subscript_ (thn (he pins s σ H _ I h) fun v s1 ⟨x, H1, I1, r1, q1⟩ => ?_)
  refine wpAny_Slice (thn (hl pins s1 σ H1 _ I1 q1) fun vl s2 ⟨l, H2, I2, pl, q2⟩ => thn (hu pins s2 σ H2 _ I2 q2) fun vu s3 ⟨u, H3, I3, pu, q3⟩ => ?_)
  rw [evalPart_none]
  refine wpAny_pure ?_
  have I4 : Inv X pins σ H3 { s3 with heap := s3.heap.push { cls := .type "slice", data := .fields #[vl, vu, .none] } } := I3.kept (t' := s3.toks) fun b ob q => Heap.get?_push_of_some _ q
  obtain ⟨T, id, hT, ht, hg⟩ := hr pins { s3 with heap := s3.heap.push { cls := .type "slice", data := .fields #[vl, vu, .none] } } σ H3 x v vl vu l u s3.heap.objs.size Q I4 r1 (Heap.IsSliceOf.new ..) pl pu q3
  show wpAny (model X.prog X.w) X.A (subscriptTail e (.Slice lo hi none p2) v (.ref s3.heap.objs.size)) (EP X pins σ Q) X.xe { s3 with heap := s3.heap.push { cls := .type "slice", data := .fields #[vl, vu, .none] } }
  exact tail_any (ops := [.ref s3.heap.objs.size, v]) ht hT hg (by with_unfolding_all rfl)

/-- the items of xs[lo:hi] -/
def cutV (xs : List V) (lo hi : Option Int) : List V := (xs.drop (HT.sIx xs.length 0 lo)).take (HT.sIx xs.length xs.length hi - HT.sIx xs.length 0 lo)
theorem cutV_length (xs : List V) (lo hi : Option Int) : (cutV xs lo hi).length ≤ xs.length := by
  unfold cutV
  rw [List.length_take, List.length_drop]
  omega
/-! ### t < u, t + u -/
end
end L2

namespace L2
open PySem PySem.Spec PyProof.Rows

/-! ### places -/
/-- the place that an index of any sign means -/
def ixN (n : Nat) (i : Int) : Option Nat := if 0 ≤ i then (if i < n then some i.toNat else none) else if -(n : Int) ≤ i then some (i + n).toNat else none
def atI {α : Type} (xs : List α) (i : Int) : Option α := (ixN xs.length i).bind fun j => xs[j]?
theorem ixN_seq {n : Nat} {i : Int} {j : Nat} (h : ixN n i = some j) : seqIndex? i n = some j ∧ j < n ∧ -(n : Int) ≤ i ∧ i < n := by
  unfold ixN at h
  by_cases h0 : 0 ≤ i
  · rw [if_pos h0] at h
    by_cases h1 : i < n
    · rw [if_pos h1] at h
      have e : i.toNat = j := Option.some.inj h
      exact ⟨by rw [seqIndex_of h0 h1, e], by omega, by omega, h1⟩
    · rw [if_neg h1] at h; cases h
  · rw [if_neg h0] at h
    by_cases h1 : -(n : Int) ≤ i
    · rw [if_pos h1] at h
      have e : (i + n).toNat = j := Option.some.inj h
      exact ⟨by rw [seqIndex_neg (by omega) h1, e], by omega, h1, by omega⟩
    · rw [if_neg h1] at h; cases h
theorem atI_get {α : Type} {xs : List α} {i : Int} {v : α} (h : atI xs i = some v) : ∃ j, seqIndex? i xs.length = some j ∧ xs[j]? = some v ∧ j < xs.length ∧ -(xs.length : Int) ≤ i ∧ i < xs.length := by
  unfold atI at h
  cases e : ixN xs.length i with
  | none => rw [e] at h; cases h
  | some j =>
    rw [e] at h
    obtain ⟨h1, h2, h3, h4⟩ := ixN_seq e
    exact ⟨j, h1, h, h2, h3, h4⟩
theorem atI_nat {α : Type} {xs : List α} {j : Nat} {v : α} (h : xs[j]? = some v) : atI xs (j : Int) = some v := by
  have hj : j < xs.length := (List.getElem?_eq_some_iff.mp h).1
  have e : ixN xs.length (j : Int) = some j := by
    unfold ixN
    rw [if_pos (by omega), if_pos (by omega)]; simp
  unfold atI; rw [e]; exact h
theorem atI_last {α : Type} (xs : List α) (v : α) : atI (xs ++ [v]) (-1) = some v := by
  have hl : (xs ++ [v]).length = xs.length + 1 := by simp
  have e : ixN (xs ++ [v]).length (-1) = some xs.length := by
    unfold ixN
    rw [hl, if_neg (by decide), if_pos (by omega)]
    congr 1
    omega
  unfold atI
  rw [e]
  show (xs ++ [v])[xs.length]? = some v
  simp

/-! ### what may be subscripted -/
/-- what stands as an index of a plain subscript -/
def PlainIx (b : Expr) : Prop := ∀ o i, subscripted b false o i = operate [o, i] (getItem o i)
/-- a subscript by values -/
def IxR (X : Cx) (r : R2) : Prop :=
  ∀ (value slice : Expr) (pins : List (Addr × Obj)) (s : Shared) (σ : St) (H : Hp) (x y : V) (v u : Value) (Q : VK), Inv X pins σ H s → RelV x v → RelV y u → r x y H Q →
    subscripted slice false v u = operate [v, u] (getItem v u) → wpAny (model X.prog X.w) X.A (subscriptTail value slice v u) (EP X pins σ Q) X.xe s
/-- a call of a builtin's method by values: the receiver, the arguments -/
def MtR (X : Cx) (id : String) (r : V → List V → Hp → VK → Prop) : Prop :=
  ∀ (pins : List (Addr × Obj)) (s : Shared) (σ : St) (H : Hp) (x : V) (xs : List V) (v : Value) (us : List Value) (Q : VK), Inv X pins σ H s → RelV x v → Vals xs us → r x xs H Q →
    wpAny (model X.prog X.w) X.A (call (.builtin id) (v :: us)) (EP X pins σ Q) X.xe s
section
variable {X : Cx} {a b : Expr} {ta tb : TE} {pos : Pos}
/-- a[b] -/
theorem pe_ix {r : R2} (hr : IxR X r) (ha : PE X a ta) (hb : PE X b tb) (hs : PlainIx b) : PE X (.Subscript a b pos) (tOp r ta tb) := by
  intro pins s σ H Q I h
  exact Subscript_ (binT ha hb I h fun v u s2 x y H2 I2 rx ry q => hr a b pins s2 σ H2 x y v u Q I2 rx ry q (hs _ _))

def rIxL (K : PySem.W.Frag) : R2 := fun x y H Q => ∃ p xs i v, x = .ref p ∧ y = .int i ∧ SqL K H p xs ∧ atI xs i = some v ∧ Q v H
def rIxT (K : PySem.W.Frag) : R2 := fun x y H Q => ∃ p xs i v, x = .ref p ∧ y = .int i ∧ SqT K H p xs ∧ atI xs i = some v ∧ Q v H
theorem ix_list : IxR X (rIxL X.K) := by
  intro value slice pins s σ H x y v u Q I rx ry h hs
  obtain ⟨p, xs, i, z, rfl, rfl, hq, he, q⟩ := h
  cases rx
  obtain ⟨t, rfl⟩ := ry
  obtain ⟨its, r, pl, hz⟩ := I.list hq
  obtain ⟨j, h1, h2, h3, h4, h5⟩ := atI_get he
  obtain ⟨w, ew, rw'⟩ := r.get h2
  have hl := r.length
  have hn := line63
  have fin : EP X pins σ Q w s := ⟨z, H, I, rw', q⟩
  by_cases h0 : 0 ≤ i
  · have hj : i.toNat = j := by
      rw [seqIndex_of h0 h5] at h1
      exact Option.some.inj h1
    exact item_listR pl.isList h0 (by omega) (by rw [hj]; simpa using ew) fin hs
  · have hj : (i + (its.toArray.size : Int)).toNat = j := by
      rw [seqIndex_neg (by omega) h4] at h1
      rw [List.size_toArray, ← hl]
      exact Option.some.inj h1
    exact subscriptTail_builtinR (x := w) pl.isList.typeIs slot_list_getitem.lookup
      (wpAny_getItem_list_neg (Q := fun r s' => r = w ∧ EP X pins σ Q r s') pl.isList (by omega) (by rw [List.size_toArray] <;> omega) (by omega) (by rw [hj]; simpa using ew) ⟨rfl, fin⟩) hs
theorem ix_tup : IxR X (rIxT X.K) := by
  intro value slice pins s σ H x y v u Q I rx ry h hs
  obtain ⟨p, xs, i, z, rfl, rfl, hq, he, q⟩ := h
  cases rx
  obtain ⟨t, rfl⟩ := ry
  obtain ⟨its, r, pl, hz⟩ := I.tuple hq
  obtain ⟨j, h1, h2, h3, h4, h5⟩ := atI_get he
  obtain ⟨w, ew, rw'⟩ := r.get h2
  have hl := r.length
  have hn := line63
  have fin : EP X pins σ Q w s := ⟨z, H, I, rw', q⟩
  exact subscriptTail_builtinR (x := w) pl.typeIs slot_tuple_getitem.lookup
    (getItem_tuple (j := j) (Q := fun r s' => r = w ∧ EP X pins σ Q r s') pl (by omega) (by omega) (by rw [List.size_toArray, ← hl]; exact h1) (by simpa using ew) ⟨rfl, fin⟩) hs
/-! ### xs[i] = v, any sign -/
/-! ### slices -/
theorem slice_bounds (lo hi : Option Int) (n : Nat) : (sliceBounds lo hi none n).1 = ((HT.sIx n 0 lo : Nat) : Int) ∧ (sliceBounds lo hi none n).2.1 = ((HT.sIx n n hi : Nat) : Int) ∧ (sliceBounds lo hi none n).2.2 = 1 := by
  refine ⟨?_, ?_, rfl⟩
  · cases lo with
    | none => simp [sliceBounds, HT.sIx]
    | some i =>
      simp only [sliceBounds, HT.sIx, Option.getD_none, show (1 : Int) > 0 by decide, if_true]
      by_cases h : i < 0
      · simp only [h, if_true] <;> omega
      · simp only [h, if_false] <;> omega
  · cases hi with
    | none => simp [sliceBounds, HT.sIx]
    | some i =>
      simp only [sliceBounds, HT.sIx, Option.getD_none, show (1 : Int) > 0 by decide, if_true]
      by_cases h : i < 0
      · simp only [h, if_true] <;> omega
      · simp only [h, if_false] <;> omega
theorem slicePick_cut (its : List Value) (lo hi : Option Int) : slicePick its.toArray lo hi none = ((its.drop (HT.sIx its.length 0 lo)).take (HT.sIx its.length its.length hi - HT.sIx its.length 0 lo)).toArray := by
  obtain ⟨h1, h2, h3⟩ := slice_bounds lo hi its.toArray.size
  unfold slicePick
  rw [h1, h2, h3]
  simp only [sliceRange_one, pick_run, List.size_toArray] <;> rfl
/-- xs[lo:hi] of a list: a new list -/
def rSlL (K : PySem.W.Frag) : V → Option Int → Option Int → Hp → VK → Prop := fun x lo hi H Q => ∃ a xs, x = .ref a ∧ SqL K H a xs ∧ ∀ p, H p = none → Q (.ref p) (upd H p (.lst (cutV xs lo hi)))
theorem sl_list : SlR X (rSlL X.K) := by
  intro pins s σ H x v vl vu lo hi sl Q I rx hs pl pu h
  obtain ⟨a, xs, rfl, hx, q⟩ := h
  cases rx
  obtain ⟨its, r, ht, hz⟩ := I.list hx
  have hlen := r.length
  refine ⟨"list", _, slot_list_getitem.lookup, ht.isList.typeIs, ?_⟩
  refine wpAny_getItem_list_slice ht.isList hs pl pu .none (by simp) ?_ (by rw [List.size_toArray] <;> omega)
  rw [slicePick_cut, ← hlen]
  refine ⟨.ref s.heap.objs.size, _, I.laid (t' := s.toks) (o := .lst (cutV xs lo hi)) (fun b ob q => Heap.get?_push_of_some _ q) (Nat.le_refl _) ?_, rfl, q _ (I.hok.fresh (Nat.le_refl _))⟩
  exact ⟨Nat.le_trans (cutV_length xs lo hi) hz, _, 0, (r.drop (HT.sIx xs.length 0 lo)).take (HT.sIx xs.length xs.length hi - HT.sIx xs.length 0 lo), Heap.get?_push_size _ rfl⟩

/-! ### in, not in: flat items -/
/-! ### len, list(x), tuple(x) of any list or tuple that is read -/
theorem call_len_seq : CallR X (.builtin "len") (fun xs H Q => ∃ p ys, xs = [.ref p] ∧ (SqL X.K H p ys ∨ SqT X.K H p ys) ∧ Q (.int ys.length) H) := by
  intro pins s σ H xs us Q I r h
  obtain ⟨p, ys, rfl, hq, q⟩ := h
  obtain ⟨u, rfl, rx⟩ := vals1 r
  cases rx
  have hn := line63
  rcases hq with hq | hq
  · obtain ⟨its, r', pl, hz⟩ := I.list hq
    have hlen := r'.length
    exact Calls.call_len_list pl.isList (by simp only [List.size_toArray] <;> omega) ⟨.int ys.length, H, I.tok _, ⟨s.toks + 1, by rw [List.size_toArray, hlen]⟩, q⟩
  · obtain ⟨its, r', pl, hz⟩ := I.tuple hq
    have hlen := r'.length
    exact len_tuple pl (by simp only [List.size_toArray] <;> omega) ⟨.int ys.length, H, I.tok _, ⟨s.toks + 1, by rw [List.size_toArray, hlen]⟩, q⟩
theorem call_list_of : CallR X (.type "list") (fun xs H Q => ∃ p ys, xs = [.ref p] ∧ (SqL X.K H p ys ∨ SqT X.K H p ys) ∧ ∀ l, H l = none → Q (.ref l) (upd H l (.lst ys))) := by
  intro pins s σ H xs us Q I r h
  obtain ⟨p, ys, rfl, hq, q⟩ := h
  obtain ⟨u, rfl, rx⟩ := vals1 r
  cases rx
  have fin : ∀ (its : List Value), Vals ys its → ys.length ≤ sizeLine → ∀ (h' : Heap) (c' : Nat), (∀ b o', s.heap.get? b = some o' → h'.get? b = some o') →
      h'.get? s.heap.objs.size = some { cls := .type "list", dict := none, data := .seq its.toArray c', slots := #[] } → EP X pins σ Q (.ref s.heap.objs.size) { s with heap := h' } := fun its r' hz h' c' kp e =>
    ⟨.ref s.heap.objs.size, _, I.laid (t' := s.toks) kp (Nat.le_refl _) (show ObjOk X.prog X.w _ h' _ (.lst ys) from ⟨hz, its, c', r', e⟩), rfl, q _ (I.hok.fresh (Nat.le_refl _))⟩
  rcases hq with hq | hq
  · obtain ⟨its, r', pl, hz⟩ := I.list hq
    have hlen := r'.length
    obtain ⟨o, ho, hc, n, hd⟩ := pl.isList
    exact call_list_seq p (.inl rfl) ho hc hd (fun h' c' kp e => fin its r' hz h' c' kp e) (by simp only [List.size_toArray] <;> omega)
  · obtain ⟨its, r', pl, hz⟩ := I.tuple hq
    have hlen := r'.length
    obtain ⟨o, ho, hc, n, hd⟩ := pl
    exact call_list_seq p (.inr rfl) ho hc hd (fun h' c' kp e => fin its r' hz h' c' kp e) (by simp only [List.size_toArray] <;> omega)
/-! ### the call of a builtin's method: o.m(..) -/
/-- the value is of that builtin type -/
def tyV (K : PySem.W.Frag) (T : String) (x : V) (H : Hp) : Prop := match x with
  | .str _ => T = "str"
  | .int _ => T = "int"
  | .ref p => (T = "list" ∧ ∃ xs, SqL K H p xs) ∨ (T = "tuple" ∧ ∃ o, K.lookup p = some o ∧ o.cls = .type "tuple" ∧ o.dict = none) ∨
      (T = "dict" ∧ ((∃ kvs, H p = some (.dK kvs)) ∨ ∃ kvs, H p = some (.dT kvs))) ∨ (T = "set" ∧ ∃ S n, H p = some (.set S n))
  | _ => False
theorem tyV_is {pins : List (Addr × Obj)} {σ : St} {H : Hp} {s : Shared} {T : String} {x : V} {v : Value} (I : Inv X pins σ H s) (r : RelV x v) (ty : tyV X.K T x H) :
    s.TypeIs v T ∧ ∀ a, v = .ref a → ∃ ob, s.heap.get? a = some ob ∧ ob.dict = none := by
  cases x with
  | str z =>
    obtain ⟨t, rfl⟩ := r
    cases (show T = "str" from ty)
    exact ⟨typeIs_str s z t, fun _ e => nomatch e⟩
  | int i =>
    obtain ⟨t, rfl⟩ := r
    cases (show T = "int" from ty)
    exact ⟨typeIs_int s i t, fun _ e => nomatch e⟩
  | ref p =>
    cases r
    rcases ty with ⟨rfl, xs, hq⟩ | ⟨rfl, o, hk, hc, hd⟩ | ⟨rfl, hk⟩ | ⟨rfl, S, n, hk⟩
    · obtain ⟨its, _, pl, _⟩ := I.list hq
      refine ⟨pl.isList.typeIs, fun a e => ?_⟩
      cases e
      obtain ⟨o, n, e, c, hd, _⟩ := pl
      exact ⟨o, e, hd⟩
    · refine ⟨⟨o, I.kIn p o hk, hc⟩, fun a e => ?_⟩
      cases e
      exact ⟨o, I.kIn _ o hk, hd⟩
    · have z : ∃ o, s.heap.get? p = some o ∧ o.ExactDict := by
        rcases hk with ⟨kvs, hk⟩ | ⟨kvs, hk⟩
        · obtain ⟨_, _, _, _, o, _, _, e, ex, _⟩ := I.hok p _ hk
          exact ⟨o, e, ex⟩
        · obtain ⟨_, _, _, _, o, _, _, e, ex, _⟩ := I.hok p _ hk
          exact ⟨o, e, ex⟩
      obtain ⟨o, e, ex⟩ := z
      refine ⟨⟨o, e, ex.1⟩, fun a e2 => ?_⟩
      cases e2
      exact ⟨o, e, ex.2.1⟩
    · obtain ⟨o, _, _, _, e, ex, _⟩ := I.hok p _ hk
      refine ⟨⟨o, e, ex.1⟩, fun a e2 => ?_⟩
      cases e2
      exact ⟨o, e, ex.2.1⟩
  | _ => exact False.elim ty
def tBM0 (K : PySem.W.Frag) (T : String) (r : V → List V → Hp → VK → Prop) (to : TE) : TE := fun σ H Q => to σ H fun x H1 => tyV K T x H1 ∧ r x [] H1 Q
def tBM (K : PySem.W.Frag) (T : String) (r : V → List V → Hp → VK → Prop) (to : TE) (t : TA) : TE := fun σ H Q => to σ H fun x H1 => tyV K T x H1 ∧ t σ H1 fun xs H2 => r x xs H2 Q
variable {o e : Expr} {es : List Expr} {to : TE} {t : TA} {name : Str} {apos cpos : Pos} {T id : String} {r : V → List V → Hp → VK → Prop}
theorem pe_bm0 (pa : PlainAttrs T) (slot : Slot T name id) (hty : typeOf (.builtin id) = pure (.type "method_descriptor")) (hm : MtR X id r) (ho : PE X o to)
    (hbase : attributeBase o name X.env (eval o X.env) = eval o X.env := by rfl) (hline : (apos.endLine == cpos.line) = true := by rfl) : PE X (.Call (.Attribute o name apos) [] [] cpos) (tBM0 X.K T r to) := by
  intro pins s σ H Q I h
  refine wpAny_Call_method0_late hbase hline (thn (ho pins s σ H _ I h) fun v s1 ⟨x, H1, I1, r1, ty, q1⟩ => ?_)
  obtain ⟨h1, h2⟩ := tyV_is I1 r1 ty
  exact ⟨T, id, pa, slot, hty, h1, h2, Calls.callWith_builtin rfl (PySem.evalArgs_none (hm pins s1 σ H1 x [] v [] Q I1 r1 .nil q1))⟩
theorem pe_bm (pa : PlainAttrs T) (slot : Slot T name id) (hty : typeOf (.builtin id) = pure (.type "method_descriptor")) (hm : MtR X id r) (ho : PE X o to) (ha : PA X (e :: es) t)
    (hbase : attributeBase o name X.env (eval o X.env) = eval o X.env := by rfl)
    (hfew : ((backTo cpos (starEach (e :: es) X.env)).all (fun x => !x.1) && (backToKw cpos (keywordEach [] X.env)).all (fun x => x.1.isSome)
      && decide ((e :: es).length + ([] : List Keyword).length + (if ([] : List Keyword).isEmpty then 0 else 1) < 30)) = true := by rfl)
    (hline : (apos.endLine == cpos.line) = true := by rfl) (hs : starEach (e :: es) X.env = (false, eval e X.env) :: starEach es X.env := by rfl) (hplain : (backTo cpos (starEach es X.env)).any (·.1) = false := by rfl) :
    PE X (.Call (.Attribute o name apos) (e :: es) [] cpos) (tBM X.K T r to t) := by
  intro pins s σ H Q I h
  refine wpAny_Call_method_late hbase hfew hline rfl (thn (ho pins s σ H _ I h) fun v s1 ⟨x, H1, I1, r1, ty, q1⟩ => ?_)
  obtain ⟨h1, h2⟩ := tyV_is I1 r1 ty
  refine ⟨T, id, pa, slot, hty, h1, h2, ?_⟩
  have hA := ha cpos pins s1 σ H1 _ I1 q1
  rw [hs] at hA ⊢
  refine Calls.callWith_builtin (by show (false || (backTo cpos (starEach es X.env)).any (·.1)) = false; rw [hplain] <;> rfl) (Calls.evalArgs_plain ?_)
  exact thn hA fun us s2 ⟨vs, H2, I2, r2, q2⟩ => hm pins s2 σ H2 x vs v us Q I2 r1 r2 q2
/- xs.append(e), list.index on a module's tuple .. are MtR facts of 06m -/
end
end L2

namespace L2
open PySem PySem.Spec PyProof.Rows

def MtM (X : Cx) (id : String) (r : V → List V → Hp → VK → Prop) : Prop :=
  ∀ (pins : List (Addr × Obj)) (s : Shared) (σ : St) (H : Hp) (x : V) (xs : List V) (v : Value) (us : List Value) (Q : VK), Inv X pins σ H s → RelV x v → Vals xs us → r x xs H Q →
    wpAny (model X.prog X.w) X.A (call (.builtin id) (v :: us)) (EP X pins σ Q) X.xe s

/-! ### lists of values -/
theorem Vals.one : ∀ {x : V} {us : List Value}, Vals [x] us → ∃ u, us = [u] ∧ RelV x u
  | _, _, .cons r .nil => ⟨_, rfl, r⟩
theorem Vals.zero : ∀ {us : List Value}, Vals [] us → us = []
  | _, .nil => rfl
theorem Vals.dropLast {xs : List V} {us : List Value} (h : Vals xs us) : Vals xs.dropLast us.dropLast := by
  induction h with
  | nil => exact .nil
  | cons r t ih =>
    cases t with
    | nil => exact .nil
    | cons q t' => exact .cons r ih
theorem erase_last {α : Type} (l : List α) : l.eraseIdx (l.length - 1) = l.dropLast := by
  induction l with
  | nil => rfl
  | cons a r ih =>
    cases r with
    | nil => rfl
    | cons b r =>
      have e : (a :: b :: r).length - 1 = ((b :: r).length - 1) + 1 := by
        have h1 : (a :: b :: r).length = r.length + 2 := rfl
        have h2 : (b :: r).length = r.length + 1 := rfl
        omega
      rw [e, List.eraseIdx_cons_succ, ih]
      all_goals rfl
section
variable {X : Cx} {pins : List (Addr × Obj)} {σ : St} {H : Hp} {s : Shared} {l b : Addr} {xs ys zs : List V}

/-! ### the two steps: a tracked list is rewritten, a new list is laid -/
theorem Inv.lset {its its' : List Value} {n : Nat} {f : Array Value → Array Value} {t' : Nat} (I : Inv X pins σ H s) (hH : H l = some (.lst xs))
    (e : s.heap.get? l = some { cls := .type "list", data := .seq its.toArray n }) (hf : f its.toArray = its'.toArray) (hv : Vals ys its') (hz : ys.length ≤ sizeLine) :
    Inv X pins σ (upd H l (.lst ys)) { s with heap := s.heap.update l (Obj.mapSeq f), toks := t' } := by
  have q := PySem.IsL.update e f
  rw [hf] at q
  refine I.write (x := l) (e := l) (by rw [hH]; exact trivial) (.inl rfl) (fun b' u hb hu => (Heap.get?_update_other s.heap (Obj.mapSeq f) (Ne.symm hb)).trans hu) ⟨_, q⟩ ?_
  exact ⟨hz, its', _, hv, q⟩
theorem Inv.lnew {its : List Value} {t' : Nat} (I : Inv X pins σ H s) (hv : Vals ys its) (hz : ys.length ≤ sizeLine) :
    Inv X pins σ (upd H s.heap.objs.size (.lst ys)) { s with heap := s.heap.push { cls := .type "list", data := .seq its.toArray }, toks := t' } :=
  I.laid (fun _ _ q => Heap.get?_push_of_some _ q) (Nat.le_refl _) ⟨hz, its, 0, hv, Heap.get?_push_size _ rfl⟩
theorem Inv.fresh (I : Inv X pins σ H s) : H s.heap.objs.size = none := I.hok.fresh (Nat.le_refl _)
theorem Inv.lstM (I : Inv X pins σ H s) (hH : H l = some (.lst xs)) : xs.length ≤ sizeLine ∧ ∃ (its : List Value) (n : Nat), Vals xs its ∧ xs.length = its.length ∧ s.heap.get? l = some { cls := .type "list", data := .seq its.toArray n } := by
  obtain ⟨z, its, n, r, e⟩ := I.hok l _ hH
  exact ⟨z, its, n, r, r.length, e⟩

theorem notLongL {n : Nat} (h : n ≤ sizeLine) : Builtin.List.listTooLong n = false := by
  unfold Builtin.List.listTooLong
  exact decide_eq_false (by omega)
end

section
variable {X : Cx}

/-! ### methods -/
def rAppend : V → List V → Hp → VK → Prop := fun x vs H Q => ∃ l xs y, x = .ref l ∧ vs = [y] ∧ H l = some (.lst xs) ∧ xs.length < sizeLine ∧ Q .non (upd H l (.lst (xs ++ [y])))
theorem mt_append : MtM X "list.append" rAppend := by
  intro pins s σ H x vs v us Q I rx rv h
  obtain ⟨l, xs, y, rfl, rfl, hH, hz, q⟩ := h
  cases rx
  obtain ⟨u, rfl, ru⟩ := rv.one
  obtain ⟨z, its, n, r, hl, e⟩ := I.lstM hH
  refine call_meets F.slot_list_append ⟨_, e, rfl⟩ F.entry_list_append (F.args_list_append_2 _ _) (PySem.list_append l its.toArray n u (by rw [List.size_toArray]; omega)) ⟨e, ?_⟩
  refine ⟨.non, _, I.lset (its' := its ++ [u]) hH e (by simp) (r.append (.cons ru .nil)) ?_, rfl, q⟩
  rw [List.length_append, List.length_singleton]
  omega

def rExtend : V → List V → Hp → VK → Prop := fun x vs H Q => ∃ l b xs zs, x = .ref l ∧ vs = [.ref b] ∧ H l = some (.lst xs) ∧ H b = some (.lst zs) ∧ xs.length + zs.length ≤ sizeLine ∧ Q .non (upd H l (.lst (xs ++ zs)))
theorem mt_extend : MtM X "list.extend" rExtend := by
  intro pins s σ H x vs v us Q I rx rv h
  obtain ⟨l, b, xs, zs, rfl, rfl, hH, hB, hz, q⟩ := h
  cases rx
  obtain ⟨u, rfl, ru⟩ := rv.one
  cases ru
  obtain ⟨z, its, n, r, hl, e⟩ := I.lstM hH
  obtain ⟨z2, its2, n2, r2, hl2, e2⟩ := I.lstM hB
  have hsz : its.toArray.size + its2.toArray.size ≤ sizeLine := by rw [List.size_toArray, List.size_toArray]; omega
  have hlong : ¬ (!its.toArray.isEmpty && Builtin.List.listTooLong (its.toArray.size + its2.toArray.size)) = true := by
    rw [notLongL hsz, Bool.and_false]
    exact Bool.false_ne_true
  refine call_meets F.slot_list_extend ⟨_, e, rfl⟩ F.entry_list_extend (F.args_list_extend_2 _ _)
    (AutoSeq1.list_extend_list_list_0 l its.toArray n b its2.toArray n2 hlong (by rw [List.size_toArray]; omega) (by omega)) ⟨e, e2, ?_⟩
  refine ⟨.non, _, I.lset (its' := its ++ its2) hH e (by simp) (r.append r2) ?_, rfl, q⟩
  rw [List.length_append]
  omega

def rPop : V → List V → Hp → VK → Prop := fun x vs H Q => ∃ l xs y, x = .ref l ∧ vs = [] ∧ H l = some (.lst xs) ∧ xs[xs.length - 1]? = some y ∧ Q y (upd H l (.lst xs.dropLast))
theorem mt_pop : MtM X "list.pop" rPop := by
  intro pins s σ H x vs v us Q I rx rv h
  obtain ⟨l, xs, y, rfl, rfl, hH, hy, q⟩ := h
  cases rx
  have hus := rv.zero
  subst hus
  obtain ⟨z, its, n, r, hl, e⟩ := I.lstM hH
  obtain ⟨u, hu, ru⟩ := r.get hy
  have hy' : its.toArray[its.toArray.size - 1]? = some u := by
    show its.toArray[its.length - 1]? = some u
    rw [← Array.getElem?_toList, ← hl]
    exact hu
  refine call_meets F.slot_list_pop ⟨_, e, rfl⟩ F.entry_list_pop (F.args_list_pop_1 _) (MeetsSeq.list_pop_last l its.toArray n u hy' (by rw [List.size_toArray]; omega)) ⟨e, ?_⟩
  refine ⟨y, _, I.lset (its' := its.dropLast) hH e ?_ r.dropLast ?_, ru, q⟩
  · show its.toArray.eraseIdxIfInBounds (its.toArray.size - 1) = its.dropLast.toArray
    rw [List.size_toArray, List.eraseIdxIfInBounds_toArray, erase_last]
  · rw [List.length_dropLast]
    omega

/-! ### list + list, list += list, list * int -/
def rCat : R2 := fun x y H Q => ∃ l b xs zs, x = .ref l ∧ y = .ref b ∧ H l = some (.lst xs) ∧ H b = some (.lst zs) ∧ xs.length + zs.length ≤ sizeLine ∧ ∀ p, H p = none → Q (.ref p) (upd H p (.lst (xs ++ zs)))
theorem op_cat : OpR X (binaryOp .Add) rCat := by
  intro pins s σ H x y v u Q I rx ry h
  obtain ⟨l, b, xs, zs, rfl, rfl, hH, hB, hz, q⟩ := h
  cases rx
  cases ry
  obtain ⟨z, its, n, r, hl, e⟩ := I.lstM hH
  obtain ⟨z2, its2, n2, r2, hl2, e2⟩ := I.lstM hB
  refine PySem.P.add_list e e2 ?_ (by rw [List.size_toArray, List.size_toArray]; omega)
  have ea : its.toArray ++ its2.toArray = (its ++ its2).toArray := by simp
  rw [ea]
  exact ⟨.ref _, _, I.lnew (t' := s.toks) (r.append r2) (by rw [List.length_append]; omega), rfl, q _ I.fresh⟩
/-! ### del xs[i] -/
end

/-! ### xs[a:b] = ys -/
section
variable {prog : Program} {w : World} {A : Around} {E : Value → Shared → Prop} {s : Shared}
set_option maxRecDepth 100000 in
end

section
variable {X : Cx}
end
end L2

namespace L2
open PySem PySem.Spec PyProof.Rows

theorem Vals.ints : ∀ {ns : List Int} {us : List Value}, Vals (ns.map V.int) us → IntsAre us ns
  | [], us, h => by
    rw [List.map_nil] at h
    cases h
    exact IntsAre.nil
  | n :: ns, us, h => by
    rw [List.map_cons] at h
    cases h with
    | cons r t =>
      obtain ⟨k, rfl⟩ := r
      exact IntsAre.cons n k (Vals.ints t)
theorem Vals.bls : ∀ {bs : List Bool} {us : List Value}, Vals (bs.map V.bl) us → us = bs.map Value.bool
  | [], us, h => by
    rw [List.map_nil] at h
    cases h
    rfl
  | b :: bs, us, h => by
    rw [List.map_cons] at h
    cases h with
    | cons r t =>
      cases r
      rw [Vals.bls t, List.map_cons]
theorem Vals.ref1 {a : Addr} {us : List Value} (r : Vals [V.ref a] us) : us = [Value.ref a] := by
  cases r with
  | cons r t =>
    cases t
    cases r
    rfl
/-! ### the library's walks over a list of ints, kept objects alone -/
section
variable {prog : Program} {w : World} {A : Around} {E : Value → Shared → Prop} {s : Shared} {l : Addr} {its : List Value} {ns : List Int} {Q : Value → Shared → Prop}
theorem max_raw (hh : A.handled = none) (hl : s.heap.IsList l its.toArray) (hi : IntsAre its ns) (hne : 0 < ns.length)
    (h : ∀ h' tk M t', (∀ b o, s.heap.get? b = some o → h'.get? b = some o) → M ∈ ns → (∀ a, a ∈ ns → a ≤ M) → Q (.int M t') { s with heap := h', toks := tk }) : wpAny (model prog w) A (call (.builtin "max") [.ref l]) Q E s := by
  obtain ⟨xs, e⟩ := hi.allInts.items
  have hn : numsOf (intItems xs).toList = ns := by rw [← e]; exact hi.numsOf
  rw [nums_intItems] at hn
  subst hn
  rw [e] at hl
  have hsz : 0 < xs.size := by simpa using hne
  refine PySem.max_intList hh hl hsz fun v h' tk hv hk => ?_
  obtain ⟨t, rfl⟩ := intItems_at hv
  obtain ⟨h1, h2⟩ := argBest_gt (numAt xs) (xs.size - 1)
  refine h h' tk _ t hk ?_ fun a ha => ?_
  · rw [numAt_eq]; exact PySem.getD_mem (by rw [List.length_map, Array.length_toList]; omega)
  · obtain ⟨j, hj, rfl⟩ := mem_getD ha
    rw [List.length_map, Array.length_toList] at hj
    rw [← numAt_eq]; exact h2 j (by omega)
theorem min_raw (hh : A.handled = none) (hl : s.heap.IsList l its.toArray) (hi : IntsAre its ns) (hne : 0 < ns.length)
    (h : ∀ h' tk M t', (∀ b o, s.heap.get? b = some o → h'.get? b = some o) → M ∈ ns → (∀ a, a ∈ ns → M ≤ a) → Q (.int M t') { s with heap := h', toks := tk }) : wpAny (model prog w) A (call (.builtin "min") [.ref l]) Q E s := by
  obtain ⟨xs, e⟩ := hi.allInts.items
  have hn : numsOf (intItems xs).toList = ns := by rw [← e]; exact hi.numsOf
  rw [nums_intItems] at hn
  subst hn
  rw [e] at hl
  have hsz : 0 < xs.size := by simpa using hne
  refine PySem.min_intList hh hl hsz fun v h' tk hv hk => ?_
  obtain ⟨t, rfl⟩ := intItems_at hv
  obtain ⟨h1, h2⟩ := argBest_lt (numAt xs) (xs.size - 1)
  refine h h' tk _ t hk ?_ fun a ha => ?_
  · rw [numAt_eq]; exact PySem.getD_mem (by rw [List.length_map, Array.length_toList]; omega)
  · obtain ⟨j, hj, rfl⟩ := mem_getD ha
    rw [List.length_map, Array.length_toList] at hj
    rw [← numAt_eq]; exact h2 j (by omega)
end

/-! ### the calls, by values (CallR of 03t; MtR of 06l) -/
section
variable {X : Cx}
/-- max(xs), min(xs) of a list of ints -/
def rMax (K : PySem.W.Frag) : List V → Hp → VK → Prop := fun vs H Q => ∃ (a : Addr) (ns : List Int), vs = [V.ref a] ∧ SqL K H a (ns.map V.int) ∧ 0 < ns.length ∧ ∀ m, m ∈ ns → (∀ y, y ∈ ns → y ≤ m) → Q (.int m) H
def rMin (K : PySem.W.Frag) : List V → Hp → VK → Prop := fun vs H Q => ∃ (a : Addr) (ns : List Int), vs = [V.ref a] ∧ SqL K H a (ns.map V.int) ∧ 0 < ns.length ∧ ∀ m, m ∈ ns → (∀ y, y ∈ ns → m ≤ y) → Q (.int m) H
theorem cr_max (hc : X.calm = true) : CallR X (.builtin "max") (rMax X.K) := by
  intro pins s σ H vs us Q I r h
  obtain ⟨a, ns, rfl, hs, hne, q⟩ := h
  obtain ⟨its, rv, hl, _⟩ := I.list hs
  rw [Vals.ref1 r]
  exact max_raw (I.ok.hd hc) hl.isList rv.ints hne fun h' tk m t' hk h1 h2 => ⟨.int _, H, I.kept hk, ⟨_, rfl⟩, q m h1 h2⟩
theorem cr_min (hc : X.calm = true) : CallR X (.builtin "min") (rMin X.K) := by
  intro pins s σ H vs us Q I r h
  obtain ⟨a, ns, rfl, hs, hne, q⟩ := h
  obtain ⟨its, rv, hl, _⟩ := I.list hs
  rw [Vals.ref1 r]
  exact min_raw (I.ok.hd hc) hl.isList rv.ints hne fun h' tk m t' hk h1 h2 => ⟨.int _, H, I.kept hk, ⟨_, rfl⟩, q m h1 h2⟩

/-! sorted, sort (fewer than 64 items: the library's own bound) -/
end

/-! ### list.index, flat items -/
section
variable {X : Cx}
end

/-! ### type(x) of an own instance; is, is not of a module's class -/
section
variable {X : Cx}
end

/-! ### any(xs), all(xs) of a list of bools -/
theorem iter_any {prog : Program} {w : World} {A : Around} {E : Value → Shared → Prop} {s : Shared} {l : Addr} {items : Array Value} {Q : Value → Shared → Prop} (hl : s.heap.IsList l items)
    (h : ∀ s₂ : Shared, s₂ = { s with heap := s.heap.push { cls := .type "list_iterator", data := .fields #[.ref l, .int 0 0] } } →
      (s₂.heap.IsListIter s.heap.objs.size l 0 ∧ s₂.heap.IsList l items) → l ≠ s.heap.objs.size → Q (.ref s.heap.objs.size) s₂) : wpAny (model prog w) A (pyIter (.ref l)) Q E s := by
  have hlt : l < s.heap.objs.size := by obtain ⟨_, e, _⟩ := hl; exact Heap.lt_size e
  exact wpAny_pyIter_list hl (h _ rfl ⟨⟨_, Heap.get?_push_size _ rfl, rfl, rfl⟩, hl.push _⟩ (Nat.ne_of_lt hlt))
theorem truth_bools {prog : Program} {w : World} {A : Around} {bs : List Bool} {its : List Value} (e : its = bs.map Value.bool) :
    TruthOf prog w A (fun i v => its.toArray[i]? = some v) (fun i => bs.getD i false) := fun i v s Q E hv hq => by
  have hv' : its[i]? = some v := by simpa using hv
  rw [e, List.getElem?_map] at hv'
  obtain ⟨b, hb, rfl⟩ := Option.map_eq_some_iff.mp hv'
  have hg : bs.getD i false = b := by rw [List.getD_eq_getElem?_getD, hb] <;> rfl
  have hq' : Q (bs.getD i false) s := hq
  rw [hg] at hq'
  exact wpAny_truthy_bool hq'
theorem any_range : ∀ bs : List Bool, (List.range bs.length).any (fun i => bs.getD i false) = bs.any id
  | [] => rfl
  | b :: bs => by
    rw [List.length_cons, List.range_succ_eq_map, List.any_cons, List.any_map, List.any_cons, ← any_range bs]
    all_goals rfl
theorem all_range : ∀ bs : List Bool, (List.range bs.length).all (fun i => bs.getD i false) = bs.all id
  | [] => rfl
  | b :: bs => by
    rw [List.length_cons, List.range_succ_eq_map, List.all_cons, List.all_map, List.all_cons, ← all_range bs]
    all_goals rfl
section
variable {X : Cx}
def rAny (K : PySem.W.Frag) : List V → Hp → VK → Prop := fun vs H Q => ∃ (a : Addr) (bs : List Bool), vs = [V.ref a] ∧ SqL K H a (bs.map V.bl) ∧ Q (.bl (bs.any id)) H
def rAll (K : PySem.W.Frag) : List V → Hp → VK → Prop := fun vs H Q => ∃ (a : Addr) (bs : List Bool), vs = [V.ref a] ∧ SqL K H a (bs.map V.bl) ∧ Q (.bl (bs.all id)) H
theorem cr_any (hc : X.calm = true) : CallR X (.builtin "any") (rAny X.K) := by
  intro pins s σ H vs us Q I r h
  obtain ⟨a, bs, rfl, hs, q⟩ := h
  obtain ⟨its, rv, hl, _⟩ := I.list hs
  rw [Vals.ref1 r]
  have hb := rv.bls
  refine call_any_walk (iter_any hl.isList fun s₂ e2 st hne => ?_)
  subst e2
  refine ⟨_, _, _, _, _, _, _, rfl, Walks.list (A := X.A.in1) (I.ok.hd hc) _ a hne its.toArray, st, truth_bools hb, fun h' tk hk => ?_⟩
  refine ⟨.bl _, H, I.kept fun b o eo => hk b o (fun hmem => ?_) (Heap.get?_push_of_some _ eo), ?_, q⟩
  · rcases List.mem_cons.mp hmem with e1 | hmem
    · exact absurd (e1 ▸ Heap.lt_size eo) (Nat.lt_irrefl _)
    · cases hmem
  · show Value.bool _ = Value.bool _
    rw [← any_range, hb, List.size_toArray, List.length_map]
theorem cr_all (hc : X.calm = true) : CallR X (.builtin "all") (rAll X.K) := by
  intro pins s σ H vs us Q I r h
  obtain ⟨a, bs, rfl, hs, q⟩ := h
  obtain ⟨its, rv, hl, _⟩ := I.list hs
  rw [Vals.ref1 r]
  have hb := rv.bls
  refine call_all_walk (iter_any hl.isList fun s₂ e2 st hne => ?_)
  subst e2
  refine ⟨_, _, _, _, _, _, _, rfl, Walks.list (A := X.A.in1) (I.ok.hd hc) _ a hne its.toArray, st, truth_bools hb, fun h' tk hk => ?_⟩
  refine ⟨.bl _, H, I.kept fun b o eo => hk b o (fun hmem => ?_) (Heap.get?_push_of_some _ eo), ?_, q⟩
  · rcases List.mem_cons.mp hmem with e1 | hmem
    · exact absurd (e1 ▸ Heap.lt_size eo) (Nat.lt_irrefl _)
    · cases hmem
  · show Value.bool _ = Value.bool _
    rw [← all_range, hb, List.size_toArray, List.length_map]
end

/-! ### == and != of data at any depth: none, bools, ints, texts, lists, tuples -/
mutual
inductive Dp (K : PySem.W.Frag) (H : Hp) : V → PyData → Prop
  | non : Dp K H .non .none
  | bl (b : Bool) : Dp K H (.bl b) (.bool b)
  | int (i : Int) : Dp K H (.int i) (.int i)
  | str (x : Str) : Dp K H (.str x) (.str x)
  | lst {a : Addr} {xs : List V} {ds : List PyData} : SqL K H a xs → DpAll K H xs ds → Dp K H (.ref a) (.list ds)
  | tup {a : Addr} {xs : List V} {ds : List PyData} : SqT K H a xs → DpAll K H xs ds → Dp K H (.ref a) (.tuple ds)
inductive DpAll (K : PySem.W.Frag) (H : Hp) : List V → List PyData → Prop
  | nil : DpAll K H [] []
  | cons {v : V} {vs : List V} {d : PyData} {ds : List PyData} : Dp K H v d → DpAll K H vs ds → DpAll K H (v :: vs) (d :: ds)
end
section
variable {X : Cx} {pins : List (Addr × Obj)} {σ : St} {H : Hp} {s : Shared}
mutual
theorem Dp.reads (I : Inv X pins σ H s) : ∀ (d : PyData) (v : V) (u : Value), Dp X.K H v d → RelV v u → ∃ as, Reads s.heap u d as
  | .none, _, _, h, r => by
    cases h
    cases r
    exact ⟨_, Reads.none⟩
  | .bool b, _, _, h, r => by
    cases h
    cases r
    exact ⟨_, Reads.bool b⟩
  | .int i, _, _, h, r => by
    cases h
    obtain ⟨t, rfl⟩ := r
    exact ⟨_, Reads.int i t⟩
  | .str x, _, _, h, r => by
    cases h
    obtain ⟨t, rfl⟩ := r
    exact ⟨_, Reads.str x t⟩
  | .list ds, _, _, h, r => by
    cases h with
    | lst hs ha =>
      cases r
      obtain ⟨its, rv, ⟨o, n, ho, hc, _, hd⟩, _⟩ := I.list hs
      obtain ⟨as, hr⟩ := Dp.readsAll I ds _ its ha rv
      exact ⟨_, Reads.list ho hc hd hr⟩
  | .tuple ds, _, _, h, r => by
    cases h with
    | tup hs ha =>
      cases r
      obtain ⟨its, rv, ⟨o, ho, hc, n, hd⟩, _⟩ := I.tuple hs
      obtain ⟨as, hr⟩ := Dp.readsAll I ds _ its ha rv
      exact ⟨_, Reads.tuple ho hc hd hr⟩
  | .dict _, _, _, h, _ => by cases h
theorem Dp.readsAll (I : Inv X pins σ H s) : ∀ (ds : List PyData) (vs : List V) (us : List Value), DpAll X.K H vs ds → Vals vs us → ∃ as, ReadsAll s.heap us ds as
  | [], _, _, h, r => by
    cases h
    cases r
    exact ⟨_, ReadsAll.nil⟩
  | d :: ds, _, _, h, r => by
    cases h with
    | cons h1 h2 =>
      cases r with
      | cons r1 r2 =>
        obtain ⟨as, q1⟩ := Dp.reads I d _ _ h1 r1
        obtain ⟨bs, q2⟩ := Dp.readsAll I ds _ _ h2 r2
        exact ⟨_, ReadsAll.cons q1 q2⟩
end
end
section
variable {X : Cx}
def rNeD (K : PySem.W.Frag) : R2 := fun x y H Q => ∃ d e, Dp K H x d ∧ Dp K H y e ∧ SeqAt.shaped d = true ∧ SeqAt.shaped e = true ∧ Q (.bl (!PyData.eqv d e)) H
theorem op_neD (hu : X.A.units + 64 < cLine) : OpR X (compareOp .NotEq) (rNeD X.K) := by
  intro pins s σ H x y v u Q I rx ry h
  obtain ⟨d, e, hd, he, sd, se, q⟩ := h
  obtain ⟨as, r1⟩ := Dp.reads I d x v hd rx
  obtain ⟨bs, r2⟩ := Dp.reads I e y u he ry
  exact SeqAt.compareNe_shaped r1 r2 sd se hu ⟨.bl _, H, I, rfl, q⟩
end
end L2

namespace L2
open PySem PySem.Spec PyProof.Rows
abbrev CellAt (h : Heap) (c : Addr) (v : Option Value) : Prop := h.IsCell c v
def relS (scope sc : Scope) : Scope :=
  { scope with names := scope.names.map fun (n, k) => if (k == .free && sc.kind == .function && sc.names.lookup n == some .cell) then (n, .cell) else (n, k) }

def cloFrom (cells : List (Str × Addr)) : List (Str × NameKind) → List (Str × Addr) → List (Str × Addr)
  | [], acc => acc
  | (n, k) :: r, acc => if k == .free then cloFrom cells r ((n, (cells.lookup n).getD 0) :: acc) else cloFrom cells r acc

theorem closure_loop (env : Env) (f : Str × NameKind → List (Str × Addr) → Sem (ForInStep (List (Str × Addr))))
    (hf : ∀ n k c, f (n, k) c = if k == .free then (do let a ← cellOf env n; pure (.yield ((n, a) :: c))) else pure (.yield c)) :
    ∀ (names : List (Str × NameKind)) (acc : List (Str × Addr)), (∀ y ∈ names, y.2 = .free → ∃ c, env.cells.lookup y.1 = some c) → forIn names acc f = pure (cloFrom env.cells names acc)
  | [], acc, _ => by rw [List.forIn_nil]; rfl
  | (n, k) :: r, acc, h => by
    rw [List.forIn_cons, hf]
    have ih := fun acc => closure_loop env f hf r acc fun y hy => h y (List.mem_cons_of_mem _ hy)
    unfold cloFrom
    by_cases hk : (k == NameKind.free) = true
    · rw [if_pos hk, if_pos hk]
      obtain ⟨c, hc⟩ := h (n, k) List.mem_cons_self (by simpa using hk)
      have e : cellOf env n = pure c := by unfold cellOf; rw [hc]
      rw [e]
      have e2 : (env.cells.lookup n).getD 0 = c := by rw [hc]; rfl
      rw [e2]
      exact ih _
    · rw [if_neg hk, if_neg hk]
      exact ih _
theorem closure_ok {scope : Scope} {env : Env} (h : ∀ y ∈ scope.names, y.2 = .free → ∃ c, env.cells.lookup y.1 = some c) : closureFor scope env = pure (cloFrom env.cells scope.names []) := by
  simp only [closureFor]
  rw [closure_loop env _ (fun n k c => rfl) scope.names [] h]
  rfl

theorem mem_lookup {α : Type} : ∀ {l : List (Str × α)} {n : Str} {c : α}, (n, c) ∈ l → ∃ c', l.lookup n = some c'
  | (k, v) :: r, n, c, h => by
    rw [List.lookup_cons]
    cases hb : n == k with
    | true => exact ⟨_, rfl⟩
    | false =>
      rcases List.mem_cons.mp h with e | h
      · cases e; simp at hb
      · exact mem_lookup h

theorem cloFrom_mem {cells : List (Str × Addr)} : ∀ {names : List (Str × NameKind)} {acc : List (Str × Addr)} {n : Str} {c : Addr}, (n, c) ∈ cloFrom cells names acc → (n, c) ∈ acc ∨ ((n, .free) ∈ names ∧ c = (cells.lookup n).getD 0)
  | [], _, _, _, h => .inl h
  | (m, k) :: r, acc, n, c, h => by
    unfold cloFrom at h
    split at h
    · rename_i hk
      have hk : k = .free := by simpa using hk
      rcases cloFrom_mem h with h | ⟨h1, h2⟩
      · rcases List.mem_cons.mp h with e | h
        · cases e; exact .inr ⟨hk ▸ List.mem_cons_self, rfl⟩
        · exact .inl h
      · exact .inr ⟨List.mem_cons_of_mem _ h1, h2⟩
    · rcases cloFrom_mem h with h | ⟨h1, h2⟩
      · exact .inl h
      · exact .inr ⟨List.mem_cons_of_mem _ h1, h2⟩
theorem cloFrom_acc {cells : List (Str × Addr)} : ∀ {names : List (Str × NameKind)} {acc : List (Str × Addr)} {p : Str × Addr}, p ∈ acc → p ∈ cloFrom cells names acc
  | [], _, _, h => h
  | (m, k) :: r, acc, p, h => by
    unfold cloFrom
    split
    · exact cloFrom_acc (List.mem_cons_of_mem _ h)
    · exact cloFrom_acc h
theorem cloFrom_has {cells : List (Str × Addr)} : ∀ {names : List (Str × NameKind)} {acc : List (Str × Addr)} {n : Str}, (n, .free) ∈ names → (n, (cells.lookup n).getD 0) ∈ cloFrom cells names acc
  | (m, k) :: r, acc, n, h => by
    unfold cloFrom
    rcases List.mem_cons.mp h with e | h
    · cases e
      exact cloFrom_acc List.mem_cons_self
    · split
      · exact cloFrom_has h
      · exact cloFrom_has h

theorem cells_mem : ∀ {names : List (Str × NameKind)} {h : Heap} {acc : List (Str × Addr)} {x : Str} {c : Addr}, (x, c) ∈ cellsFrom h.objs.size names acc →
    (x, c) ∈ acc ∨ ((x, .cell) ∈ names ∧ h.objs.size ≤ c ∧ CellAt (pushCells h names) c none)
  | [], _, _, _, _, h => .inl h
  | (n, k) :: r, h, acc, x, c, hm => by
    unfold cellsFrom at hm
    unfold pushCells
    split at hm
    · rename_i hk
      rw [if_pos hk]
      have hk : k = .cell := by simpa using hk
      rw [← Heap.size_push h { cls := .type "cell", data := .cell none }] at hm
      rcases cells_mem hm with hm | ⟨h1, h2, h3⟩
      · rcases List.mem_cons.mp hm with e | hm
        · cases e
          exact .inr ⟨hk ▸ List.mem_cons_self, Nat.le_refl _, _, pushCells_keeps r _ _ _ (Heap.get?_push_size _ rfl), rfl⟩
        · exact .inl hm
      · rw [Heap.size_push] at h2
        exact .inr ⟨List.mem_cons_of_mem _ h1, Nat.le_of_succ_le h2, h3⟩
    · rename_i hk
      rw [if_neg hk]
      rcases cells_mem hm with hm | ⟨h1, h2, h3⟩
      · exact .inl hm
      · exact .inr ⟨List.mem_cons_of_mem _ h1, h2, h3⟩
theorem cells_acc : ∀ {names : List (Str × NameKind)} {n : Nat} {acc : List (Str × Addr)} {p : Str × Addr}, p ∈ acc → p ∈ cellsFrom n names acc
  | [], _, _, _, h => h
  | (m, k) :: r, n, acc, p, h => by
    unfold cellsFrom
    split
    · exact cells_acc (List.mem_cons_of_mem _ h)
    · exact cells_acc h
theorem cells_has : ∀ {names : List (Str × NameKind)} {n : Nat} {acc : List (Str × Addr)} {x : Str}, (x, .cell) ∈ names → ∃ c, (x, c) ∈ cellsFrom n names acc
  | (m, k) :: r, n, acc, x, h => by
    unfold cellsFrom
    rcases List.mem_cons.mp h with e | h
    · cases e
      exact ⟨n, cells_acc List.mem_cons_self⟩
    · split
      · exact cells_has h
      · exact cells_has h
theorem cells_inj : ∀ {names : List (Str × NameKind)} {h : Heap} {acc : List (Str × Addr)} {x y : Str} {c : Addr}, (∀ p ∈ acc, p.2 < h.objs.size) → (∀ x y c, (x, c) ∈ acc → (y, c) ∈ acc → x = y) →
    (x, c) ∈ cellsFrom h.objs.size names acc → (y, c) ∈ cellsFrom h.objs.size names acc → x = y
  | [], _, _, _, _, _, _, hi, h1, h2 => hi _ _ _ h1 h2
  | (n, k) :: r, h, acc, x, y, c, hl, hi, h1, h2 => by
    unfold cellsFrom at h1 h2
    split at h1
    · rename_i hk
      rw [if_pos hk] at h2
      rw [← Heap.size_push h { cls := .type "cell", data := .cell none }] at h1 h2
      refine cells_inj (h := h.push _) (fun p hp => ?_) (fun x y c a b => ?_) h1 h2
      · rw [Heap.size_push]
        rcases List.mem_cons.mp hp with rfl | hp
        · exact Nat.lt_succ_self _
        · exact Nat.lt_succ_of_lt (hl p hp)
      · rcases List.mem_cons.mp a with e | a <;> rcases List.mem_cons.mp b with e' | b
        · cases e; cases e'; rfl
        · cases e; exact absurd (hl _ b) (Nat.lt_irrefl _)
        · cases e'; exact absurd (hl _ a) (Nat.lt_irrefl _)
        · exact hi _ _ _ a b
    · rename_i hk
      rw [if_neg hk] at h2
      exact cells_inj hl hi h1 h2

theorem newEnv_comp {M : Model} {A : Around} {E : Value → Shared → Prop} {s : Shared} {scope : Scope} {globals : Addr} {closure : List (Str × Addr)} {qual : Str} {func : Option Addr} {code : Value} {around : Env} {builtins : Addr} {Q : Env → Shared → Prop}
    (h : Q (newEnv scope s.heap.objs.size globals (cellsFrom (s.heap.objs.size + 1) scope.names closure) qual func code (some around) builtins)
      { s with heap := pushCells (s.heap.push { cls := .type "dict", data := .dict #[] }) scope.names }) :
    wpAny M A (newFunctionEnv scope globals closure [] qual func code (some around) builtins) Q E s := by
  simp only [newFunctionEnv, Option.isSome_some, if_true]
  refine wpAny_bind (wpAny_alloc ?_)
  refine wpAny_bind (wpAny_layCells _ (fun n k c => rfl) scope.names closure _ _ ?_)
  rw [show ({ s with heap := s.heap.push { cls := .type "dict", data := .dict #[] } } : Shared).heap.objs.size = s.heap.objs.size + 1 from Heap.size_push ..]
  rw [List.forIn_nil]
  exact wpAny_bind (wpAny_pure (wpAny_pure h))

/-- every name of the written scope, in the scope that runs -/
theorem lookup_relS {sc : Scope} : ∀ {names : List (Str × NameKind)} {x : Str} {k : NameKind},
    (names.map fun (n, k) => if (k == NameKind.free && sc.kind == .function && sc.names.lookup n == some .cell) then (n, NameKind.cell) else (n, k)).lookup x = some k →
    ∃ k', names.lookup x = some k' ∧ (k = k' ∨ (k' = .free ∧ k = .cell))
  | [], _, _, h => by simp at h
  | (n, k₀) :: r, x, k, h => by
    have ih := @lookup_relS sc r x k
    have h' : List.lookup x ((if (k₀ == NameKind.free && sc.kind == .function && sc.names.lookup n == some .cell) = true then (n, NameKind.cell) else (n, k₀)) :: (r.map _)) = some k := h
    cases hx : x == n with
    | true =>
      simp only [List.lookup_cons, hx]
      by_cases hc : (k₀ == NameKind.free && sc.kind == .function && sc.names.lookup n == some .cell) = true
      · rw [if_pos hc] at h'
        simp only [List.lookup_cons, hx] at h'
        cases h'
        simp only [Bool.and_eq_true, beq_iff_eq] at hc
        exact ⟨k₀, rfl, .inr ⟨hc.1.1, rfl⟩⟩
      · rw [if_neg hc] at h'
        simp only [List.lookup_cons, hx] at h'
        cases h'
        exact ⟨_, rfl, .inl rfl⟩
    | false =>
      simp only [List.lookup_cons, hx]
      by_cases hc : (k₀ == NameKind.free && sc.kind == .function && sc.names.lookup n == some .cell) = true
      · rw [if_pos hc] at h'
        simp only [List.lookup_cons, hx] at h'
        exact ih h'
      · rw [if_neg hc] at h'
        simp only [List.lookup_cons, hx] at h'
        exact ih h'
/-- the names of a comprehension's block: its own (with their places in N), or captured -/
structure BlkOk (N : List Str) (sc scope : Scope) (own : List (Str × Nat)) : Prop where
  kind : scope.kind = .function
  uniq : ∀ y ∈ scope.names, scope.names.lookup y.1 = some y.2
  ix : ∀ p ∈ own, N[p.2]? = some p.1
  free : ∀ y ∈ scope.names, y.2 = .free → sc.names.lookup y.1 = some .cell ∨ sc.names.lookup y.1 = some .free
  own : ∀ y ∈ scope.names, y.2 = .local ∨ y.2 = .cell → y.1 ∈ own.map (·.1) ∨ y.1 ∉ N
/-- the slots of the block's own names forgotten -/
def wipe (σ : St) : List Nat → St
  | [] => σ
  | v :: vs => (wipe σ vs).set v none
theorem wipe_length (σ : St) : ∀ vs : List Nat, (wipe σ vs).length = σ.length
  | [] => rfl
  | v :: vs => by unfold wipe; rw [List.length_set, wipe_length σ vs]
theorem wipe_some {σ : St} {i : Nat} {x : V} : ∀ {vs : List Nat}, (wipe σ vs)[i]? = some (some x) → σ[i]? = some (some x) ∧ i ∉ vs
  | [], h => ⟨h, by simp⟩
  | v :: vs, h => by
    unfold wipe at h
    by_cases hi : v = i
    · subst hi
      by_cases hv : v < (wipe σ vs).length
      · rw [List.getElem?_set_self hv] at h; cases h
      · rw [List.getElem?_eq_none (by simpa using hv)] at h; cases h
    · rw [List.getElem?_set_ne hi] at h
      obtain ⟨h1, h2⟩ := wipe_some h
      exact ⟨h1, by simp only [List.mem_cons, not_or]; exact ⟨fun e => hi e.symm, h2⟩⟩

/-- the context of a block that starts at s, its iterator's objects at fp -/
abbrev Cx.blk (X : Cx) (s : Shared) (H : Hp) (scope : Scope) (cenv : Env) (fp : List Addr) : Cx := { X with s_0 := s, H_0 := H, env := cenv, outer := X.stack, ex := fp, fn := fun x => scope.names.lookup x == some .cell, pn := [], xe := fun _ _ => False }
section
variable {X : Cx} {pins : List (Addr × Obj)} {σ : St} {H : Hp} {s : Shared}
theorem block_start {scope : Scope} {own : List (Str × Nat)} {fp : List Addr} (I : Inv X pins σ H s) (ok : BlkOk X.N X.env.scope scope own) (hN : X.N.Nodup) (hfp : ∀ b ∈ fp, FpOk X pins H b ∧ b < s.heap.objs.size) :
    Inv (X.blk s H scope (compEnvC scope (cellsFrom (s.heap.objs.size + 1) scope.names (cloFrom X.env.cells scope.names [])) s.heap.objs.size X.env) fp) [] (wipe σ (own.map (·.2))) H { s with heap := pushCells (s.heap.push { cls := .type "dict", data := .dict #[] }) scope.names } := by
  have hfree : ∀ y ∈ scope.names, y.2 = .free → ∃ c, X.env.cells.lookup y.1 = some c := fun y hy e => by
    rcases ok.free y hy e with k | k
    · exact I.ok.has _ (.inl k)
    · exact I.ok.has _ (.inr k)
  generalize hcenv : compEnvC scope (cellsFrom (s.heap.objs.size + 1) scope.names (cloFrom X.env.cells scope.names [])) s.heap.objs.size X.env = cenv
  have kp : ∀ b o, s.heap.get? b = some o → (pushCells (s.heap.push { cls := .type "dict", data := .dict #[] }) scope.names).get? b = some o := fun b o e => pushCells_keeps _ _ _ _ (Heap.get?_push_of_some _ e)
  have hL : cenv.locals = s.heap.objs.size := by rw [← hcenv]; rfl
  have hcl : cenv.cells = cellsFrom (s.heap.objs.size + 1) scope.names (cloFrom X.env.cells scope.names []) := by rw [← hcenv]; rfl
  have hsc : cenv.scope = relS scope X.env.scope := by rw [← hcenv]; rfl
  rw [← Heap.size_push s.heap { cls := .type "dict", data := .dict #[] }] at hcl
  have cm : ∀ {y c}, (y, c) ∈ cloFrom X.env.cells scope.names [] → X.env.cells.lookup y = some c ∧ c < s.heap.objs.size := fun {y c} hm => by
    rcases cloFrom_mem hm with hm | ⟨h1, rfl⟩
    · cases hm
    · obtain ⟨c, hc⟩ := hfree _ h1 rfl
      rw [hc]
      obtain ⟨w, z⟩ := I.cell _ _ hc
      exact ⟨rfl, z.lt⟩
  have mem : ∀ {y c}, cenv.cells.lookup y = some c → (X.env.cells.lookup y = some c ∧ c < s.heap.objs.size) ∨ (s.heap.objs.size + 1 ≤ c ∧ CellAt (pushCells (s.heap.push { cls := .type "dict", data := .dict #[] }) scope.names) c none) := fun {y c} e => by
    rw [hcl] at e
    rcases cells_mem (PySem.mem_of_lookup e) with hm | ⟨_, h2, h3⟩
    · exact .inl (cm hm)
    · rw [Heap.size_push] at h2; exact .inr ⟨h2, h3⟩
  have look : ∀ {y}, scope.names.lookup y = some .free → ∃ c, cenv.cells.lookup y = some c ∧ X.env.cells.lookup y = some c := fun {y} hl => by
    have hy : (y, NameKind.free) ∈ scope.names := PySem.mem_of_lookup hl
    obtain ⟨c', e'⟩ := mem_lookup (cells_acc (names := scope.names) (n := (s.heap.push { cls := .type "dict", data := .dict #[] }).objs.size) (cloFrom_has (cells := X.env.cells) (acc := []) hy))
    rw [← hcl] at e'
    refine ⟨c', e', ?_⟩
    rw [hcl] at e'
    rcases cells_mem (PySem.mem_of_lookup e') with hm | ⟨h1, _, _⟩
    · exact (cm hm).1
    · have := ok.uniq _ h1
      rw [hl] at this; cases this
  have okB : (X.blk s H scope cenv fp).Ok := by
    refine ⟨I.ok.mod, by show cenv.scope.kind = _; rw [hsc]; exact ok.kind, by show cenv.globals = _; rw [← hcenv]; exact I.ok.glob, by show cenv.builtins = _; rw [← hcenv]; exact I.ok.blt, by show s.heap.objs.size ≤ cenv.locals; rw [hL]; exact Nat.le_refl _,
      fun y z c e1 e2 => ?_, fun y hy => ?_, fun y c z e => ?_, I.ok.hd, I.ok.frames, .inl rfl, fun b hb => ⟨?_, fun y c e z => ?_⟩, I.bs, Nat.le_trans I.ok.bsz I.sz, fun b o e hb => ?_, fun b hb z => ?_, I.stack, I.stkFree⟩
    · have e1 : cenv.cells.lookup y = some c := e1
      have e2 : cenv.cells.lookup z = some c := e2
      rw [hcl] at e1 e2
      refine cells_inj (fun p hp => ?_) (fun y z c a b => I.ok.inj y z c (cm a).1 (cm b).1) (PySem.mem_of_lookup e1) (PySem.mem_of_lookup e2)
      rw [Heap.size_push]
      exact Nat.lt_succ_of_lt (cm (y := p.1) (c := p.2) hp).2
    · show ∃ c, cenv.cells.lookup y = some c
      have key : ∀ k, cenv.kindOf y = some k → (k = .cell ∨ k = .free) → ∃ c, cenv.cells.lookup y = some c := fun k hk hk' => by
        unfold Env.kindOf at hk
        rw [hsc] at hk
        obtain ⟨k', e, r⟩ := lookup_relS hk
        have : k' = .cell ∨ k' = .free := by
          rcases r with rfl | ⟨rfl, _⟩
          · exact hk'
          · exact .inr rfl
        rcases this with rfl | rfl
        · obtain ⟨c, hm⟩ := cells_has (n := (s.heap.push { cls := .type "dict", data := .dict #[] }).objs.size) (acc := cloFrom X.env.cells scope.names []) (PySem.mem_of_lookup e)
          obtain ⟨c', e'⟩ := mem_lookup hm
          exact ⟨c', by rw [hcl]; exact e'⟩
        · obtain ⟨c, h1, _⟩ := look e
          exact ⟨c, h1⟩
      rcases hy with hy | hy
      · exact key _ hy (.inl rfl)
      · exact key _ hy (.inr rfl)
    · have z : (scope.names.lookup y == some NameKind.cell) = true := z
      have z : scope.names.lookup y = some .cell := by simpa using z
      have e : cenv.cells.lookup y = some c := e
      rw [hcl] at e
      rcases cells_mem (PySem.mem_of_lookup e) with hm | ⟨_, h2, _⟩
      · rcases cloFrom_mem hm with hm | ⟨h1, _⟩
        · cases hm
        · have q := ok.uniq _ h1
          rw [z] at q; cases q
      · rw [Heap.size_push] at h2
        exact Nat.le_of_succ_le h2
    · show b ≠ cenv.locals
      rw [hL]; exact Nat.ne_of_lt (hfp b hb).2
    · have e : cenv.cells.lookup y = some c := e
      rcases mem e with ⟨h1, _⟩ | ⟨h1, _⟩
      · exact (hfp b hb).1.2.2.2.2.1 y c h1 z
      · have h2 : s.heap.objs.size + 1 ≤ b := by rw [← z]; exact h1
        exact absurd (Nat.lt_of_lt_of_le (hfp b hb).2 (Nat.le_of_succ_le h2)) (Nat.lt_irrefl _)
    · rcases (hfp b hb).1.2.2.2.1 with z | z
      · exact I.ok.noex b o e z
      · exact absurd (Nat.lt_of_lt_of_le (Heap.lt_size e) (Nat.le_trans I.ok.bsz z)) (Nat.lt_irrefl _)
    · rcases List.mem_cons.mp (I.stkSub b z) with z | z
      · exact (hfp b hb).1.2.1 z
      · exact (hfp b hb).1.2.2.1 z
  refine ⟨okB, rfl, I.bare, Un.kept kp, ⟨fun _ => none, ?_, fun i y av e1 e2 e3 => ?_⟩, fun y c e => ?_, ?_, fun y c e => ?_, fun p hp => ?_, I.hok.kept kp, by rw [wipe_length]; exact I.len⟩
  · show Heap.Ns _ cenv.locals _
    rw [hL]
    exact Heap.Ns.keeps (Heap.Ns.new ..) fun b o e => pushCells_keeps _ _ _ _ e
  · obtain ⟨e2, hne⟩ := wipe_some e2
    have hfr : scope.names.lookup y = some .free ∧ (cenv.kindOf y = some .cell ∨ cenv.kindOf y = some .free) := by
      have key : ∀ k, cenv.scope.names.lookup y = some k → k = .local ∨ k = .cell ∨ k = .free → scope.names.lookup y = some .free ∧ (cenv.kindOf y = some .cell ∨ cenv.kindOf y = some .free) := fun k hk hk' => by
        have hk0 := hk
        rw [hsc] at hk
        obtain ⟨k', e, r⟩ := lookup_relS hk
        have no : ¬ (k' = .local ∨ k' = .cell) := fun hh => by
          rcases ok.own _ (PySem.mem_of_lookup e) hh with e' | e'
          · obtain ⟨p, hp, hpy⟩ := List.mem_map.mp e'
            have e3 := ok.ix p hp
            have : p.1 = y := hpy
            rw [this] at e3
            exact hne (List.mem_map.mpr ⟨p, hp, nodup_ix hN e3 e1⟩)
          · exact e' (List.mem_of_getElem? e1)
        rcases r with rfl | ⟨rfl, rfl⟩
        · rcases hk' with rfl | rfl | rfl
          · exact absurd (.inl rfl) no
          · exact absurd (.inr rfl) no
          · exact ⟨e, .inr hk0⟩
        · exact ⟨e, .inl hk0⟩
      have e3 : Vis cenv.scope y := e3
      rcases e3 with e3 | e3 | e3
      · exact key _ e3 (.inl rfl)
      · exact key _ e3 (.inr (.inl rfl))
      · exact key _ e3 (.inr (.inr rfl))
    obtain ⟨m, hn, hl⟩ := I.loc
    have hvis : Vis X.env.scope y := (ok.free _ (PySem.mem_of_lookup hfr.1) rfl).elim (fun k => .inr (.inl k)) (fun k => .inr (.inr k))
    obtain ⟨w, r, q⟩ := hl i y av e1 e2 hvis
    refine ⟨w, r, .inr ⟨hfr.2, ?_⟩⟩
    obtain ⟨c, h1, h2⟩ := look hfr.1
    rcases q with ⟨k, _⟩ | ⟨_, c', e', z⟩
    · have k : X.env.scope.names.lookup y = some .local := k
      rcases ok.free _ (PySem.mem_of_lookup hfr.1) rfl with k' | k' <;> rw [show X.env.scope.names.lookup y = _ from k'] at k <;> cases k
    · rw [h2] at e'; cases e'
      exact ⟨c, h1, z.keeps kp⟩
  · have e : cenv.cells.lookup y = some c := e
    rcases mem e with ⟨h1, _⟩ | ⟨_, z⟩
    · obtain ⟨w, z⟩ := I.cell y c h1
      exact ⟨w, z.keeps kp⟩
    · exact ⟨_, z⟩
  · show H cenv.locals = none
    rw [hL]; exact I.hok.fresh (Nat.le_refl _)
  · have e : cenv.cells.lookup y = some c := e
    rcases mem e with ⟨h1, _⟩ | ⟨h1, _⟩
    · exact I.freeC y c h1
    · exact I.hok.fresh (Nat.le_of_succ_le h1)
  · exact absurd (show p ∈ ([] : List (Addr × Obj)) ++ [] from hp) (by simp)

/-- an item appended to a tracked list -/
theorem app_ok {E : Value → Shared → Prop} {D : Addr} {xs : List V} {y : V} {v : Value} {Q : Value → Shared → Prop} (I : Inv X pins σ H s) (hD : H D = some (.lst xs)) (hz : xs.length < sizeLine) (r : RelV y v)
    (h : ∀ s', Inv X pins σ (upd H D (.lst (xs ++ [y]))) s' → Q .none s') : wpAny (model X.prog X.w) X.A (call (.builtin "list.append") [.ref D, v]) Q E s := by
  obtain ⟨hz', its, n, ri, e⟩ := I.hok D _ hD
  have hl := ri.length
  refine append_at (hsz := by rw [List.size_toArray]; omega) e fun h' sb ho' => ?_
  refine h { s with heap := h' } (I.write (t' := s.toks) (by rw [hD]; trivial) (.inl rfl) (fun b u hb q => (sb.2 b hb).trans q) ⟨_, ho'⟩ ⟨by rw [List.length_append]; exact hz, its ++ [v], n + 1, ri.append (.cons r .nil), ?_⟩)
  rw [ho']
  simp

/-- a clause's tests -/
def PTs (X : Cx) (ifs : List Expr) (t : TT) : Prop :=
  ∀ (pins : List (Addr × Obj)) (s : Shared) (σ : St) (H : Hp) (Q : Bool → Hp → Prop), Inv X pins σ H s → t σ H Q →
    wpAny (model X.prog X.w) X.A (forIn ifs true fun c r => if r = true then do let ok ← isTrue c X.env (eval c X.env); pure (ForInStep.yield ok) else pure (ForInStep.yield r)) (TP X pins σ Q) X.xe s
def tYes : TT := fun _ H Q => Q true H
theorem pts_nil : PTs X [] tYes := fun _ _ _ H _ I h => wpAny_tests_nil ⟨H, I, h⟩
theorem pts_one {c : Expr} {t : TT} (h : PT X c t) : PTs X [c] t := fun pins s σ H Q I hw => wpAny_tests_one (h pins s σ H Q I hw)
end

theorem thnF {α : Type} {t : Sem α} {Q Q' : α → Shared → Prop} {M : Model} {A : Around} {E : Value → Shared → Prop} {s : Shared} (h : wpAny M A t Q (fun _ _ => False) s) (hQ : ∀ a s, Q a s → Q' a s) : wpAny M A t Q' E s := wpAny_mono h hQ fun _ _ z => False.elim z

/-- the loop of a list comprehension's block, the target of any form (codeAny_compLoop_tests asks a target that no tuple goes to; statement and proof follow it, PyProof/CompMap.lean:41-61, with the step letOwnedTupleGo kept) -/
theorem compLoop_any {prog : Program} {w : World} {A : Around} {R : Result → Shared → Prop} {s : Shared} {elt target iter : Expr} {ifs : List Expr} {scope : Scope} {pos : Pos} {it acc : Value} {env : Env} (I : Nat → Shared → Prop)
    (turn : ∀ n s, I n s → wpAny (model prog w) A (pyNext it) (fun r s₁ => match r with
      | none => R (.ok .next) s₁
      | some v => wpAny (model prog w) A (letOwnedTupleGo target it v) (fun _ s₁' => wpAny (model prog w) A (assign target env v) (fun _ s₂ =>
          wpAny (model prog w) A (forIn ifs true fun c r => if r = true then do let ok ← isTrue c env (eval c env); pure (ForInStep.yield ok) else pure (ForInStep.yield r)) (fun ok s₃ =>
            if ok = true then wpAny (model prog w) A (eval elt env) (fun x s₄ =>
              wpAny (model prog w) A (call (.builtin "list.append") [acc, x]) (fun _ s₅ => ∃ m, m < n ∧ I m s₅) (notedBy (model prog w) A env fun e s' => R (.error e) s') s₄) (notedBy (model prog w) A env fun e s' => R (.error e) s') s₃
            else ∃ m, m < n ∧ I m s₃) (notedBy (model prog w) A env fun e s' => R (.error e) s') s₂) (notedBy (model prog w) A env fun e s' => R (.error e) s') s₁') (notedBy (model prog w) A env fun e s' => R (.error e) s') s₁) (notedBy (model prog w) A env fun e s' => R (.error e) s') s)
    (n : Nat) (h : I n s) :
    codeAny (model prog w) A (.compLoop (.ListComp elt [⟨target, iter, ifs, 0⟩] scope pos) 0 it acc env) R s := by
  refine codeAny_loop rfl I (fun n s hI => ?_) n h
  show wpAny _ A ((compTurn (.ListComp elt [⟨target, iter, ifs, 0⟩] scope pos) 0 it acc env).onRaise (fun x => do noteFrame x env; theTreesLotGoes x)) _ _ s
  refine wpAny_noted ?_
  rw [compTurn_list]
  refine wpAny_bind (wpAny_standAt (wpAny_bind (wpAny_mono (turn n s hI) (fun r s₁ h₁ => ?_) fun _ _ h' => h')))
  cases r with
  | none => exact wpAny_pure h₁
  | some v =>
    refine wpAny_bind (wpAny_mono h₁ (fun _ s₁' h₁' => ?_) fun _ _ h' => h')
    refine wpAny_bind (wpAny_mono h₁' (fun _ s₂ h₂ => wpAny_bind (wpAny_mono h₂ (fun ok s₃ h₃ => ?_) fun _ _ h' => h')) fun _ _ h' => h')
    cases ok with
    | false => exact wpAny_pure ⟨rfl, h₃⟩
    | true =>
      exact wpAny_bind (wpAny_bind (wpAny_mono h₃ (fun x s₄ h₄ => wpAny_bind (wpAny_mono h₄ (fun _ s₅ h₅ => wpAny_pure (wpAny_pure ⟨rfl, h₅⟩)) fun _ _ h' => h')) fun _ _ h' => h'))

section
variable {X : Cx}
/-- [elt for target in iter if ..]: D the new list; W by the turn and a measure, Nx what a turn is to reach -/
def tLc (wi : TI) (g : TG) (tt : TT) (te : TE) (vs : List Nat) : TE := fun σ H Q => wi σ H fun J H1 => ∀ D, H1 D = none → ∃ W : Nat → Nat → Hp → Prop, (∃ m, W 0 m (upd H1 D (.lst []))) ∧ ∀ i m H, W i m H →
  (J.stop i H ∧ Q (.ref D) H) ∨ (J.go i H ∧ ∃ Nx : Hp → Prop, (∀ H', Nx H' → ∃ m', m' < m ∧ W (i + 1) m' H') ∧ ∀ x H', J.yld i H x H' → g x (wipe σ vs) H' fun σ2 H2 => wipe σ2 vs = wipe σ vs ∧ tt σ2 H2 fun b H3 =>
    if b = true then te σ2 H3 fun y H4 => ∃ acc, H4 D = some (.lst acc) ∧ acc.length < sizeLine ∧ Nx (upd H4 D (.lst (acc ++ [y]))) else Nx H3)
theorem lc_core {pins : List (Addr × Obj)} {s : Shared} {σ : St} {H : Hp} {Q : VK} {elt tg iter : Expr} {ifs : List Expr} {scope : Scope} {own : List (Str × Nat)} {pos pos' : Pos} {wi : TI} {g : TG} {tt : TT} {te : TE} {use : Option (Value → Sem Unit)} {Qf : Value → Shared → Prop}
    (hc : X.calm = true) (hN : X.N.Nodup) (I : Inv X pins σ H s) (hi : PI X tg iter wi) (ok : BlkOk X.N X.env.scope scope own)
    (hg : ∀ (s : Shared) (H : Hp) (C : Addr) (cl : List (Str × Addr)) (fp : List Addr), PG (X.blk s H scope (compEnvC scope cl C X.env) fp) tg g) (ht : ∀ (s : Shared) (H : Hp) (C : Addr) (cl : List (Str × Addr)) (fp : List Addr), PTs (X.blk s H scope (compEnvC scope cl C X.env) fp) ifs tt)
    (he : ∀ (s : Shared) (H : Hp) (C : Addr) (cl : List (Str × Addr)) (fp : List Addr), PE (X.blk s H scope (compEnvC scope cl C X.env) fp) elt te) (hs : ∀ x, foldedSetIterable iter X.env x = pure x)
    (h : tLc wi g tt te (own.map (·.2)) σ H Q)
    (hRR : ∀ D C s' m H', Inv X pins σ H' s' → Q (.ref D) H' → s'.heap.Ns C m → FpOk X pins H' C → compPost (model X.prog X.w) X.A X.xe use Qf (.ref D) C (.ok .next) s') :
    wpAny (model X.prog X.w) X.A (comprehension (.ListComp elt [⟨tg, iter, ifs, 0⟩] scope pos) scope X.env pos' (newList []) false (eval iter X.env) use) Qf X.xe s := by
  have hfree : ∀ y ∈ scope.names, y.2 = .free → ∃ c, X.env.cells.lookup y.1 = some c := fun y hy e => by
    rcases ok.free y hy e with k | k
    · exact I.ok.has _ (.inl k)
    · exact I.ok.has _ (.inr k)
  refine wpAny_comprehension_free (use := use) rfl hs (closure_ok hfree) ok.kind (fun y hy e => by rw [ok.uniq y hy, e])
    (thn (hi pins s σ H _ I h) fun xv s1 hx => thn hx fun itv s2 h2 => ?_)
  obtain ⟨it, fp, tn, J, H2, e, I2, T, st2, f2, q⟩ := h2
  subst e
  refine wpAny_newObj_type (newEnv_comp ?_) (by show 0 ≤ sizeLine; decide)
  generalize hD : s2.heap.objs.size = D
  have hDn : H2 D = none := I2.hok.fresh (Nat.le_of_eq hD)
  obtain ⟨W, ⟨m0, w0⟩, turn⟩ := q D hDn
  -- the new list
  generalize hs3 : ({ s2 with heap := s2.heap.push { cls := .type "list", data := .seq ([] : List Value).toArray } } : Shared) = s3
  have I3 : Inv X pins σ (upd H2 D (.lst [])) s3 := by
    rw [← hs3]
    refine I2.laid (t' := s2.toks) (fun b o e => Heap.get?_push_of_some _ e) (Nat.le_of_eq hD) ⟨Nat.zero_le _, [], 0, .nil, ?_⟩
    rw [← hD]
    exact Heap.get?_push_size _ rfl
  have h3 : s3.heap = s2.heap.push { cls := .type "list", data := .seq ([] : List Value).toArray } := by rw [← hs3]
  have sz : ∀ b ∈ fp, b < s2.heap.objs.size := fun b hb => by
    obtain ⟨o, e, _⟩ := T.obj _ _ st2 b hb
    exact Heap.lt_size e
  have f3 : ∀ b ∈ fp, FpOk X pins (upd H2 D (.lst [])) b ∧ b < s3.heap.objs.size := fun b hb => by
    have hlt := sz b hb
    refine ⟨⟨?_, (f2 b hb).2⟩, by rw [h3, Heap.size_push]; exact Nat.lt_succ_of_lt hlt⟩
    rw [upd_ne (by rw [← hD]; exact Nat.ne_of_lt hlt)]
    exact (f2 b hb).1
  have st3 : tn 0 s3.heap := T.keep _ _ _ st2 fun b _ o e => by rw [h3]; exact Heap.get?_push_of_some _ e
  have I4 := block_start I3 ok hN f3
  have pg := hg s3 (upd H2 D (.lst [])) s3.heap.objs.size (cellsFrom (s3.heap.objs.size + 1) scope.names (cloFrom X.env.cells scope.names [])) fp
  have pt := ht s3 (upd H2 D (.lst [])) s3.heap.objs.size (cellsFrom (s3.heap.objs.size + 1) scope.names (cloFrom X.env.cells scope.names [])) fp
  have pe := he s3 (upd H2 D (.lst [])) s3.heap.objs.size (cellsFrom (s3.heap.objs.size + 1) scope.names (cloFrom X.env.cells scope.names [])) fp
  show codeAny _ _ (.compStart (.ListComp elt [⟨tg, iter, ifs, 0⟩] scope pos) 0 (.ref it) (.ref D) (compEnvC scope (cellsFrom (s3.heap.objs.size + 1) scope.names (cloFrom X.env.cells scope.names [])) s3.heap.objs.size X.env)) (compPost (model X.prog X.w) X.A X.xe use Qf (.ref D) s3.heap.objs.size) { s3 with heap := pushCells (s3.heap.push { cls := .type "dict", data := .dict #[] }) scope.names }
  have nfp : ∀ b ∈ fp, (upd H2 D (.lst [])) b = none := fun b hb => (f3 b hb).1.1
  generalize hce : compEnvC scope (cellsFrom (s3.heap.objs.size + 1) scope.names (cloFrom X.env.cells scope.names [])) s3.heap.objs.size X.env = ce at I4 pg pt pe ⊢
  have cL : ce.locals = s3.heap.objs.size := by subst hce; rfl
  generalize hH3 : upd H2 D (.lst []) = H3 at I3 I4 pg pt pe w0 nfp f3
  generalize hs4 : ({ s3 with heap := pushCells (s3.heap.push { cls := .type "dict", data := .dict #[] }) scope.names } : Shared) = s4 at I4 ⊢
  have st4 : tn 0 s4.heap := T.keep _ _ _ st3 fun b _ o e => by rw [← hs4]; exact pushCells_keeps _ _ _ _ (Heap.get?_push_of_some _ e)
  have stat : ∀ {σ' : St} {H' : Hp} {s' : Shared}, Inv (X.blk s3 H3 scope ce fp) [] σ' H' s' → (∀ b ∈ fp, H' b = none) → ∀ b ∈ fp, FpOk (X.blk s3 H3 scope ce fp) [] H' b := fun {σ' H' s'} I' hn b hb =>
    ⟨hn b hb, (I'.ok.exf b hb).1, I'.ok.exfs b hb, .inl hb, fun x c e => (I'.ok.exf b hb).2 x c e, fun p hp => absurd (show p ∈ ([] : List (Addr × Obj)) ++ [] from hp) (by simp)⟩
  have loop : codeAny (model X.prog X.w) X.A (.compLoop (.ListComp elt [⟨tg, iter, ifs, 0⟩] scope pos) 0 (.ref it) (.ref D) ce) (compPost (model X.prog X.w) X.A X.xe use Qf (.ref D) s3.heap.objs.size) s4 := by
    refine compLoop_any (fun n s' => ∃ i H', Inv (X.blk s3 H3 scope ce fp) [] (wipe σ (own.map (·.2))) H' s' ∧ tn i s'.heap ∧ (∀ b ∈ fp, H' b = none) ∧ W i n H') ?_ m0 ⟨0, H3, I4, st4, nfp, w0⟩
    rintro n s5 ⟨i, H5, I5, st5, n5, w5⟩
    rcases turn i n H5 w5 with ⟨stop, qq⟩ | ⟨go, Nx, hNx, step⟩
    · have td := T.done (X.blk s3 H3 scope ce fp) rfl rfl rfl hc i [] s5 _ H5 (fun _ _ => False) I5 (stat I5 n5) st5 stop
      refine thnF td fun r s6 ⟨hr, I6⟩ => ?_
      subst hr
      -- back in the def's context
      have I7 : Inv X pins σ H5 s6 := I3.call' (ch := fp) I6.os I6.base I6.hok I6.bare fun b hb => ⟨(f3 b hb).1.2.2.2.1, (f3 b hb).1.2.1, (f3 b hb).1.2.2.2.2.1, (f3 b hb).1.2.2.2.2.2⟩
      have nC : H5 s3.heap.objs.size = none := by
        have z : H5 ce.locals = none := I6.free
        rw [cL] at z
        exact z
      obtain ⟨m, hn, _⟩ := I6.loc
      have hn : s6.heap.Ns ce.locals m := hn
      rw [cL] at hn
      exact hRR D s3.heap.objs.size s6 m H5 I7 qq hn (I3.fpOk (Nat.le_refl _) nC)
    · have ti := T.item (X.blk s3 H3 scope ce fp) rfl rfl rfl hc i [] s5 _ H5 (fun _ _ => False) I5 (stat I5 n5) st5 go
      refine thnF ti fun r s6 ⟨u, hr, h6⟩ => ?_
      subst hr
      refine thnF h6 fun _ s7 ⟨x, H7, I7, r7, y7, st7, n7⟩ => ?_
      have I7' := I7.pinned (stat I7 n7) (T.obj _ _ st7)
      refine thnF (pg _ s7 _ H7 x u _ I7' r7 (step x H7 y7)) fun _ s8 ⟨σ8, H8, I8, hw8, q8⟩ => ?_
      refine thnF (pt _ s8 σ8 H8 _ I8 q8) fun b s9 ⟨H9, I9, q9⟩ => ?_
      -- the turn's end
      have fin : ∀ {s' : Shared} {H' : Hp}, Inv (X.blk s3 H3 scope ce fp) ([] ++ pinsAt fp s7.heap) σ8 H' s' → Nx H' → ∃ m, m < n ∧ ∃ i H', Inv (X.blk s3 H3 scope ce fp) [] (wipe σ (own.map (·.2))) H' s' ∧ tn i s'.heap ∧ (∀ b ∈ fp, H' b = none) ∧ W i m H' := fun {s' H'} I' nx => by
        obtain ⟨m', hm, w'⟩ := hNx H' nx
        have pin' : ∀ b ∈ fp, ∀ o, s7.heap.get? b = some o → s'.heap.get? b = some o ∧ H' b = none := fun b hb o e =>
          let z := I'.pin (b, o) (List.mem_append_right _ (List.mem_append_right _ (mem_pinsAt hb e)))
          ⟨z.1, z.2.1⟩
        have hl : (wipe σ (own.map (·.2))).length = σ8.length := by rw [← hw8, wipe_length]
        refine ⟨m', hm, i + 1, H', (I'.unpinned (pins := [])).weak hl (fun j v e => ?_), T.keep _ _ _ st7 fun b hb o e => (pin' b hb o e).1, fun b hb => ?_, w'⟩
        · rw [← hw8] at e
          exact (wipe_some e).1
        · obtain ⟨o, e, _⟩ := T.obj _ _ st7 b hb
          exact (pin' b hb o e).2
      cases b with
      | false =>
        simp only [Bool.false_eq_true, if_false] at q9 ⊢
        exact fin I9 q9
      | true =>
        simp only [if_true] at q9 ⊢
        refine thnF (pe _ s9 σ8 H9 _ I9 q9) fun z s10 ⟨yv, H10, I10, r10, acc, hD10, hz10, nx⟩ => ?_
        exact app_ok (X := X.blk s3 H3 scope ce fp) I10 hD10 hz10 r10 fun s11 I11 => fin I11 nx
  exact codeAny_compStart_list loop (T.self X.A 0 _ _ _ st4 loop)
/-- as a value -/
theorem pe_lc {elt tg iter : Expr} {ifs : List Expr} {scope : Scope} {own : List (Str × Nat)} {pos : Pos} {wi : TI} {g : TG} {tt : TT} {te : TE} (hc : X.calm = true) (hN : X.N.Nodup) (hi : PI X tg iter wi) (ok : BlkOk X.N X.env.scope scope own)
    (hg : ∀ (s : Shared) (H : Hp) (C : Addr) (cl : List (Str × Addr)) (fp : List Addr), PG (X.blk s H scope (compEnvC scope cl C X.env) fp) tg g) (ht : ∀ (s : Shared) (H : Hp) (C : Addr) (cl : List (Str × Addr)) (fp : List Addr), PTs (X.blk s H scope (compEnvC scope cl C X.env) fp) ifs tt)
    (he : ∀ (s : Shared) (H : Hp) (C : Addr) (cl : List (Str × Addr)) (fp : List Addr), PE (X.blk s H scope (compEnvC scope cl C X.env) fp) elt te) (hs : ∀ x, foldedSetIterable iter X.env x = pure x := by intro _; rfl) :
    PE X (.ListComp elt [⟨tg, iter, ifs, 0⟩] scope pos) (tLc wi g tt te (own.map (·.2))) := by
  intro pins s σ H Q I h
  rw [eval_ListComp]
  refine lc_core hc hN I hi ok hg ht he hs h fun D C s' m H' I' q hn f => ⟨m, hn, fun h'' sb => ?_⟩
  obtain ⟨f0, f1, f2, f3, f4, f5⟩ := f
  exact ⟨.ref D, H', I'.turned (t' := s'.toks) (fun b o hb e => (sb.2 b hb).trans e) f0 f1 f3 f4 f5, rfl, q⟩
/-- name = [..] on one line, the name a local -/
theorem ps_setLc {i : Nat} {y : Str} {py : Pos} {elt tg iter : Expr} {ifs : List Expr} {scope : Scope} {own : List (Str × Nat)} {pos spos : Pos} {wi : TI} {g : TG} {tt : TT} {te : TE} (hc : X.calm = true) (hN : X.N.Nodup) (hy : X.N[i]? = some y) (hyl : X.env.scope.names.lookup y = some .local)
    (hsw : swapsWith (.ListComp elt [⟨tg, iter, ifs, 0⟩] scope pos) (some (.Name y py)) spos.line X.env = pure true) (hi : PI X tg iter wi) (ok : BlkOk X.N X.env.scope scope own)
    (hg : ∀ (s : Shared) (H : Hp) (C : Addr) (cl : List (Str × Addr)) (fp : List Addr), PG (X.blk s H scope (compEnvC scope cl C X.env) fp) tg g) (ht : ∀ (s : Shared) (H : Hp) (C : Addr) (cl : List (Str × Addr)) (fp : List Addr), PTs (X.blk s H scope (compEnvC scope cl C X.env) fp) ifs tt)
    (he : ∀ (s : Shared) (H : Hp) (C : Addr) (cl : List (Str × Addr)) (fp : List Addr), PE (X.blk s H scope (compEnvC scope cl C X.env) fp) elt te) (hs : ∀ x, foldedSetIterable iter X.env x = pure x := by intro _; rfl) :
    PS X (.Assign [.Name y py] (.ListComp elt [⟨tg, iter, ifs, 0⟩] scope pos) spos) (tAsg (tLc wi g tt te (own.map (·.2))) (gName i)) := by
  intro pins s σ H D I h
  rw [exec_Assign_Name_used _ _ _ _ hsw]
  refine wpAny_bind (wpAny_standAt (wpAny_bind ?_))
  show wpAny _ X.A (do let _ ← comprehension (.ListComp elt [⟨tg, iter, ifs, 0⟩] scope pos) scope X.env (firstIterPos [⟨tg, iter, ifs, 0⟩] pos) (newList []) false (eval iter X.env) (some (assign (.Name y py) X.env))) _ _ s
  have h : tLc wi g tt te (own.map (·.2)) σ H (fun x H1 => gName i x σ H1 D.nx) := h
  refine wpAny_bind (thn (lc_core (Qf := fun _ s' => SP X pins D .next s') hc hN I hi ok hg ht he hs h fun L C s' m H' I' q hn f => ?_) fun _ s' hq => wpAny_pure (wpAny_pure hq))
  show wpAny _ _ (assign (.Name y py) X.env (.ref L)) _ _ _
  refine wpAny_assign_Name (store_ok2 (v := V.ref L) I' hN hy (.inl hyl) rfl (fun s2 I2 ⟨a, sb, ha⟩ => ?_) (.inr hyl))
  obtain ⟨f0, f1, f2, f3, f4, f5⟩ := f
  have haC : C ≠ a := by
    rcases ha with z | z
    · rw [z]; exact f1
    · exact fun e => f4 y a z e.symm
  refine ⟨m, hn.sameBut sb haC, fun h3 sb3 => ?_⟩
  exact ⟨_, H', I2.turned (t' := s2.toks) (fun b o hb e => (sb3.2 b hb).trans e) f0 f1 f3 f4 f5, q⟩
theorem sw_true {elt : Expr} {gs : List Comprehension} {scope : Scope} {pos py : Pos} {y : Str} {l : Nat} {env : Env} (hk : env.scope.kind = .function) (hy : env.scope.names.lookup y = some .local) (hl : (py.line == pos.line) = true)
    (ha : (scope.names.any fun (n, k) => n == y && (k == .local || k == .cell)) = false) : swapsWith (.ListComp elt gs scope pos) (some (.Name y py)) l env = pure true := by
  have ky : env.kindOf y = some .local := hy
  have hb : env.blockKind = .function := by unfold Env.blockKind; rw [hk]; rfl
  unfold swapsWith
  simp only [hb, ky, ha, Expr.pos, hl]
  rfl
end

/-! ### the forms one uses -/
/-- over a range: Pv by the turn and the heap (the new list at D within) -/
theorem lc_range {lo : Int} {n : Nat} {g : TG} {tt : TT} {te : TE} {vs : List Nat} {σ : St} {H1 : Hp} {D : Addr} {Qd : Hp → Prop} (Pv : Nat → Hp → Prop) (h0 : Pv 0 (upd H1 D (.lst [])))
    (hs : ∀ i H, i < n → Pv i H → g (.int (lo + i)) (wipe σ vs) H fun σ2 H2 => wipe σ2 vs = wipe σ vs ∧ tt σ2 H2 fun b H3 =>
      if b = true then te σ2 H3 fun y H4 => ∃ acc, H4 D = some (.lst acc) ∧ acc.length < sizeLine ∧ Pv (i + 1) (upd H4 D (.lst (acc ++ [y]))) else Pv (i + 1) H3) (hd : ∀ H, Pv n H → Qd H) :
    ∃ W : Nat → Nat → Hp → Prop, (∃ m, W 0 m (upd H1 D (.lst []))) ∧ ∀ i m H, W i m H →
      ((Itr lo n).stop i H ∧ Qd H) ∨ ((Itr lo n).go i H ∧ ∃ Nx : Hp → Prop, (∀ H', Nx H' → ∃ m', m' < m ∧ W (i + 1) m' H') ∧ ∀ x H', (Itr lo n).yld i H x H' → g x (wipe σ vs) H' fun σ2 H2 => wipe σ2 vs = wipe σ vs ∧ tt σ2 H2 fun b H3 =>
        if b = true then te σ2 H3 fun y H4 => ∃ acc, H4 D = some (.lst acc) ∧ acc.length < sizeLine ∧ Nx (upd H4 D (.lst (acc ++ [y]))) else Nx H3) := by
  refine ⟨fun i m H => m = n - i ∧ i ≤ n ∧ Pv i H, ⟨n, by simp, Nat.zero_le _, h0⟩, ?_⟩
  rintro i m H ⟨rfl, hi, p⟩
  by_cases hlt : i < n
  · refine .inr ⟨hlt, Pv (i + 1), fun H' p' => ⟨n - (i + 1), by omega, rfl, hlt, p'⟩, fun x H' y => ?_⟩
    obtain ⟨e, y⟩ := y
    subst e y
    exact hs i _ hlt p
  · have e : i = n := by omega
    subst e
    exact .inl ⟨Nat.le_refl _, hd H p⟩
/-- over a list that the block leaves as it is -/
theorem lc_list {K : PySem.W.Frag} {a : Addr} {xs : List V} {g : TG} {tt : TT} {te : TE} {vs : List Nat} {σ : St} {H1 : Hp} {D : Addr} {Qd : Hp → Prop} (Pv : Nat → Hp → Prop) (h0 : Pv 0 (upd H1 D (.lst []))) (hl : ∀ i H, i ≤ xs.length → Pv i H → SqL K H a xs)
    (hs : ∀ i x H, xs[i]? = some x → Pv i H → g x (wipe σ vs) H fun σ2 H2 => wipe σ2 vs = wipe σ vs ∧ tt σ2 H2 fun b H3 =>
      if b = true then te σ2 H3 fun y H4 => ∃ acc, H4 D = some (.lst acc) ∧ acc.length < sizeLine ∧ Pv (i + 1) (upd H4 D (.lst (acc ++ [y]))) else Pv (i + 1) H3) (hd : ∀ H, Pv xs.length H → Qd H) :
    ∃ W : Nat → Nat → Hp → Prop, (∃ m, W 0 m (upd H1 D (.lst []))) ∧ ∀ i m H, W i m H →
      ((Itl K a).stop i H ∧ Qd H) ∨ ((Itl K a).go i H ∧ ∃ Nx : Hp → Prop, (∀ H', Nx H' → ∃ m', m' < m ∧ W (i + 1) m' H') ∧ ∀ x H', (Itl K a).yld i H x H' → g x (wipe σ vs) H' fun σ2 H2 => wipe σ2 vs = wipe σ vs ∧ tt σ2 H2 fun b H3 =>
        if b = true then te σ2 H3 fun y H4 => ∃ acc, H4 D = some (.lst acc) ∧ acc.length < sizeLine ∧ Nx (upd H4 D (.lst (acc ++ [y]))) else Nx H3) := by
  refine ⟨fun i m H => m = xs.length - i ∧ i ≤ xs.length ∧ Pv i H, ⟨xs.length, by simp, Nat.zero_le _, h0⟩, ?_⟩
  rintro i m H ⟨rfl, hi, p⟩
  have q := hl i H hi p
  by_cases hlt : i < xs.length
  · refine .inr ⟨⟨xs, xs[i], q, by simp [hlt]⟩, Pv (i + 1), fun H' p' => ⟨xs.length - (i + 1), by omega, rfl, hlt, p'⟩, fun x H' y => ?_⟩
    obtain ⟨e, y⟩ := y
    subst e
    exact hs i x _ (y xs q) p
  · have e : i = xs.length := by omega
    subst e
    exact .inl ⟨⟨xs, q, Nat.le_refl _⟩, hd H p⟩
def blkC (N : List Str) (sc scope : Scope) (own : List (Str × Nat)) : Bool :=
  (match scope.kind with | .function => true | _ => false) && (scope.names.all fun y => decide (scope.names.lookup y.1 = some y.2)) && (own.all fun p => decide (N[p.2]? = some p.1)) &&
    (scope.names.all fun y => match y.2 with
      | .free => (match sc.names.lookup y.1 with | some .cell => true | some .free => true | _ => false)
      | .local => decide (y.1 ∈ own.map (·.1)) || decide (y.1 ∉ N)
      | .cell => decide (y.1 ∈ own.map (·.1)) || decide (y.1 ∉ N)
      | _ => true)
theorem blkOk_by {N : List Str} {sc scope : Scope} {own : List (Str × Nat)} (h : blkC N sc scope own = true) : BlkOk N sc scope own := by
  unfold blkC at h
  simp only [Bool.and_eq_true, List.all_eq_true, decide_eq_true_eq] at h
  obtain ⟨⟨⟨h1, h2⟩, h3⟩, h4⟩ := h
  refine ⟨?_, h2, h3, fun y hy e => ?_, fun y hy e => ?_⟩
  · split at h1
    · assumption
    · cases h1
  · have q := h4 y hy
    simp only [e] at q
    split at q <;> first | exact .inl (by assumption) | exact .inr (by assumption) | cases q
  · have q := h4 y hy
    rcases e with e | e <;> (simp only [e, Bool.or_eq_true, decide_eq_true_eq] at q; exact q)
end L2

namespace L2
open PySem PySem.Spec PyProof.Rows

section
variable {prog : Program} {w : World} {A : Around} {R : Result → Shared → Prop} {s : Shared} {elt t0 i0 t1 i1 : Expr} {ifs0 ifs1 : List Expr} {scope : Scope} {pos : Pos} {it acc : Value} {env : Env}
end

section
variable {X : Cx}
end
end L2

namespace L2
open PySem PySem.Spec PyProof.Rows

/-! ### lists of pairs as tables -/
section
variable {κ : Type} [DecidableEq κ]
end


/-! ### a tracked dict, its keys ints and texts or tuples of these -/
section
variable {P : Program} {w : World} {H : Hp} {h : Heap} {a : Addr}
end

section
variable {X : Cx} {pins : List (Addr × Obj)} {σ : St} {H : Hp} {s : Shared} {a : Addr} {y v : V} {u r : Value} {o : Option V} {A : Around} {E : Value → Shared → Prop}

end

section
variable {X : Cx} {pins : List (Addr × Obj)} {σ : St} {H : Hp} {s : Shared} {a : Addr} {kvs : List (Key × V)} {k : Key} {u : Value} {A : Around} {E : Value → Shared → Prop}
end


/-! ### readings and rules -/
section
variable {X : Cx} {o i e value : Expr} {pos pos' tpos : Pos} {td ty tv : TE}
end


/-! ### displays -/
section
variable {X : Cx} {pos : Pos}
end

/-! ### methods -/
section
variable {X : Cx} {pins : List (Addr × Obj)} {σ : St} {H : Hp} {s : Shared} {a : Addr} {y d : V} {u r : Value} {o : Option V} {A : Around} {E : Value → Shared → Prop}
end

section
variable {X : Cx} {o e f : Expr} {apos cpos : Pos} {td ty tx : TE}
end

/-! ### dict(d): a copy -/
section
variable {X : Cx} {pins : List (Addr × Obj)} {σ : St} {H : Hp} {s : Shared} {a : Addr} {kvs : List (Key × V)} {A : Around} {E : Value → Shared → Prop}
end


section
variable {X : Cx} {pins : List (Addr × Obj)} {σ : St} {H : Hp} {s : Shared} {a : Addr} {y : V} {u : Value} {A : Around} {E : Value → Shared → Prop}
end
end L2

namespace L2
open PySem PySem.Spec PyProof.Rows

section
variable {prog : Program} {w : World} {A : Around} {E : Value → Shared → Prop}
end

section
variable {X : Cx}
end
end L2

namespace L2
open PySem PySem.Spec PyProof.Rows

section
variable {X : Cx} {pins : List (Addr × Obj)} {σ : St} {H : Hp} {s : Shared} {h' : Heap}
/-- several records of ours have turned -/
theorem Inv.turnedL {t' : Nat} {ch : List Addr} (I : Inv X pins σ H s) (k : ∀ b o, b ∉ ch → s.heap.get? b = some o → h'.get? b = some o) (hf : ∀ b ∈ ch, FpOk X pins H b) : Inv X pins σ H { s with heap := h', toks := t' } := by
  have nit : ∀ b u, H b = some u → b ∉ ch := fun b u e z => by
    have q := (hf b z).1
    rw [q] at e; cases e
  refine I.step (g' := s.gens) (d' := s.drawn) (ch := ch) (fun b hb => ⟨(hf b hb).2.2.2.1, (hf b hb).2.1, (hf b hb).2.2.2.2.1, (hf b hb).2.2.2.2.2⟩) (fun b o _ _ hc e _ => k b o hc e) (fun b o _ _ hc e _ => ⟨o.slots, k b o hc e⟩)
    (fun _ _ _ _ n => n) (fun b o hc e => ⟨o, k b o hc e⟩) (fun _ _ e => e) (fun _ _ _ e => e) (fun b ps e => ⟨#[], by rw [e]; simp⟩) (fun m hm => ?_) (fun b u e => ?_) I.bare
  · obtain ⟨o, es, ep, ho, r⟩ := hm
    exact ⟨o, es, ep, k _ o (fun z => (hf _ z).2.1 rfl) ho, r⟩
  · refine (I.hok b u e).stay (fun c v hc q => k c v ?_ q) (fun _ q => q) fun _ _ q => q
    rcases hc with z | z
    · rw [z]; exact nit b u e
    · exact nit c _ z
/-- .. and one new object is laid -/
theorem Inv.turnedNew {t' : Nat} {ch : List Addr} {T : Addr} {ob : HO} (I : Inv X pins σ H s) (k : ∀ b o, b ∉ ch → s.heap.get? b = some o → h'.get? b = some o) (hf : ∀ b ∈ ch, FpOk X pins H b) (hT : s.heap.objs.size ≤ T)
    (new : ObjOk X.prog X.w (upd H T ob) h' T ob) : Inv X pins σ (upd H T ob) { s with heap := h', toks := t' } := by
  have hn : H T = none := I.hok.fresh hT
  have nit : ∀ b u, H b = some u → b ∉ ch := fun b u e z => by
    have q := (hf b z).1
    rw [q] at e; cases e
  refine I.step (g' := s.gens) (d' := s.drawn) (ch := ch) (fun b hb => ⟨(hf b hb).2.2.2.1, (hf b hb).2.1, (hf b hb).2.2.2.2.1, (hf b hb).2.2.2.2.2⟩) (fun b o _ _ hc e _ => k b o hc e) (fun b o _ _ hc e _ => ⟨o.slots, k b o hc e⟩)
    (fun b o _ e n => ?_) (fun b o hc e => ⟨o, k b o hc e⟩) (fun b xs e => ?_) (fun b o u e => ?_) (fun b ps e => ⟨#[], ?_⟩) (fun m hm => ?_) (fun b u e => ?_) I.bare
  · rw [upd_ne (Nat.ne_of_lt (Nat.lt_of_lt_of_le (Heap.lt_size e) hT))]; exact n
  · rw [upd_ne (ne_of_none e hn)]; exact e
  · rw [upd_ne (ne_of_none e hn)]; exact e
  · rw [upd_ne (ne_of_none e hn), e]; simp
  · obtain ⟨o, es, ep, ho, r⟩ := hm
    exact ⟨o, es, ep, k _ o (fun z => (hf _ z).2.1 rfl) ho, r⟩
  · by_cases hb : b = T
    · subst hb
      rw [upd_same] at e
      cases e
      exact new
    · rw [upd_ne hb] at e
      refine (I.hok b u e).stay (fun c v hc q => k c v ?_ q) (fun c q => by rw [upd_ne (ne_of_none q hn)]; exact q) fun c xs q => by rw [upd_ne (ne_of_none q hn)]; exact q
      rcases hc with z | z
      · rw [z]; exact nit b u e
      · exact nit c _ z

/-! ### locking a thing while a statement runs -/
end
section
variable {X : Cx}
/-! ### one iterator just laid -/
end

/-! ### range with a step -/
section
variable {X : Cx} {tg : Expr}
end
/-! ### reversed(list) -/
section
variable {X : Cx} {tg : Expr}
end

/-! ### a str -/
/-! ### a dict's keys: any dict's entries -/
section
variable {prog : Program} {w : World} {A : Around} {E : Value → Shared → Prop} {s : Shared}
end

/-! ### a locked dict -/
theorem paired_get {α β : Type} {G : α → β → Prop} {l₁ : List α} {l₂ : List β} (h : Paired G l₁ l₂) : ∀ {i : Nat} {a : α}, l₁[i]? = some a → ∃ b, l₂[i]? = some b ∧ G a b := by
  induction h with
  | nil => intro i a e; simp at e
  | @cons a b l₁ l₂ r t ih =>
    intro i a' e
    cases i with
    | zero =>
      simp only [List.getElem?_cons_zero, Option.some.injEq] at e
      subst e
      exact ⟨b, rfl, r⟩
    | succ j =>
      simp only [List.getElem?_cons_succ] at e ⊢
      exact ih e
section
variable {X : Cx} {pins : List (Addr × Obj)} {σ : St} {H : Hp} {s : Shared} {d : Addr} {o : Obj}
end

section
variable {P : Program} {w : World} {K : PySem.W.Frag} {tg : Expr} {d : Addr} {o : Obj} {es : Array DictEntry} {ep : Nat}
end

/-! ### for k in d, d.keys(), d.values(), d.items() -/
section
variable {X : Cx} {tg e : Expr} {td : TE} {apos cpos : Pos}
end

/-! ### enumerate(list) -/
/-- the list at a as it stands at each turn, each item in a new pair -/
def Ite (K : PySem.W.Frag) (a : Addr) : It :=
  ⟨fun i H => ∃ (xs : List V) (x : V), SqL K H a xs ∧ xs[i]? = some x, fun i H v H' => ∃ T x, v = .ref T ∧ H T = none ∧ H' = upd H T (.tup [.int (i : Nat), x]) ∧ ∀ xs, SqL K H a xs → xs[i]? = some x, fun i H => ∃ xs : List V, SqL K H a xs ∧ xs.length ≤ i⟩
theorem turn_enum {P : Program} {w : World} {K : PySem.W.Frag} {elts : List Expr} {kk : Nat} {tpos : Pos} (a e it : Addr) :
    Turn P w K (.Tuple elts kk tpos) (Ite K a) [e, it] e (fun i h => (∃ old, IsEnum h e it ((i : Nat) : Int) old) ∧ h.IsListIter it a i ∧ e ≠ it) where
  mem := by simp
  obj := fun i h st b hb => by
    obtain ⟨⟨old, he⟩, ⟨o, ho, hc, hd⟩, _⟩ := st
    have e' : b = e ∨ b = it := by simpa using hb
    rcases e' with z | z
    · rw [z]; exact ⟨_, he, fun v q => nomatch q⟩
    · rw [z]; exact ⟨o, ho, fun v q => by rw [hd] at q; cases q⟩
  keep := fun i h h' st k => let ⟨⟨old, he⟩, hi, hne⟩ := st; ⟨⟨old, k e (by simp) _ he⟩, hi.at fun o q => k it (by simp) o q, hne⟩
  item := by
    intro X hP hw hK hc i pins s σ H E I hf st hg
    subst hP hw hK
    obtain ⟨⟨old, he⟩, hit, hne⟩ := st
    obtain ⟨xs, x, hq, hx⟩ := hg
    obtain ⟨its, rv, p, hz⟩ := I.list hq
    obtain ⟨u, hu, ru⟩ := rv.get hx
    have hel : e < s.heap.objs.size := Heap.lt_size he
    have hil : it < s.heap.objs.size := by obtain ⟨_, q, _⟩ := hit; exact Heap.lt_size q
    refine wpAny_pyNext_enum_item he hit p.isList (x := u) (by simpa using hu) hne fun h' ho hit' hT hsz hk => ?_
    refine ⟨_, rfl, wpAny_letOwnedTupleGo_enum (s := { s with heap := h', toks := s.toks + 1 }) ho fun h'' he' sb => ?_⟩
    have hT2 : h''.get? s.heap.objs.size = some { cls := .type "tuple", data := .seq #[.int i s.toks, u] } := (sb.2 _ (Nat.ne_of_gt hel)).trans hT
    have new : ObjOk X.prog X.w (upd H s.heap.objs.size (.tup [.int (i : Nat), x])) h'' s.heap.objs.size (.tup [.int (i : Nat), x]) :=
      ⟨by show 2 ≤ sizeLine; decide, [.int i s.toks, u], .cons ⟨_, rfl⟩ (.cons ru .nil), ⟨_, hT2, rfl, _, rfl⟩⟩
    have I1 : Inv X pins σ (upd H s.heap.objs.size (.tup [.int (i : Nat), x])) { s with heap := h'', toks := s.toks + 1 } :=
      I.turnedNew (ch := [e, it]) (fun b ob hb q => (sb.2 b (fun z => hb (by simp [z]))).trans (hk b ob (fun z => hb (by simp [z])) (fun z => hb (by simp [z])) q)) hf (Nat.le_refl _) new
    refine ⟨.ref s.heap.objs.size, _, I1, rfl, ⟨_, x, rfl, I.hok.fresh (Nat.le_refl _), rfl, fun ys hy => by rw [I.list_inj hy hq]; exact hx⟩, ⟨⟨u, ?_⟩, hit'.at fun o q => (sb.2 it (Ne.symm hne)).trans q, hne⟩, fun b hb => ?_⟩
    · have e1 : ((i + 1 : Nat) : Int) = (i : Int) + 1 := by omega
      rw [e1]; exact he'
    · have hb' : b < s.heap.objs.size := by
        have e' : b = e ∨ b = it := by simpa using hb
        rcases e' with z | z
        · rw [z]; exact hel
        · rw [z]; exact hil
      rw [upd_ne (Nat.ne_of_lt hb')]
      exact (hf b hb).1
  done := by
    intro X hP hw hK hc i pins s σ H E I hf st hg
    subst hP hw hK
    obtain ⟨⟨old, he⟩, hit, hne⟩ := st
    obtain ⟨xs, hq, hx⟩ := hg
    obtain ⟨its, rv, p, hz⟩ := I.list hq
    obtain ⟨f0, f1, f2, f3, f4, f5⟩ := hf it (by simp)
    have hl := rv.length
    exact wpAny_pyNext_enum_end (I.ok.hd hc) he hit p.isList (by simp; omega) fun h' eb => ⟨rfl, I.turned (t' := s.toks) (fun b o hb q => eb b o hb q) f0 f1 f3 f4 f5⟩
  self := fun A i s Q E st h => let ⟨⟨_, he⟩, _⟩ := st; wpAny_pyIter_enum he h
def iEnum (K : PySem.W.Frag) (ta : TA) : TI := fun σ H R => ta σ H fun vs H1 => ∃ a xs, vs = [.ref a] ∧ SqL K H1 a xs ∧ R (Ite K a) H1
theorem pi_enum {X : Cx} {e : Expr} {ta : TA} {p pos tpos : Pos} {elts : List Expr} {kk : Nat} (hg : Gl X "enumerate") (hm : X.mg "enumerate" = none) (ha : PA X [e] ta) (hs : starEach [e] X.env = [(false, eval e X.env)] := by rfl) :
    PI X (.Tuple elts kk tpos) (.Call (.Name "enumerate" p) [e] [] pos) (iEnum X.K ta) := by
  intro pins s σ H R I h
  refine Call_ (ld_blt I hg hm boot_enumerate (PyProof.Rows.callWith_type1 (thn (ha pos pins s σ H _ I h) fun us s1 ⟨vs, H1, I1, r1, q1⟩ => ?_) hs rfl))
  obtain ⟨a, xs, ex, hq, q⟩ := q1
  subst ex
  cases r1 with
  | cons r rr =>
    cases rr
    cases r
    obtain ⟨its, rv, p', hz⟩ := I1.list hq
    refine call_enumerate_list p'.isList fun h' he hit hsz hk => wpAny_pyIter_enum he ?_
    have I2 : Inv X pins σ H1 { s1 with heap := h' } := I1.kept (t' := s1.toks) hk
    refine ⟨s1.heap.objs.size + 1, [s1.heap.objs.size + 1, s1.heap.objs.size], _, _, H1, rfl, I2, turn_enum a (s1.heap.objs.size + 1) s1.heap.objs.size, ⟨⟨.none, he⟩, hit, Nat.succ_ne_self _⟩, fun b hb => ?_, q⟩
    have e' : b = s1.heap.objs.size + 1 ∨ b = s1.heap.objs.size := by simpa using hb
    have hle : s1.heap.objs.size ≤ b := by
      rcases e' with z | z
      · rw [z]; exact Nat.le_add_right _ _
      · rw [z]; exact Nat.le_refl _
    exact I1.fpOk hle (I1.hok.fresh hle)
/-! ### zip(list, list) -/
theorem boot_zip5 : bootBuiltins "zip" = some (.type "zip") := by decide +kernel
/-- the lists at a and b as they stand at each turn, the items in new pairs -/
def Itz (K : PySem.W.Frag) (a b : Addr) : It :=
  ⟨fun i H => ∃ (xs ys : List V) (x y : V), SqL K H a xs ∧ SqL K H b ys ∧ xs[i]? = some x ∧ ys[i]? = some y,
    fun i H v H' => ∃ T x y, v = .ref T ∧ H T = none ∧ H' = upd H T (.tup [x, y]) ∧ (∀ xs, SqL K H a xs → xs[i]? = some x) ∧ ∀ ys, SqL K H b ys → ys[i]? = some y,
    fun i H => ∃ xs ys : List V, SqL K H a xs ∧ SqL K H b ys ∧ (xs.length ≤ i ∨ ys.length ≤ i)⟩
theorem turn_zip {P : Program} {w : World} {K : PySem.W.Frag} {elts : List Expr} {kk : Nat} {tpos : Pos} {a b z TI TO i1 i2 : Addr} (D : ZipApart z TI TO i1 i2 a b) :
    Turn P w K (.Tuple elts kk tpos) (Itz K a b) [z, TI, TO, i1, i2] z (fun i h => IsZip h z TI TO .none ∧ IsPair h TI (.ref i1) (.ref i2) ∧ (∃ x y, IsPair h TO x y) ∧ h.IsListIter i1 a i ∧ h.IsListIter i2 b i) where
  mem := by simp
  obj := fun i h st c hc => by
    obtain ⟨hz, hTI, ⟨x, y, hTO⟩, ⟨o1, e1, _, d1⟩, ⟨o2, e2, _, d2⟩⟩ := st
    have e' : c = z ∨ c = TI ∨ c = TO ∨ c = i1 ∨ c = i2 := by simpa using hc
    rcases e' with q | q | q | q | q
    · rw [q]; exact ⟨_, hz, fun v q => nomatch q⟩
    · rw [q]; exact ⟨_, hTI, fun v q => nomatch q⟩
    · rw [q]; exact ⟨_, hTO, fun v q => nomatch q⟩
    · rw [q]; exact ⟨o1, e1, fun v q => by rw [d1] at q; cases q⟩
    · rw [q]; exact ⟨o2, e2, fun v q => by rw [d2] at q; cases q⟩
  keep := fun i h h' st k => by
    obtain ⟨hz, hTI, ⟨x, y, hTO⟩, h1, h2⟩ := st
    exact ⟨k z (by simp) _ hz, k TI (by simp) _ hTI, ⟨x, y, k TO (by simp) _ hTO⟩, h1.at fun o q => k i1 (by simp) o q, h2.at fun o q => k i2 (by simp) o q⟩
  item := by
    intro X hP hw hK hc i pins s σ H E I hf st hg
    subst hP hw hK
    obtain ⟨hz, hTI, ⟨x0, y0, hTO⟩, h1, h2⟩ := st
    obtain ⟨xs, ys, x, y, hqx, hqy, hx, hy⟩ := hg
    obtain ⟨its, rv, p, _⟩ := I.list hqx
    obtain ⟨its2, rv2, p2, _⟩ := I.list hqy
    obtain ⟨u, hu, ru⟩ := rv.get hx
    obtain ⟨u2, hu2, ru2⟩ := rv2.get hy
    have hzl : z < s.heap.objs.size := Heap.lt_size hz
    refine wpAny_pyNext_zip_item D hz hTI hTO h1 h2 p.isList p2.isList (x := u) (y := u2) (by simpa using hu) (by simpa using hu2) fun h' z' TO' h1' h2' hT hsz hk => ?_
    refine ⟨_, rfl, wpAny_letOwnedTupleGo_zip (s := { s with heap := h' }) z' fun h'' z'' sb => ?_⟩
    have hT2 : h''.get? s.heap.objs.size = some { cls := .type "tuple", data := .seq #[u, u2] } := (sb.2 _ (Nat.ne_of_gt hzl)).trans hT
    have new : ObjOk X.prog X.w (upd H s.heap.objs.size (.tup [x, y])) h'' s.heap.objs.size (.tup [x, y]) :=
      ⟨by show 2 ≤ sizeLine; decide, [u, u2], .cons ru (.cons ru2 .nil), ⟨_, hT2, rfl, _, rfl⟩⟩
    have I1 : Inv X pins σ (upd H s.heap.objs.size (.tup [x, y])) { s with heap := h'' } :=
      I.turnedNew (t' := s.toks) (ch := [z, TI, TO, i1, i2]) (fun c o hb q => (sb.2 c (fun q' => hb (by simp [q']))).trans (hk c o (fun q' => hb (by simp [q'])) (fun q' => hb (by simp [q'])) (fun q' => hb (by simp [q'])) (fun q' => hb (by simp [q'])) q)) hf (Nat.le_refl _) new
    refine ⟨.ref s.heap.objs.size, _, I1, rfl, ⟨_, x, y, rfl, I.hok.fresh (Nat.le_refl _), rfl, fun l hl => by rw [I.list_inj hl hqx]; exact hx, fun l hl => by rw [I.list_inj hl hqy]; exact hy⟩, ⟨z'', ?_, ⟨u, u2, ?_⟩, ?_, ?_⟩, fun c hcm => ?_⟩
    · exact (sb.2 _ D.TIz).trans (hk _ _ D.TIz D.TITO D.TIi1 D.TIi2 hTI)
    · exact (sb.2 _ D.TOz).trans TO'
    · exact h1'.at fun o q => (sb.2 _ D.i1z).trans q
    · exact h2'.at fun o q => (sb.2 _ D.i2z).trans q
    · have hlt : c < s.heap.objs.size := by
        have e' : c = z ∨ c = TI ∨ c = TO ∨ c = i1 ∨ c = i2 := by simpa using hcm
        rcases e' with q | q | q | q | q
        · rw [q]; exact hzl
        · rw [q]; exact Heap.lt_size hTI
        · rw [q]; exact Heap.lt_size hTO
        · rw [q]; obtain ⟨_, e1, _⟩ := h1; exact Heap.lt_size e1
        · rw [q]; obtain ⟨_, e2, _⟩ := h2; exact Heap.lt_size e2
      rw [upd_ne (Nat.ne_of_lt hlt)]
      exact (hf c hcm).1
  done := by
    intro X hP hw hK hc i pins s σ H E I hf st hg
    subst hP hw hK
    obtain ⟨hz, hTI, ⟨x0, y0, hTO⟩, h1, h2⟩ := st
    obtain ⟨xs, ys, hqx, hqy, hend⟩ := hg
    obtain ⟨its, rv, p, _⟩ := I.list hqx
    obtain ⟨its2, rv2, p2, _⟩ := I.list hqy
    have l1 := rv.length
    have l2 := rv2.length
    have he : its.toArray[i]? = none ∨ its2.toArray[i]? = none := by
      rcases hend with q | q
      · exact .inl (by simp; omega)
      · exact .inr (by simp; omega)
    exact wpAny_pyNext_zip_end (I.ok.hd hc) D hz hTI hTO h1 h2 p.isList p2.isList he fun h' hk => ⟨rfl, I.turnedL (t' := s.toks) (ch := [z, TI, TO, i1, i2]) (fun c o hb q =>
      hk c o (fun q' => hb (by simp [q'])) (fun q' => hb (by simp [q'])) (fun q' => hb (by simp [q'])) (fun q' => hb (by simp [q'])) q) hf⟩
  self := fun A i s Q E st h => wpAny_pyIter_zip st.1 h
def iZip (K : PySem.W.Frag) (ta : TA) : TI := fun σ H R => ta σ H fun vs H1 => ∃ a b xs ys, vs = [.ref a, .ref b] ∧ SqL K H1 a xs ∧ SqL K H1 b ys ∧ R (Itz K a b) H1
theorem pi_zip {X : Cx} {e e2 : Expr} {ta : TA} {p pos tpos : Pos} {elts : List Expr} {kk : Nat} (hg : Gl X "zip") (hm : X.mg "zip" = none) (ha : PA X [e, e2] ta)
    (hs : starEach [e, e2] X.env = (false, eval e X.env) :: starEach [e2] X.env := by rfl) (hpl : (backTo pos (starEach [e2] X.env)).any (·.1) = false := by rfl) :
    PI X (.Tuple elts kk tpos) (.Call (.Name "zip" p) [e, e2] [] pos) (iZip X.K ta) := by
  intro pins s σ H R I h
  refine Call_ (ld_blt I hg hm boot_zip5 (PyProof.Rows.callWith_type1 (thn (ha pos pins s σ H _ I h) fun us s1 ⟨vs, H1, I1, r1, q1⟩ => ?_) hs hpl))
  obtain ⟨a, b, xs, ys, ex, hqx, hqy, q⟩ := q1
  subst ex
  cases r1 with
  | cons r rr =>
    cases rr with
    | cons r' rr =>
      cases rr
      cases r
      cases r'
      obtain ⟨its, rv, p1, _⟩ := I1.list hqx
      obtain ⟨its2, rv2, p2, _⟩ := I1.list hqy
      have la : a < s1.heap.objs.size := p1.lt
      have lb : b < s1.heap.objs.size := p2.lt
      refine call_zip_2 p1.isList p2.isList fun h' hz hTI hTO h1 h2 hsz hk => wpAny_pyIter_zip hz ?_
      have I2 : Inv X pins σ H1 { s1 with heap := h' } := I1.kept (t' := s1.toks) hk
      refine ⟨s1.heap.objs.size + 4, [s1.heap.objs.size + 4, s1.heap.objs.size + 2, s1.heap.objs.size + 3, s1.heap.objs.size, s1.heap.objs.size + 1], _, _, H1, rfl, I2, turn_zip (PySem.W.ktu_apart s1.heap.objs.size a b la lb), ⟨hz, hTI, ⟨_, _, hTO⟩, h1, h2⟩, fun c hcm => ?_, q⟩
      have e' : c = s1.heap.objs.size + 4 ∨ c = s1.heap.objs.size + 2 ∨ c = s1.heap.objs.size + 3 ∨ c = s1.heap.objs.size ∨ c = s1.heap.objs.size + 1 := by simpa using hcm
      have hle : s1.heap.objs.size ≤ c := by
        rcases e' with z | z | z | z | z
        · rw [z]; exact Nat.le_add_right _ _
        · rw [z]; exact Nat.le_add_right _ _
        · rw [z]; exact Nat.le_add_right _ _
        · rw [z]; exact Nat.le_refl _
        · rw [z]; exact Nat.le_add_right _ _
      exact I1.fpOk hle (I1.hok.fresh hle)
end L2

section 
namespace Bits
open PySem PyProof.Rows

end Bits
end 

section 
namespace TL
open PySem PySem.Builtin PySem.Builtin.Str PySem.StrLaws

/-! ### the list functions -/
/-- S stands at the head of l -/
def pre (S l : List Nat) : Bool := l.take S.length == S
/-- what stands before the first S, and behind it -/
def par (S : List Nat) : List Nat → List Nat → Option (List Nat × List Nat)
  | _, [] => none
  | acc, c :: r => if pre S (c :: r) = true then some (acc, (c :: r).drop S.length) else par S (acc ++ [c]) r

/-! ### the model's split and partition are these -/
/-! ### computing spl and par -/
/-! ### digits -/
/-! ### words: x.split() -/
end TL
end 

namespace L2
open PySem PySem.Spec PyProof.Rows

section
variable {X : Cx} {pins : List (Addr × Obj)} {σ : St} {H : Hp} {s : Shared} {Q : VK}
end

section
variable {X : Cx}

/-! ### of a text alone -/
/-! ### of a text and a text -/
end

section
variable {X : Cx} {o e : Expr} {to te : TE}
end
end L2

namespace L2
open PySem PySem.Spec PyProof.Rows

section
variable {X : Cx}
end

/-! ### slices of a text -/
end L2

namespace Att
open PySem PySem.W PySem.Calls PyProof.Rows

/-! ### the script -/
/-! ### the attachment: holds_open's last premise (the goal 'hc' behind k_head) from a wpAny of the law's body -/
/-! ### rules over ANY heap (no ledger) from facts about the written part K: the library's own take a ledger (News) for what they write -/
section
variable {prog : Program} {w : World} {A : Around} {E : Value → Shared → Prop} {s : Shared} {K : Frag}

/-! the whole heap as the ledger: makes every rule that writes through a ledger a rule over any heap -/
end
end Att

namespace L2
open PySem PySem.Spec PyProof.Rows

end L2

namespace L2
open PySem PySem.Spec PyProof.Rows

end L2

/- THE LAST THEOREM (shape; LID, My.* are yours):
   My.Adr: a structure of the addresses that your layer names (classes, functions); My.Txt K t: a structure (Prop) of the equations over K;
   My.txt_mk : {K} {implicit addresses ..} (e1 : nsIn K mainGlobals "law" = some (some (.ref f))) (e2 : K.lookup f = some ⟨oc, od, .func (fnOf "law" "law" params body scope dV kV doc pm an cdv ct), sl⟩) (e3 : codeIn K cdv "law" = true) .. : ∃ t, My.Txt K t

set_option maxRecDepth 100000 in
set_option maxHeartbeats 0 in
theorem PySem.Challenge.cw_LID_holds : PySem.Challenge.rw_LID.Holds := by
  w_on; o_law; k_head; (case hw => w_witness2)
  k_fill
  refine L2.walk_of (l := PySem.Challenge.rw_LID) (n := 63) (k := 40) (x := "script") (CX := fun w => ..) (sp := fun _ => My.sp_law) rfl (by decide) rfl ⟨rfl, by decide, by decide⟩ (fun w h Y => PySem.W.kIn_of Y) ?F ?S ?C
  case F =>
    intro w mg fa h KX G hmg
    have T : ∃ t, My.Txt (L2.KOf KX) t := by
      dsimp only [L2.KOf]                          -- K must stand as «<heap const> w.params» for k_is
      refine' My.txt_mk ?e1 ?e2 ?e3 ..
      (case e1 => PySem.W.k_is)                    -- in the order: a name -> its address -> its object -> its parts
      (case e2 => PySem.W.k_is)
      ..
    obtain ⟨t, T⟩ := T
    have e0 := hmg.symm.trans (PySem.W.mg_of KX G T.law)
    cases e0                                       -- fa is the law's own address
    exact ⟨_, fun s u => .of_eq rfl, fun base kb nb => My.law_fn T kb nb⟩     -- if «.of_eq rfl» comes too early: refine' ⟨_, ?b, fun base kb nb => My.law_fn T kb nb⟩; exact fun s u => .of_eq rfl
  case S => exact fun w H a ns hl hO hS => ..
  case C => exact ..
(the tactic k_is has no namespace: write k_is) -/

/-! SHORT WORDS over the layer: a def of the text, its body, what a loop and a test want. -/
namespace L2
open PySem PySem.Spec PyProof.Rows

/-! ### the text by places -/
/-- the j-th statement of a class's body -/
def inClass (s : Stmt) (j : Nat) : Stmt := match s with
  | .ClassDef _ _ _ body _ _ _ _ _ _ _ => body.getD j (.Pass ⟨0, 0, 0, 0⟩)
  | _ => .Pass ⟨0, 0, 0, 0⟩
def defArgs (s : Stmt) : Arguments := match s with
  | .FunctionDef _ a _ _ _ _ _ _ _ _ => a
  | _ => { posonlyargs := [], args := [], vararg := none, kwonlyargs := [], kw_defaults := [], kwarg := none, defaults := [] }
def defBody (s : Stmt) : List Stmt := match s with
  | .FunctionDef _ _ b _ _ _ _ _ _ _ => b
  | _ => []
def defScope (s : Stmt) : Scope := match s with
  | .FunctionDef _ _ _ _ _ _ sc _ _ _ => sc
  | _ => { kind := .function, names := [], isGenerator := false, isCoroutine := false }

/-! ### no exception leaves a def -/
abbrev CX0 : CXT := fun _ _ _ _ _ _ => False
abbrev E0 : XK := fun _ _ _ => False
theorem pass0 {X : Cx} : Passes CX0 X E0 := fun _ _ _ _ _ _ _ h => h.elim

/-! ### a def (or method) of the text as it stands behind the top -/
structure Fun (K : PySem.W.Frag) (x qual : Str) (st : Stmt) (f : Addr) (fd : FuncData) : Prop where
  ex : ∃ (oc : Value) (od : Option Addr) (kV doc pm : Value) (an : Option Addr) (cdv ct : Value) (osl : Array (Option Value)),
    fd = PySem.W.fnOf x qual (defArgs st) (defBody st) (defScope st) .none kV doc pm an cdv ct ∧ K.lookup f = some ⟨oc, od, .func fd, osl⟩ ∧ PySem.W.codeIn K cdv qual = true
  kp : PySem.W.keepIn K (.ref f) = true
section
variable {P : Program} {w : World} {K : PySem.W.Frag} {mg : Str → Option Value} {base : Heap}
/-- THE RULE for a def: its body as a term of rules, and the reading of that term -/
theorem Fun.ok {x qual : Str} {st : Stmt} {f : Addr} {fd : FuncData} {N ps : List Str} {k : Nat} {sp : Sp} (F : Fun K x qual st f fd) (S : FnScope N ps (defScope st)) (len : ∀ vs H Q E, sp vs H Q E → vs.length = ps.length)
    (hbody : ∀ (cdv : Value) (A : Around) (outer : List Env) (s : Shared) (H : Hp) (vs : List V) (Q : VK) (E : XK), Room k (A.deeper (envOfC qual (defScope st) s.heap.objs.size f cdv)) → sp vs H Q E →
      ∃ t, PSs (cxOf CX0 P w K mg base N qual (defScope st) f cdv A outer s H E).nox (defBody st) t ∧ t { nx := fun _ H' => Q .non H', rt := Q } (start N vs) H) : FnOk P w K mg base CX0 (k + 1) f fd ps sp := by
  obtain ⟨oc, od, kV, doc, pm, an, cdv, ct, osl, rfl, lk, hcd⟩ := F.ex
  refine fn_of lk hcd S len fun A outer s H vs Q E hr hsp => ?_
  obtain ⟨t, h, q⟩ := hbody cdv A outer s H vs Q E hr hsp
  exact ⟨t, h.nox, q⟩
/-- how its arguments bind (no defaults): h is «fun _ _ _ _ _ _ us hl => match us, hl with | [_, _], _ => rfl», one _ a parameter -/
theorem Fun.binds {x qual : Str} {st : Stmt} {f : Addr} {fd : FuncData} {ps : List Str} (F : Fun K x qual st f fd)
    (h : ∀ (kV doc pm : Value) (an : Option Addr) (cdv ct : Value) (us : List Value), us.length = ps.length → bindArgs (PySem.W.fnOf x qual (defArgs st) (defBody st) (defScope st) .none kV doc pm an cdv ct) ⟨us, []⟩ = pure (ps.zip us)) : Binds K fd ps [] := by
  obtain ⟨oc, od, kV, doc, pm, an, cdv, ct, osl, rfl, lk, hcd⟩ := F.ex
  exact .all (h kV doc pm an cdv ct)
theorem fun_mk {x qual : Str} {st : Stmt} {f : Addr} {oc : Value} {od an : Option Addr} {osl : Array (Option Value)} {kV doc pm cdv ct : Value} (l : K.lookup f = some ⟨oc, od, .func (PySem.W.fnOf x qual (defArgs st) (defBody st) (defScope st) .none kV doc pm an cdv ct), osl⟩)
    (c : PySem.W.codeIn K cdv qual = true) (k : PySem.W.keepIn K (.ref f) = true) : Fun K x qual st f (PySem.W.fnOf x qual (defArgs st) (defBody st) (defScope st) .none kV doc pm an cdv ct) := ⟨⟨oc, od, kV, doc, pm, an, cdv, ct, osl, rfl, l, c⟩, k⟩
end
/-! ### expressions in short: the name that stands in the i-th slot -/
section
variable {X : Cx}
theorem pv (i : Nat) {x : Str} {pos : Pos} (hN : X.N[i]? = some x := by rfl) (hv : Vis X.env.scope x := by first | exact Or.inl rfl | exact Or.inr (Or.inl rfl) | exact Or.inr (Or.inr rfl)) (hd : (x == ("__debug__" : Str)) = false := by decide)
    (hcd : (x == ("__classdict__" : Str)) = false := by decide) : PE X (.Name x pos) (tVar i) := pe_var hN hv hd hcd
end

/-! ### tests -/
theorem iteF {A B : Prop} (h : B) : if false = true then A else B := by
  rw [if_neg Bool.false_ne_true]
  exact h
theorem iteT {A B : Prop} (h : A) : if true = true then A else B := by
  rw [if_pos rfl]
  exact h
theorem ite2 {c A B : Prop} [Decidable c] (h1 : c → A) (h2 : ¬ c → B) : if c then A else B := by
  by_cases h : c
  · rw [if_pos h]
    exact h1 h
  · rw [if_neg h]
    exact h2 h
/-! ### heaps -/
/-- all that was tracked is as it was -/
def Same (H H' : Hp) : Prop := ∀ b o, H b = some o → H' b = some o
theorem Same.refl (H : Hp) : Same H H := fun _ _ h => h
theorem Same.trans {H H1 H2 : Hp} (a : Same H H1) (b : Same H1 H2) : Same H H2 := fun c o h => b c o (a c o h)
theorem Same.free {H H' : Hp} (e : Same H H') {l : Addr} (h : H' l = Option.none) : H l = Option.none := by
  cases q : H l with
  | none => rfl
  | some o =>
    rw [e l o q] at h
    cases h
/-! ### a dict's pairs: keys that differ -/
section
variable {κ : Type} [DecidableEq κ]
end
/-! ### lists -/
end L2
section
set_option Elab.async false
set_option linter.all false
set_option maxRecDepth 100000
set_option maxHeartbeats 2000000
namespace L2
open PySem PySem.Spec PyProof.Rows
open PySem.W (WData Codec OpenSpec Well WellAll ReadsW ReadsAllW)
/-! ### an answer as data -/
mutual
/-- x stands for the datum d, lists and tuples all the way -/
inductive Dw (K : PySem.W.Frag) (H : Hp) : V → WData → Prop
  | non : Dw K H .non .none
  | bl (b : Bool) : Dw K H (.bl b) (.bool b)
  | int (i : Int) : Dw K H (.int i) (.int i)
  | str (x : Str) : Dw K H (.str x) (.str x)
  | byt (b : Array UInt8) : Dw K H (.byt b) (.bytes b.toList)
  | lst {a : Addr} {xs : List V} {ds : List WData} : SqL K H a xs → DwAll K H xs ds → Dw K H (.ref a) (.list ds)
  | tup {a : Addr} {xs : List V} {ds : List WData} : SqT K H a xs → DwAll K H xs ds → Dw K H (.ref a) (.tuple ds)
inductive DwAll (K : PySem.W.Frag) (H : Hp) : List V → List WData → Prop
  | nil : DwAll K H [] []
  | cons {v : V} {vs : List V} {d : WData} {ds : List WData} : Dw K H v d → DwAll K H vs ds → DwAll K H (v :: vs) (d :: ds)
end
theorem dw_ints {K : PySem.W.Frag} {H : Hp} : ∀ ns : List Int, DwAll K H (ns.map V.int) (ns.map WData.int)
  | [] => .nil
  | n :: r => .cons (.int n) (dw_ints r)
theorem ints_dw {K : PySem.W.Frag} {H : Hp} : ∀ (ns : List Int) (xs : List V), DwAll K H xs (ns.map WData.int) → xs = ns.map V.int
  | [], xs, h => by
    cases h
    rfl
  | n :: r, xs, h => by
    cases h with
    | cons h1 h2 =>
      cases h1
      rw [ints_dw r _ h2] <;> rfl
section
variable {P : Program} {w : World} {K : PySem.W.Frag} {H : Hp} {h : Heap} {R : PySem.W.WRecords} {cl : Str → Option Addr}
theorem sqL_at {a : Addr} {xs : List V} (hok : HOk P w H h) (KX : K.In h) (q : SqL K H a xs) : ∃ (its : List Value) (o : Obj) (n : Nat), Vals xs its ∧ h.get? a = some o ∧ o.cls = .type "list" ∧ o.data = .seq its.toArray n := by
  rcases q with q | ⟨o, its, n, e, hc, _, hd, _, hv⟩
  · obtain ⟨_, its, n, hv, e⟩ := (show ObjOk P w H h a (.lst xs) from q.ok hok)
    exact ⟨its, _, n, hv, e, rfl, rfl⟩
  · exact ⟨its.toList, o, n, hv, KX _ _ e, hc, by simp [hd]⟩
theorem sqT_at {a : Addr} {xs : List V} (hok : HOk P w H h) (KX : K.In h) (q : SqT K H a xs) : ∃ (its : List Value) (o : Obj) (n : Nat), Vals xs its ∧ h.get? a = some o ∧ o.cls = .type "tuple" ∧ o.data = .seq its.toArray n := by
  rcases q with q | ⟨o, its, n, e, hc, hd, _, hv⟩
  · obtain ⟨_, its, hv, o, e, hc, n, hd⟩ := (show ObjOk P w H h a (.tup xs) from q.ok hok)
    exact ⟨its, o, n, hv, e, hc, hd⟩
  · exact ⟨its.toList, o, n, hv, KX _ _ e, hc, by simp [hd]⟩
mutual
theorem Dw.reads (hok : HOk P w H h) (KX : K.In h) : ∀ (d : WData) (v : V) (u : Value), Dw K H v d → RelV v u → ∃ as, ReadsW R cl h u d as
  | .none, _, _, x, r => by
    cases x
    cases r
    exact ⟨_, ReadsW.none⟩
  | .bool b, _, _, x, r => by
    cases x
    cases r
    exact ⟨_, ReadsW.bool b⟩
  | .int i, _, _, x, r => by
    cases x
    obtain ⟨t, rfl⟩ := r
    exact ⟨_, ReadsW.int i t⟩
  | .str s, _, _, x, r => by
    cases x
    obtain ⟨t, rfl⟩ := r
    exact ⟨_, ReadsW.str s t⟩
  | .bytes b, _, _, x, r => by
    cases x
    obtain ⟨t, rfl⟩ := r
    exact ⟨_, ReadsW.bytes _ t⟩
  | .list ds, _, _, x, r => by
    cases x with
    | lst hs ha =>
      cases r
      obtain ⟨its, o, n, rv, ho, hc, hd⟩ := sqL_at hok KX hs
      obtain ⟨as, hr⟩ := Dw.readsAll hok KX ds _ its ha rv
      exact ⟨_, ReadsW.list ho hc hd hr⟩
  | .tuple ds, _, _, x, r => by
    cases x with
    | tup hs ha =>
      cases r
      obtain ⟨its, o, n, rv, ho, hc, hd⟩ := sqT_at hok KX hs
      obtain ⟨as, hr⟩ := Dw.readsAll hok KX ds _ its ha rv
      exact ⟨_, ReadsW.tuple ho hc hd hr⟩
  | .float _, _, _, x, _ => by cases x
  | .dict _, _, _, x, _ => by cases x
  | .bytearray _, _, _, x, _ => by cases x
  | .set _, _, _, x, _ => by cases x
  | .frozenset _, _, _, x, _ => by cases x
  | .obj _ _, _, _, x, _ => by cases x
theorem Dw.readsAll (hok : HOk P w H h) (KX : K.In h) : ∀ (ds : List WData) (vs : List V) (us : List Value), DwAll K H vs ds → Vals vs us → ∃ as, ReadsAllW R cl h us ds as
  | [], _, _, x, r => by
    cases x
    cases r
    exact ⟨_, ReadsAllW.nil⟩
  | d :: ds, _, _, x, r => by
    cases x with
    | cons h1 h2 =>
      cases r with
      | cons r1 r2 =>
        obtain ⟨as, q1⟩ := Dw.reads hok KX d _ _ h1 r1
        obtain ⟨bs, q2⟩ := Dw.readsAll hok KX ds _ _ h2 r2
        exact ⟨_, ReadsAllW.cons q1 q2⟩
end
end
/-! ### the arguments -/
mutual
/-- data that a codec tells -/
def plW : WData → Bool
  | .none => true
  | .bool _ => true
  | .int _ => true
  | .str _ => true
  | .bytes _ => true
  | .list xs => plWs xs
  | .tuple xs => plWs xs
  | _ => false
def plWs : List WData → Bool
  | [] => true
  | x :: r => plW x && plWs r
end
theorem plWs_map {α : Type} {f : α → WData} (h : ∀ a, plW (f a) = true) : ∀ l : List α, plWs (l.map f) = true
  | [] => rfl
  | x :: r => by
    show (plW (f x) && plWs (r.map f)) = true
    rw [h x, plWs_map h r] <;> rfl
theorem pl_enc : ∀ (c : Codec) (a : c.denote), plW (c.enc a) = true
  | .unit, _ => rfl
  | .bool, _ => rfl
  | .int _ _, _ => rfl
  | .nat _ _, _ => rfl
  | .u8, _ => rfl
  | .bytes _ _, _ => rfl
  | .text _ _ _ _, _ => rfl
  | .list _ _ c, a => plWs_map (fun x => pl_enc c x) a
  | .pair c d, a => by
    show (plW (c.enc a.1) && (plW (d.enc a.2) && true)) = true
    rw [pl_enc c a.1, pl_enc d a.2] <;> rfl
  | .triple c d e, a => by
    show (plW (c.enc a.1) && (plW (d.enc a.2.1) && (plW (e.enc a.2.2) && true))) = true
    rw [pl_enc c a.1, pl_enc d a.2.1, pl_enc e a.2.2] <;> rfl
  | .option c, none => rfl
  | .option c, some x => pl_enc c x
theorem pl_encAll : ∀ (cs : List Codec) (a : Codec.denoteAll cs), plWs (Codec.encAll cs a) = true
  | [], _ => rfl
  | c :: cs, a => by
    show (plW (c.enc a.1) && plWs (Codec.encAll cs a.2)) = true
    rw [pl_enc c a.1, pl_encAll cs a.2] <;> rfl
theorem weight_mem : ∀ {xs : List WData} {d : WData}, d ∈ xs → d.weight ≤ WData.weightAll xs
  | [], d, h => absurd h (by simp)
  | x :: r, d, h => by
    show d.weight ≤ x.weight + 1 + WData.weightAll r
    rcases List.mem_cons.mp h with e | m
    · rw [e]
      omega
    · have z := weight_mem m
      omega
def toV : Value → V
  | .none => .non
  | .bool b => .bl b
  | .int i _ => .int i
  | .str x _ => .str x
  | .bytes b _ => .byt b
  | .ref a => .ref a
  | _ => .non
/-- a value of the arguments, its objects among A -/
def OkU (A : List Addr) : Value → Prop
  | .none => True
  | .bool _ => True
  | .int _ _ => True
  | .str _ _ => True
  | .bytes _ _ => True
  | .ref a => a ∈ A
  | _ => False
theorem OkU.mono {A B : List Addr} (h : ∀ a ∈ A, a ∈ B) : ∀ {u : Value}, OkU A u → OkU B u := fun {u} x => by
  cases u with
  | ref a => exact h a x
  | none => trivial
  | bool b => trivial
  | int i t => trivial
  | str s t => trivial
  | bytes b t => trivial
  | _ => exact False.elim x
theorem relV_toV {A : List Addr} {u : Value} (x : OkU A u) : RelV (toV u) u := by
  cases u with
  | ref a => rfl
  | none => rfl
  | bool b => rfl
  | int i t => exact ⟨t, rfl⟩
  | str s t => exact ⟨t, rfl⟩
  | bytes b t => exact ⟨t, rfl⟩
  | _ => exact False.elim x
theorem vals_toV {A : List Addr} : ∀ {vs : List Value}, (∀ u ∈ vs, OkU A u) → Vals (vs.map toV) vs
  | [], _ => .nil
  | u :: r, h => .cons (relV_toV (h u (List.mem_cons_self ..))) (vals_toV fun x hx => h x (List.mem_cons_of_mem _ hx))
/-- an object of the arguments -/
def ArgOb (h : Heap) (A : List Addr) (a : Addr) : Prop := ∃ vs : List Value, vs.length ≤ sizeLine ∧ (∀ u ∈ vs, OkU A u) ∧
  (h.get? a = some { cls := .type "list", data := .seq vs.toArray } ∨ h.get? a = some { cls := .type "tuple", data := .seq vs.toArray })
theorem ArgOb.mono {h : Heap} {A B : List Addr} {a : Addr} (k : ∀ a ∈ A, a ∈ B) (x : ArgOb h A a) : ArgOb h B a := by
  obtain ⟨vs, h1, h2, h3⟩ := x
  exact ⟨vs, h1, fun u hu => (h2 u hu).mono k, h3⟩
theorem wellAll_len {P : Params} {h : Heap} : ∀ {vs : List Value} {ds : List WData}, WellAll P h vs ds → vs.length = ds.length
  | _, _, .nil => rfl
  | _, _, .cons _ b => by
    show _ + 1 = _ + 1
    rw [wellAll_len b]
theorem well_list {P : Params} {h : Heap} {v : Value} {ds : List WData} (x : Well P h v (.list ds)) : ∃ (a : Addr) (vs : List Value), v = .ref a ∧ h.get? a = some { cls := .type "list", data := .seq vs.toArray } ∧ WellAll P h vs ds := by
  cases x with
  | list ho hall => exact ⟨_, _, rfl, ho, hall⟩
theorem well_tuple {P : Params} {h : Heap} {v : Value} {ds : List WData} (x : Well P h v (.tuple ds)) : ∃ (a : Addr) (vs : List Value), v = .ref a ∧ h.get? a = some { cls := .type "tuple", data := .seq vs.toArray } ∧ WellAll P h vs ds := by
  cases x with
  | tuple ho hall => exact ⟨_, _, rfl, ho, hall⟩
theorem well_cons {P : Params} {h : Heap} {us : List Value} {d : WData} {ds : List WData} (x : WellAll P h us (d :: ds)) : ∃ (v : Value) (vs : List Value), us = v :: vs ∧ Well P h v d ∧ WellAll P h vs ds := by
  cases x with
  | cons a b => exact ⟨_, _, rfl, a, b⟩
theorem line_of {n : Nat} (h : n ≤ 1048576) : n ≤ sizeLine := Nat.le_trans h (by decide)
section
variable {P : Params} {h : Heap}
mutual
theorem area_one : ∀ (d : WData) (v : Value), Well P h v d → plW d = true → d.weight ≤ 1048576 → ∃ A : List Addr, OkU A v ∧ ∀ a ∈ A, ArgOb h A a
  | .none, _, x, _, _ => by
    cases x
    exact ⟨[], trivial, fun a m => absurd m (by simp)⟩
  | .bool b, _, x, _, _ => by
    cases x
    exact ⟨[], trivial, fun a m => absurd m (by simp)⟩
  | .int i, _, x, _, _ => by
    cases x
    exact ⟨[], trivial, fun a m => absurd m (by simp)⟩
  | .str s, _, x, _, _ => by
    cases x
    exact ⟨[], trivial, fun a m => absurd m (by simp)⟩
  | .bytes b, _, x, _, _ => by
    cases x
    exact ⟨[], trivial, fun a m => absurd m (by simp)⟩
  | .list ds, _, x, p, z => by
    obtain ⟨a, vs, rfl, ho, hall⟩ := well_list x
    have z2 : WData.weightAll ds ≤ 1048576 := z
    obtain ⟨A, h1, h2⟩ := area_all ds _ hall p fun d hd => Nat.le_trans (weight_mem hd) z2
    have k : ∀ b ∈ A, b ∈ a :: A := fun b hb => List.mem_cons_of_mem _ hb
    refine ⟨a :: A, List.mem_cons_self .., fun b hb => ?_⟩
    rcases List.mem_cons.mp hb with e | m
    · rw [e]
      exact ⟨vs, line_of (by rw [wellAll_len hall]; exact Nat.le_trans (PySem.W.length_le_weightAllW ds) z2), fun u hu => (h1 u hu).mono k, .inl ho⟩
    · exact (h2 b m).mono k
  | .tuple ds, _, x, p, z => by
    obtain ⟨a, vs, rfl, ho, hall⟩ := well_tuple x
    have z2 : WData.weightAll ds ≤ 1048576 := z
    obtain ⟨A, h1, h2⟩ := area_all ds _ hall p fun d hd => Nat.le_trans (weight_mem hd) z2
    have k : ∀ b ∈ A, b ∈ a :: A := fun b hb => List.mem_cons_of_mem _ hb
    refine ⟨a :: A, List.mem_cons_self .., fun b hb => ?_⟩
    rcases List.mem_cons.mp hb with e | m
    · rw [e]
      exact ⟨vs, line_of (by rw [wellAll_len hall]; exact Nat.le_trans (PySem.W.length_le_weightAllW ds) z2), fun u hu => (h1 u hu).mono k, .inr ho⟩
    · exact (h2 b m).mono k
  | .float _, _, _, p, _ => Bool.noConfusion (show false = true from p)
  | .dict _, _, _, p, _ => Bool.noConfusion (show false = true from p)
  | .bytearray _, _, _, p, _ => Bool.noConfusion (show false = true from p)
  | .set _, _, _, p, _ => Bool.noConfusion (show false = true from p)
  | .frozenset _, _, _, p, _ => Bool.noConfusion (show false = true from p)
  | .obj _ _, _, _, p, _ => Bool.noConfusion (show false = true from p)
theorem area_all : ∀ (ds : List WData) (vs : List Value), WellAll P h vs ds → plWs ds = true → (∀ d ∈ ds, d.weight ≤ 1048576) → ∃ A : List Addr, (∀ u ∈ vs, OkU A u) ∧ ∀ a ∈ A, ArgOb h A a
  | [], _, x, _, _ => by
    cases x
    exact ⟨[], fun u m => absurd m (by simp), fun a m => absurd m (by simp)⟩
  | d :: ds, _, x, p, z => by
    obtain ⟨v, vs, rfl, x1, x2⟩ := well_cons x
    have q : plW d = true ∧ plWs ds = true := Bool.and_eq_true_iff.mp p
    obtain ⟨A, a1, a2⟩ := area_one d v x1 q.1 (z d (List.mem_cons_self ..))
    obtain ⟨B, b1, b2⟩ := area_all ds vs x2 q.2 fun e he => z e (List.mem_cons_of_mem _ he)
    have kA : ∀ b ∈ A, b ∈ A ++ B := fun b hb => List.mem_append.mpr (.inl hb)
    have kB : ∀ b ∈ B, b ∈ A ++ B := fun b hb => List.mem_append.mpr (.inr hb)
    refine ⟨A ++ B, fun u hu => ?_, fun b hb => ?_⟩
    · rcases List.mem_cons.mp hu with e | m
      · rw [e]
        exact a1.mono kA
      · exact (b1 u m).mono kB
    · rcases List.mem_append.mp hb with m | m
      · exact (a2 b m).mono kA
      · exact (b2 b m).mono kB
end
end
/-- what is tracked of an argument's object -/
def hoOf (o : Obj) : Option HO := match o.data with
  | .seq vs _ => if (o.cls == Value.type "list") = true then some (.frz o (.lst (vs.toList.map toV))) else some (.frz o (.tup (vs.toList.map toV)))
  | _ => none
def argH (K : PySem.W.Frag) (h : Heap) (A : List Addr) : Hp := fun b => if b ∈ A then (if (K.lookup b).isNone = true then (h.get? b).bind hoOf else none) else none
/-- nothing is tracked but what is known to the object -/
def OnlyF (H : Hp) : Prop := ∀ b, H b = none ∨ ∃ o u, H b = some (.frz o u)
theorem hoOf_lst (vs : List Value) : hoOf { cls := .type "list", data := .seq vs.toArray } = some (.frz { cls := .type "list", data := .seq vs.toArray } (.lst (vs.map toV))) := by
  show (if (Value.type "list" == Value.type "list") = true then some (HO.frz { cls := .type "list", data := .seq vs.toArray } (.lst (vs.toArray.toList.map toV))) else some (HO.frz { cls := .type "list", data := .seq vs.toArray } (.tup (vs.toArray.toList.map toV)))) = _
  rw [if_pos (beq_self_eq_true _)]
theorem hoOf_tup (vs : List Value) : hoOf { cls := .type "tuple", data := .seq vs.toArray } = some (.frz { cls := .type "tuple", data := .seq vs.toArray } (.tup (vs.map toV))) := by
  show (if (Value.type "tuple" == Value.type "list") = true then some (HO.frz { cls := .type "tuple", data := .seq vs.toArray } (.lst (vs.toArray.toList.map toV))) else some (HO.frz { cls := .type "tuple", data := .seq vs.toArray } (.tup (vs.toArray.toList.map toV)))) = _
  rw [if_neg (by decide)]
section
variable {P : Program} {w : World} {K : PySem.W.Frag} {h : Heap} {A : List Addr}
theorem argH_at {b : Addr} {o : Obj} (hb : b ∈ A) (hk : K.lookup b = none) (e : h.get? b = some o) : argH K h A b = hoOf o := by
  unfold argH
  rw [if_pos hb, hk, if_pos (show (none : Option Obj).isNone = true from rfl), e] <;> rfl
theorem of_argH {b : Addr} {u : HO} (q : argH K h A b = some u) : b ∈ A ∧ K.lookup b = none := by
  unfold argH at q
  by_cases hb : b ∈ A
  · rw [if_pos hb] at q
    cases hk : K.lookup b with
    | none => exact ⟨hb, rfl⟩
    | some o =>
      rw [hk, if_neg (by simp)] at q
      cases q
  · rw [if_neg hb] at q
    cases q
/-- what stands tracked -/
theorem argH_is (ar : ∀ a ∈ A, ArgOb h A a) {b : Addr} {u : HO} (q : argH K h A b = some u) : K.lookup b = none ∧ ∃ vs : List Value, vs.length ≤ sizeLine ∧ (∀ u ∈ vs, OkU A u) ∧
    ((h.get? b = some { cls := .type "list", data := .seq vs.toArray } ∧ u = .frz { cls := .type "list", data := .seq vs.toArray } (.lst (vs.map toV))) ∨
     (h.get? b = some { cls := .type "tuple", data := .seq vs.toArray } ∧ u = .frz { cls := .type "tuple", data := .seq vs.toArray } (.tup (vs.map toV)))) := by
  obtain ⟨hb, hk⟩ := of_argH q
  obtain ⟨vs, h1, h2, h3⟩ := ar b hb
  refine ⟨hk, vs, h1, h2, ?_⟩
  rcases h3 with e | e
  · rw [argH_at hb hk e, hoOf_lst] at q
    exact .inl ⟨e, (Option.some.inj q).symm⟩
  · rw [argH_at hb hk e, hoOf_tup] at q
    exact .inr ⟨e, (Option.some.inj q).symm⟩
theorem argH_only (ar : ∀ a ∈ A, ArgOb h A a) : OnlyF (argH K h A) := fun b => by
  cases q : argH K h A b with
  | none => exact .inl rfl
  | some u =>
    obtain ⟨_, vs, _, _, ⟨_, e⟩ | ⟨_, e⟩⟩ := argH_is ar q
    · exact .inr ⟨_, _, by rw [e]⟩
    · exact .inr ⟨_, _, by rw [e]⟩
theorem argH_ok (ar : ∀ a ∈ A, ArgOb h A a) : HOk P w (argH K h A) h := fun b u q => by
  obtain ⟨_, vs, h1, h2, ⟨e, rfl⟩ | ⟨e, rfl⟩⟩ := argH_is ar q
  · exact ⟨e, by rw [List.length_map]; exact h1, vs, _, vals_toV h2, e⟩
  · exact ⟨e, by rw [List.length_map]; exact h1, vs, vals_toV h2, _, e, rfl, _, rfl⟩
theorem seq_inj {c c' : Value} {vs us : List Value} (e : (some { cls := c, data := .seq vs.toArray } : Option Obj) = some { cls := c', data := .seq us.toArray }) : c = c' ∧ vs = us := by
  have e1 := Option.some.inj e
  have e2 : c = c' := congrArg Obj.cls e1
  have e3 : Data.seq vs.toArray = Data.seq us.toArray := congrArg Obj.data e1
  injection e3 with e4
  refine ⟨e2, ?_⟩
  have e5 := congrArg Array.toList e4
  simpa using e5
/-- a list argument -/
theorem argL (KX : K.In h) (ar : ∀ a ∈ A, ArgOb h A a) {a : Addr} {vs : List Value} (ha : a ∈ A) (e : h.get? a = some { cls := .type "list", data := .seq vs.toArray }) : (∀ u ∈ vs, OkU A u) ∧ SqL K (argH K h A) a (vs.map toV) := by
  obtain ⟨us, h1, h2, h3⟩ := ar a ha
  have hu : us = vs := by
    rcases h3 with q | q
    · rw [e] at q
      exact (seq_inj q).2.symm
    · rw [e] at q
      exact absurd (Value.type.inj (seq_inj q).1) (by decide)
  subst hu
  refine ⟨h2, ?_⟩
  cases hk : K.lookup a with
  | none => exact .inl (.inr ⟨_, by rw [argH_at ha hk e, hoOf_lst]⟩)
  | some o =>
    have e2 := KX a o hk
    rw [e] at e2
    obtain rfl := Option.some.inj e2
    exact .inr ⟨_, us.toArray, _, hk, rfl, rfl, rfl, by rw [List.size_toArray]; exact h1, by simpa using vals_toV h2⟩
theorem argT (KX : K.In h) (ar : ∀ a ∈ A, ArgOb h A a) {a : Addr} {vs : List Value} (ha : a ∈ A) (e : h.get? a = some { cls := .type "tuple", data := .seq vs.toArray }) : (∀ u ∈ vs, OkU A u) ∧ SqT K (argH K h A) a (vs.map toV) := by
  obtain ⟨us, h1, h2, h3⟩ := ar a ha
  have hu : us = vs := by
    rcases h3 with q | q
    · rw [e] at q
      exact absurd (Value.type.inj (seq_inj q).1) (by decide)
    · rw [e] at q
      exact (seq_inj q).2.symm
  subst hu
  refine ⟨h2, ?_⟩
  cases hk : K.lookup a with
  | none => exact .inl (.inr ⟨_, by rw [argH_at ha hk e, hoOf_tup]⟩)
  | some o =>
    have e2 := KX a o hk
    rw [e] at e2
    obtain rfl := Option.some.inj e2
    exact .inr ⟨_, us.toArray, _, hk, rfl, rfl, by rw [List.size_toArray]; exact h1, by simpa using vals_toV h2⟩
mutual
theorem dw_one {Pm : Params} (KX : K.In h) (ar : ∀ a ∈ A, ArgOb h A a) : ∀ (d : WData) (v : Value), Well Pm h v d → plW d = true → OkU A v → Dw K (argH K h A) (toV v) d
  | .none, _, x, _, _ => by
    cases x
    exact .non
  | .bool b, _, x, _, _ => by
    cases x
    exact .bl b
  | .int i, _, x, _, _ => by
    cases x
    exact .int i
  | .str s, _, x, _, _ => by
    cases x
    exact .str s
  | .bytes b, _, x, _, _ => by
    cases x
    have z := Dw.byt (K := K) (H := argH K h A) b.toArray
    exact z
  | .list ds, _, x, p, hu => by
    obtain ⟨a, vs, rfl, ho, hall⟩ := well_list x
    obtain ⟨h2, hs⟩ := argL KX ar hu ho
    exact .lst hs (dw_all KX ar ds _ hall p h2)
  | .tuple ds, _, x, p, hu => by
    obtain ⟨a, vs, rfl, ho, hall⟩ := well_tuple x
    obtain ⟨h2, hs⟩ := argT KX ar hu ho
    exact .tup hs (dw_all KX ar ds _ hall p h2)
  | .float _, _, _, p, _ => Bool.noConfusion (show false = true from p)
  | .dict _, _, _, p, _ => Bool.noConfusion (show false = true from p)
  | .bytearray _, _, _, p, _ => Bool.noConfusion (show false = true from p)
  | .set _, _, _, p, _ => Bool.noConfusion (show false = true from p)
  | .frozenset _, _, _, p, _ => Bool.noConfusion (show false = true from p)
  | .obj _ _, _, _, p, _ => Bool.noConfusion (show false = true from p)
theorem dw_all {Pm : Params} (KX : K.In h) (ar : ∀ a ∈ A, ArgOb h A a) : ∀ (ds : List WData) (vs : List Value), WellAll Pm h vs ds → plWs ds = true → (∀ u ∈ vs, OkU A u) → DwAll K (argH K h A) (vs.map toV) ds
  | [], _, x, _, _ => by
    cases x
    exact .nil
  | d :: ds, _, x, p, hu => by
    obtain ⟨v, vs, rfl, x1, x2⟩ := well_cons x
    have q : plW d = true ∧ plWs ds = true := Bool.and_eq_true_iff.mp p
    exact .cons (dw_one KX ar d v x1 q.1 (hu _ (List.mem_cons_self ..))) (dw_all KX ar ds vs x2 q.2 fun u m => hu u (List.mem_cons_of_mem _ m))
end
end
/-! ### the call -/
theorem spec_call {P : Program} {w : World} {K : PySem.W.Frag} {mg mb : Str → Option Value} {CX : CXT} {k : Nat} {fa : Addr} {fd : FuncData} {ps : List Str} {sp : Sp} {s₁ : Shared} {vals : List Value} {ds : List WData} {R : PySem.W.WRecords} {cl : Str → Option Addr} {d0 : WData}
    (KX : K.In s₁.heap) (hns : s₁.heap.Ns mainGlobals mg) (hb : s₁.heap.Ns builtinsNs mb) (hbb : ∀ x : Str, x ≠ "__name__" → mb x = bootBuiltins x) (hlim : s₁.heap.NoLimit) (hg : s₁.gens = #[])
    (hwl : WellAll w.params s₁.heap vals ds) (hpl : plWs ds = true) (hwt : ∀ d ∈ ds, d.weight ≤ 1048576) (hr : Room k callerA)
    (F : ∀ base : Heap, K.In base → base.Ns mainGlobals mg → FnOk P w K mg base CX k fa fd ps sp) (hbind : ∀ (s : Shared) (us : List Value), us.length = ps.length → BindsTo s fd ⟨us, []⟩ (ps.zip us)) (hlen : ds.length = ps.length)
    (hsp : ∀ (H : Hp) (xs : List V), OnlyF H → DwAll K H xs ds → sp xs H (fun v H' => Dw K H' v d0) fun _ _ _ => False)
    (hCX : ∀ H e s', CX [] H s₁ (fun _ _ _ => False) e s' → False) :
    codeAny (model P w) callerA (.call (.ref fa) ⟨vals, []⟩) (fun r s' => ∃ u as, r = .ok (.ret u) ∧ ReadsW R cl s'.heap u d0 as ∧ OldK s₁.heap s'.heap ∧ s'.os = s₁.os ∧ AllBare s'.gens) s₁ := by
  obtain ⟨A, ho, ar⟩ := area_all ds vals hwl hpl hwt
  have hO : OnlyF (argH K s₁.heap A) := argH_only ar
  have hok : HOk P w (argH K s₁.heap A) s₁.heap := argH_ok ar
  have hS := dw_all KX ar ds vals hwl hpl ho
  have hV := vals_toV ho
  have hK : ∀ b u, argH K s₁.heap A b = some u → K.lookup b = none := fun b u q => (argH_is ar q).1
  have noA : ∀ {b : Addr} {o : Obj} {es : Array DictEntry} {ep : Nat}, s₁.heap.get? b = some o → o.data = .dict es ep → argH K s₁.heap A b = none := fun {b o es ep} e d => by
    cases q : argH K s₁.heap A b with
    | none => rfl
    | some u =>
      obtain ⟨_, vs, _, _, ⟨e2, _⟩ | ⟨e2, _⟩⟩ := argH_is ar q
      · rw [e2] at e
        cases e
        have d' : Data.seq vs.toArray _ = Data.dict es ep := d
        cases d'
      · rw [e2] at e
        cases e
        have d' : Data.seq vs.toArray _ = Data.dict es ep := d
        cases d'
  generalize argH K s₁.heap A = H at hO hok hS hK noA
  have base_of : ∀ {b : Addr} {o : Obj}, s₁.heap.get? b = some o → H b = none → (hidT s₁.heap H).get? b = some o := fun e n => hidT_get e n
  have nsK : ∀ {b : Addr} {m : Str → Option Value}, s₁.heap.Ns b m → (hidT s₁.heap H).Ns b m := fun {b m} ⟨o, es, ep, e, d, r⟩ => ⟨o, es, ep, base_of e (noA e d), d, r⟩
  have nK : ∀ b o, K.lookup b = some o → H b = none := fun b o e => by
    cases q : H b with
    | none => rfl
    | some u =>
      rw [hK b u q] at e
      cases e
  have hKb : K.In (hidT s₁.heap H) := fun b o e => base_of (KX b o e) (nK b o e)
  have hM : Mod K mg (hidT s₁.heap H) := ⟨hKb, nsK hns, ⟨mb, nsK hb, hbb⟩, let ⟨mc, h1, h2⟩ := hlim; ⟨mc, nsK h1, h2⟩⟩
  have e0 : Env0 P w K mg (hidT s₁.heap H) callerA [] s₁ H := ⟨rfl, hM, fun b o e => of_hidT e, Nat.le_of_eq (hidT_size _ _), trivial, fun b hb => absurd (show b ∈ ([] : List Addr) from hb) (by simp), hok, .of_eq hg⟩
  have hl : vals.length = ps.length := by rw [wellAll_len hwl]; exact hlen
  refine codeAny_mono ((F _ hKb (nsK hns)).run callerA [] s₁ H ⟨vals, []⟩ vals (vals.map toV) _ _ hr e0 (hbind s₁ vals hl) hV (hsp H _ hO hS)) fun r s' x => ?_
  cases r with
  | error e => exact (hCX H e s' x).elim
  | ok fl =>
    cases fl with
    | next => exact False.elim x
    | brk => exact False.elim x
    | cont => exact False.elim x
    | ret u =>
      obtain ⟨v, H', os, bare, un, hok', r', q⟩ := x
      have kept : ∀ b o, s₁.heap.get? b = some o → s'.heap.get? b = some o := fun b o e => by
        cases q2 : H b with
        | none => exact un.keep b o e q2 (by intro z; exact absurd (show b ∈ ([] : List Addr) from z) (by simp)) (by simp)
        | some u2 =>
          rcases hO b with z | ⟨ob, u3, z⟩
          · rw [q2] at z
            cases z
          · have z2 := un.frzs b ob _ z
            obtain ⟨e1, _⟩ := hok b _ z
            obtain ⟨e2, _⟩ := hok' b _ z2
            rw [e] at e1
            cases e1
            exact e2
      have KX' : K.In s'.heap := fun b o e => kept b o (KX b o e)
      obtain ⟨as, hrd⟩ := Dw.reads (R := R) (cl := cl) hok' KX' d0 v u q r'
      exact ⟨u, as, rfl, hrd, OldK.of_keep kept, os, bare⟩
/-! ### the row -/
theorem layable_weight {ds : List WData} (h : WData.layableAll ds = true) : ∀ d ∈ ds, d.weight ≤ 1048576 := fun d hd =>
  (PySem.W.layableW_iff.mp (List.all_eq_true.mp h d hd)).2.2
theorem encAll_len : ∀ (cs : List Codec) (a : Codec.denoteAll cs), (Codec.encAll cs a).length = cs.length
  | [], _ => rfl
  | c :: cs, a => by
    show (Codec.encAll cs a.2).length + 1 = cs.length + 1
    rw [encAll_len cs a.2]
/-- the goal that k_headS leaves (case hc), from the promise of the row's def: whatever the arguments that the codecs let and the row asks for, the def gives what stands for enc (f ..) -/
theorem walk_spec {r : OpenSpec} {k : Nat} {q : Program} {loose : List Str} {XP : (Str → Option Value) → Heap → Prop} {YP : World → Heap → Prop} {d : DefRec} {K : Params → PySem.W.Frag} {CX : World → CXT} {ps : List Str} {sp : World → Sp}
    (hwell : r.wellSaid = true) (hdf : d.params.defaults = []) (hlen : r.args.length = ps.length) (hr : Room k callerA)
    (hY : ∀ (w : World) (h : Heap), YP w h → (K w.params).In h)
    (F : ∀ (w : World) (mg : Str → Option Value) (fa : Addr) (h : Heap), YP w h → (K w.params).In h → h.Ns mainGlobals mg → mg d.name = some (.ref fa) →
      ∃ fd : FuncData, (∀ (s : Shared) (us : List Value), us.length = ps.length → BindsTo s fd ⟨us, []⟩ (ps.zip us)) ∧
        ∀ base : Heap, (K w.params).In base → base.Ns mainGlobals mg → FnOk r.prog w (K w.params) mg base (CX w) k fa fd ps (sp w))
    (hsp : ∀ (w : World) (H : Hp) (xs : List V) (a : Codec.denoteAll r.args), OnlyF H → Codec.withinAll r.args a = true → Codec.app r.args r.asked a = true → DwAll (K w.params) H xs (Codec.encAll r.args a) →
      sp w xs H (fun v H' => Dw (K w.params) H' v (r.ret.enc (Codec.app r.args r.f a))) fun _ _ _ => False)
    (hCX : ∀ (w : World) (H : Hp) (s : Shared) (e : Value) (s' : Shared), CX w [] H s (fun _ _ _ => False) e s' → False) :
    PySem.W.WalkOS q loose XP YP r d [] (fun f vs => PySem.call f vs) := by
  intro w s_0 s₁ mg mb G Y fa o pm cd doc dV kV ho hd hcd hD hmg hg args vals as hpre hlay hrd hwl hlo
  obtain ⟨a, e1, e2⟩ := PySem.W.os_pre_some hpre
  obtain ⟨e3, hwi⟩ := Codec.encAll_of_decAll r.args args a e1
  subst e3
  have KX := hY w _ Y
  obtain ⟨fd, hb, hF⟩ := F w mg fa _ Y KX G.T.g hmg
  refine PySem.W.enter_call (codeAny_mono (spec_call (R := []) (cl := classAt s_0.heap) (d0 := r.ret.enc (Codec.app r.args r.f a)) KX G.T.g G.T.b G.T.builtins G.T.nolimit hg hwl (pl_encAll _ _) (layable_weight hlay) hr hF hb (by rw [encAll_len]; exact hlen)
    (fun H xs hO hS => hsp w H xs a hO hwi e2 hS) fun H e s' => hCX w H s₁ e s') fun r' s' hq => ?_)
  obtain ⟨u, as', rfl, h1, h2, h3, h4⟩ := hq
  exact ⟨.inl ⟨u, _, as', rfl, fun _ => rfl, h1, (OpenSpec.post_iff hwell hwi _ _).mpr rfl, fun z => Bool.noConfusion (show false = true from z)⟩, h2, h3, h4⟩
/-- the same where the promise hangs on the written part alone -/
theorem walk_specK {r : OpenSpec} {k : Nat} {q : Program} {loose : List Str} {XP : (Str → Option Value) → Heap → Prop} {YP : World → Heap → Prop} {d : DefRec} {K : Params → PySem.W.Frag} {CX : CXT} {ps : List Str} {sp : PySem.W.Frag → Sp}
    (hwell : r.wellSaid = true) (hdf : d.params.defaults = []) (hlen : r.args.length = ps.length) (hr : Room k callerA)
    (hY : ∀ (w : World) (h : Heap), YP w h → (K w.params).In h)
    (F : ∀ (w : World) (mg : Str → Option Value) (fa : Addr) (h : Heap), YP w h → (K w.params).In h → h.Ns mainGlobals mg → mg d.name = some (.ref fa) →
      ∃ fd : FuncData, (∀ (s : Shared) (us : List Value), us.length = ps.length → BindsTo s fd ⟨us, []⟩ (ps.zip us)) ∧
        ∀ base : Heap, (K w.params).In base → base.Ns mainGlobals mg → FnOk r.prog w (K w.params) mg base CX k fa fd ps (sp (K w.params)))
    (hsp : ∀ (K : PySem.W.Frag) (H : Hp) (xs : List V) (a : Codec.denoteAll r.args), OnlyF H → Codec.withinAll r.args a = true → Codec.app r.args r.asked a = true → DwAll K H xs (Codec.encAll r.args a) →
      sp K xs H (fun v H' => Dw K H' v (r.ret.enc (Codec.app r.args r.f a))) fun _ _ _ => False)
    (hCX : ∀ (H : Hp) (s : Shared) (e : Value) (s' : Shared), CX [] H s (fun _ _ _ => False) e s' → False) :
    PySem.W.WalkOS q loose XP YP r d [] (fun f vs => PySem.call f vs) :=
  walk_spec (K := K) (CX := fun _ => CX) (sp := fun w => sp (K w.params)) hwell hdf hlen hr hY F (fun w H xs a h1 h2 h3 h4 => hsp (K w.params) H xs a h1 h2 h3 h4) fun _ H s e s' => hCX H s e s'
end L2
end
set_option Elab.async false
namespace My
open Ks319 (Point)
/-- how far a coordinate goes, as the program reckons it -/
abbrev absI (i : Int) : Int := if i < 0 then -i else i
theorem absI_far (a b : Nat) : absI ((b : Int) - (a : Int)) = (Ks319.far a b : Nat) := by
  unfold absI Ks319.far
  rw [Nat.max_def, Nat.min_def]
  split <;> split <;> omega
theorem reachI (p q : Point) : (if absI ((q.2 : Int) - (p.2 : Int)) > absI ((q.1 : Int) - (p.1 : Int)) then absI ((q.2 : Int) - (p.2 : Int)) else absI ((q.1 : Int) - (p.1 : Int))) = (Ks319.reach p q : Nat) := by
  rw [absI_far, absI_far]
  unfold Ks319.reach
  rw [Nat.max_def]
  split <;> split <;> omega
/-! ### greatest and least of a list -/
theorem foldl_max_mem : ∀ (l : List Nat) (a : Nat), (l.foldl max a = a ∨ l.foldl max a ∈ l) ∧ a ≤ l.foldl max a ∧ ∀ y ∈ l, y ≤ l.foldl max a
  | [], a => ⟨.inl rfl, Nat.le_refl _, fun _ h => by cases h⟩
  | x :: l, a => by
    obtain ⟨h1, h2, h3⟩ := foldl_max_mem l (max a x)
    rw [List.foldl_cons]
    refine ⟨?_, Nat.le_trans (Nat.le_max_left a x) h2, fun y hy => ?_⟩
    · rcases h1 with h1 | h1
      · rw [h1, Nat.max_def]
        split
        · exact .inr (List.mem_cons_self ..)
        · exact .inl rfl
      · exact .inr (List.mem_cons_of_mem _ h1)
    · rcases List.mem_cons.mp hy with rfl | hy
      · exact Nat.le_trans (Nat.le_max_right a y) h2
      · exact h3 y hy
theorem foldl_min_mem : ∀ (l : List Nat) (a : Nat), (l.foldl min a = a ∨ l.foldl min a ∈ l) ∧ l.foldl min a ≤ a ∧ ∀ y ∈ l, l.foldl min a ≤ y
  | [], a => ⟨.inl rfl, Nat.le_refl _, fun _ h => by cases h⟩
  | x :: l, a => by
    obtain ⟨h1, h2, h3⟩ := foldl_min_mem l (min a x)
    rw [List.foldl_cons]
    refine ⟨?_, Nat.le_trans h2 (Nat.min_le_left a x), fun y hy => ?_⟩
    · rcases h1 with h1 | h1
      · rw [h1, Nat.min_def]
        split
        · exact .inl rfl
        · exact .inr (List.mem_cons_self ..)
      · exact .inr (List.mem_cons_of_mem _ h1)
    · rcases List.mem_cons.mp hy with rfl | hy
      · exact Nat.le_trans h2 (Nat.min_le_right a y)
      · exact h3 y hy
theorem mem_ints {l : List Nat} {m : Int} (h : m ∈ l.map (fun (n : Nat) => (n : Int))) : ∃ n, n ∈ l ∧ m = (n : Int) := by
  obtain ⟨n, h1, h2⟩ := List.mem_map.mp h
  exact ⟨n, h1, h2.symm⟩
theorem max_is {l : List Nat} {m : Int} (h1 : m ∈ l.map (fun (n : Nat) => (n : Int))) (h2 : ∀ y, y ∈ l.map (fun (n : Nat) => (n : Int)) → y ≤ m) : m = ((l.foldl max 0 : Nat) : Int) := by
  obtain ⟨n, hn, rfl⟩ := mem_ints h1
  obtain ⟨a, _, c⟩ := foldl_max_mem l 0
  have hle : n ≤ l.foldl max 0 := c n hn
  rcases a with a | a
  · omega
  · have := h2 _ (List.mem_map.mpr ⟨_, a, rfl⟩)
    omega
theorem min_is {l : List Nat} {m : Int} (h1 : m ∈ l.map (fun (n : Nat) => (n : Int))) (h2 : ∀ y, y ∈ l.map (fun (n : Nat) => (n : Int)) → m ≤ y) : m = ((Ks319.least l : Nat) : Int) := by
  obtain ⟨n, hn, rfl⟩ := mem_ints h1
  cases l with
  | nil => cases hn
  | cons x r =>
    show ((n : Nat) : Int) = ((r.foldl min x : Nat) : Int)
    obtain ⟨a, b, c⟩ := foldl_min_mem r x
    have hle : r.foldl min x ≤ n := by
      rcases List.mem_cons.mp hn with rfl | hn
      · exact b
      · exact c n hn
    rcases a with a | a
    · have := h2 _ (List.mem_map.mpr ⟨x, List.mem_cons_self .., rfl⟩)
      omega
    · have := h2 _ (List.mem_map.mpr ⟨_, List.mem_cons_of_mem _ a, rfl⟩)
      omega
theorem least_le {l : List Nat} (h : l ≠ []) : Ks319.least l ≤ l.foldl max 0 := by
  cases l with
  | nil => exact absurd rfl h
  | cons x r =>
    show r.foldl min x ≤ _
    have h1 := (foldl_min_mem r x).2.1
    have h2 := (foldl_max_mem (x :: r) 0).2.2 x (List.mem_cons_self ..)
    omega
/-- the size, as the program reckons it -/
theorem sizeI {l : List Point} (h : l ≠ []) {a b c d : Int} (ha : a = (((l.map Prod.fst).foldl max 0 : Nat) : Int)) (hb : b = ((Ks319.least (l.map Prod.fst) : Nat) : Int)) (hc : c = (((l.map Prod.snd).foldl max 0 : Nat) : Int)) (hd : d = ((Ks319.least (l.map Prod.snd) : Nat) : Int)) :
    (if c - d > a - b then c - d else a - b) = ((Ks319.size l : Nat) : Int) := by
  have h1 := least_le (l := l.map Prod.fst) (by simpa using h)
  have h2 := least_le (l := l.map Prod.snd) (by simpa using h)
  subst ha hb hc hd
  unfold Ks319.size
  rw [Nat.max_def]
  split <;> split <;> omega
/-! ### kept points -/
theorem kept_self (p : Point) (r : List Point) : Ks319.kept (p :: r) = p :: Ks319.keep (Ks319.size (p :: r)) p (p :: r) := by
  show p :: Ks319.keep (Ks319.size (p :: r)) p r = p :: (if _ ∧ p ≠ p then _ else _)
  rw [if_neg (fun h => h.2 rfl)]
theorem reach_zero (p q : Point) : Ks319.reach p q = 0 ↔ q = p := by
  obtain ⟨a, b⟩ := p
  obtain ⟨c, d⟩ := q
  unfold Ks319.reach Ks319.far
  simp only [Prod.mk.injEq]
  rw [Nat.max_def, Nat.max_def, Nat.max_def, Nat.min_def, Nat.min_def]
  split <;> split <;> split <;> omega
/-- one turn of the loop that keeps points -/
theorem keep_yes {s : Nat} {last p : Point} {l : List Point} (h1 : 0 < Ks319.reach last p) (h2 : s ≤ Ks319.reach last p * 8) : Ks319.keep s last (p :: l) = p :: Ks319.keep s p l := by
  have : p ≠ last := fun e => by
    have := (reach_zero last p).mpr e
    omega
  show (if _ then _ else _) = _
  rw [if_pos ⟨by omega, this⟩]
theorem keep_no {s : Nat} {last p : Point} {l : List Point} (h : ¬ (0 < Ks319.reach last p ∧ s ≤ Ks319.reach last p * 8)) : Ks319.keep s last (p :: l) = Ks319.keep s last l := by
  show (if _ then _ else _) = _
  rw [if_neg]
  intro ⟨a, b⟩
  have : Ks319.reach last p ≠ 0 := fun e => b ((reach_zero last p).mp e)
  exact h ⟨by omega, by omega⟩
theorem keep_length (s : Nat) : ∀ (l : List Point) (last : Point), (Ks319.keep s last l).length ≤ l.length
  | [], _ => Nat.le_refl _
  | p :: l, last => by
    show (if _ then _ else _ : List Point).length ≤ _
    split
    · have := keep_length s l p
      simp only [List.length_cons]
      omega
    · have := keep_length s l last
      simp only [List.length_cons]
      omega
theorem keep_mem (s : Nat) : ∀ (l : List Point) (last x : Point), x ∈ Ks319.keep s last l → x ∈ l
  | [], _, _, h => h
  | p :: l, last, x, h => by
    have h : x ∈ (if _ then _ else _ : List Point) := h
    split at h
    · rcases List.mem_cons.mp h with rfl | h
      · exact List.mem_cons_self ..
      · exact List.mem_cons_of_mem _ (keep_mem s l p x h)
    · exact List.mem_cons_of_mem _ (keep_mem s l last x h)
theorem kept_length (l : List Point) : (Ks319.kept l).length ≤ l.length := by
  cases l with
  | nil => exact Nat.le_refl _
  | cons p r =>
    have := keep_length (Ks319.size (p :: r)) r p
    show (p :: Ks319.keep (Ks319.size (p :: r)) p r).length ≤ _
    simp only [List.length_cons]
    omega
/-! ### directions -/
/-- the direction, as the program reckons it: how far to the right, how far down -/
def dirV (right down : Int) : Int :=
  if 2 * absI down ≤ absI right then (if 0 < right then 0 else 4)
  else if 2 * absI right ≤ absI down then (if 0 < down then 2 else 6)
  else if 0 < right then (if 0 < down then 1 else 7) else (if 0 < down then 3 else 5)
abbrev dirI (p q : Point) : Int := dirV ((q.1 : Int) - (p.1 : Int)) ((q.2 : Int) - (p.2 : Int))
theorem dirI_eq (p q : Point) : dirI p q = ((Ks319.direction p q : Nat) : Int) := by
  unfold dirI dirV Ks319.direction
  simp only [absI_far]
  have a1 : (0 < (q.1 : Int) - (p.1 : Int)) ↔ p.1 < q.1 := by omega
  have a2 : (0 < (q.2 : Int) - (p.2 : Int)) ↔ p.2 < q.2 := by omega
  have b1 : (2 * ((Ks319.far p.2 q.2 : Nat) : Int) ≤ ((Ks319.far p.1 q.1 : Nat) : Int)) ↔ 2 * Ks319.far p.2 q.2 ≤ Ks319.far p.1 q.1 := by omega
  have b2 : (2 * ((Ks319.far p.1 q.1 : Nat) : Int) ≤ ((Ks319.far p.2 q.2 : Nat) : Int)) ↔ 2 * Ks319.far p.1 q.1 ≤ Ks319.far p.2 q.2 := by omega
  simp only [a1, a2, b1, b2]
  repeat (first | rfl | split)
theorem direction_lt (p q : Point) : Ks319.direction p q < 8 := by
  unfold Ks319.direction
  simp only []
  repeat (first | omega | split)
/-- one direction more: like ones behind one another are one -/
def push (acc : List Nat) (d : Nat) : List Nat := if acc.getLast? = some d then acc else acc ++ [d]
theorem push_short : ∀ (l acc : List Nat) (a : Nat), l.foldl push (acc ++ [a]) = acc ++ Ks319.short (a :: l)
  | [], acc, a => rfl
  | b :: l, acc, a => by
    rw [List.foldl_cons]
    show l.foldl push (push (acc ++ [a]) b) = acc ++ (if a = b then Ks319.short (b :: l) else a :: Ks319.short (b :: l))
    unfold push
    rw [List.getLast?_concat]
    by_cases h : a = b
    · subst h
      rw [if_pos rfl, if_pos rfl]
      exact push_short l acc a
    · rw [if_neg (fun q => h (Option.some.inj q)), if_neg h]
      have := push_short l (acc ++ [a]) b
      rw [show (fun acc d => if acc.getLast? = some d then acc else acc ++ [d]) = push from rfl, this, List.append_assoc]
      rfl
theorem foldl_push (l : List Nat) : l.foldl push [] = Ks319.short l := by
  cases l with
  | nil => rfl
  | cons a l => exact push_short l [] a
theorem push_length (acc : List Nat) (d : Nat) : (push acc d).length ≤ acc.length + 1 := by
  unfold push
  split
  · omega
  · rw [List.length_append]
    exact Nat.le_refl _
theorem foldl_push_length : ∀ (l acc : List Nat), (l.foldl push acc).length ≤ acc.length + l.length
  | [], acc => Nat.le_refl _
  | d :: l, acc => by
    have h1 := foldl_push_length l (push acc d)
    have h2 := push_length acc d
    rw [List.foldl_cons, List.length_cons]
    omega
theorem directions_zip : ∀ l : List Point, (l.zip l.tail).map (fun x => Ks319.direction x.1 x.2) = Ks319.directions l
  | [] => rfl
  | [_] => rfl
  | p :: q :: l => by
    have := directions_zip (q :: l)
    show Ks319.direction p q :: ((q :: l).zip l).map _ = Ks319.direction p q :: Ks319.directions (q :: l)
    rw [← this]
    rfl
theorem row_is (l : List Point) : (((Ks319.kept l).zip (Ks319.kept l).tail).map (fun x => Ks319.direction x.1 x.2)).foldl push [] = Ks319.row l := by
  rw [directions_zip, foldl_push]
  rfl
theorem directions_length : ∀ l : List Point, (Ks319.directions l).length ≤ l.length
  | [] => Nat.le_refl _
  | [_] => Nat.zero_le _
  | p :: q :: l => by
    have := directions_length (q :: l)
    show (Ks319.direction p q :: Ks319.directions (q :: l)).length ≤ _
    simp only [List.length_cons] at *
    omega
theorem short_length : ∀ l : List Nat, (Ks319.short l).length ≤ l.length
  | [] => Nat.le_refl _
  | [_] => Nat.le_refl _
  | a :: b :: l => by
    have := short_length (b :: l)
    show (if a = b then Ks319.short (b :: l) else a :: Ks319.short (b :: l)).length ≤ _
    split <;> simp only [List.length_cons] at * <;> omega
theorem row_length (l : List Point) : (Ks319.row l).length ≤ l.length :=
  Nat.le_trans (short_length _) (Nat.le_trans (directions_length _) (kept_length _))
theorem short_mem : ∀ (l : List Nat) (x : Nat), x ∈ Ks319.short l → x ∈ l
  | [], _, h => h
  | [_], _, h => h
  | a :: b :: l, x, h => by
    have h : x ∈ (if a = b then Ks319.short (b :: l) else a :: Ks319.short (b :: l)) := h
    split at h
    · exact List.mem_cons_of_mem _ (short_mem (b :: l) x h)
    · rcases List.mem_cons.mp h with rfl | h
      · exact List.mem_cons_self ..
      · exact List.mem_cons_of_mem _ (short_mem (b :: l) x h)
theorem directions_lt : ∀ (l : List Point) (x : Nat), x ∈ Ks319.directions l → x < 8
  | [], _, h => by cases h
  | [_], _, h => by cases h
  | p :: q :: l, x, h => by
    have h : x ∈ Ks319.direction p q :: Ks319.directions (q :: l) := h
    rcases List.mem_cons.mp h with rfl | h
    · exact direction_lt p q
    · exact directions_lt (q :: l) x h
theorem row_lt (l : List Point) (x : Nat) (h : x ∈ Ks319.row l) : x < 8 := directions_lt _ x (short_mem _ x h)
/-! ### names -/
theorem okName_is (n : List Nat) : Ks321.okName n = ((decide (1 ≤ n.length) && decide (n.length ≤ 8)) && (n.map fun b => decide (97 ≤ b) && decide (b ≤ 122)).all id) := by
  unfold Ks321.okName Ks321.NAME
  rw [List.all_map]
  rfl
end My
set_option Elab.async false
namespace My
/-- the table of costs: the first i of a against the first j of b -/
def T (a b : List Nat) : Nat → Nat → Nat
  | 0, j => 2 * j
  | i + 1, 0 => 2 * (i + 1)
  | i + 1, j + 1 => min (min (T a b i (j + 1) + 2) (T a b (i + 1) j + 2)) (T a b i j + Ks320.turn (a.getD i 0) (b.getD j 0))
theorem T_0 (a b : List Nat) (j : Nat) : T a b 0 j = 2 * j := by rw [T]
theorem T_c (a b : List Nat) (i : Nat) : T a b (i + 1) 0 = 2 * (i + 1) := by rw [T]
theorem T_s (a b : List Nat) (i j : Nat) : T a b (i + 1) (j + 1) = min (min (T a b i (j + 1) + 2) (T a b (i + 1) j + 2)) (T a b i j + Ks320.turn (a.getD i 0) (b.getD j 0)) := by rw [T]
theorem T_col (a b : List Nat) (i : Nat) : T a b i 0 = 2 * i := by
  cases i with
  | zero => rw [T_0]
  | succ i => rw [T_c]
def rowT (a b : List Nat) (i j m : Nat) : List Nat := (List.range' j m).map (T a b i)
theorem rowT_succ (a b : List Nat) (i j m : Nat) : rowT a b i j (m + 1) = T a b i j :: rowT a b i (j + 1) m := rfl
theorem next_T (a b : List Nat) (i : Nat) : ∀ (m j : Nat), j + m = b.length → Ks320.next (a.getD i 0) (T a b (i + 1) j) (rowT a b i j (m + 1)) (b.drop j) = rowT a b (i + 1) (j + 1) m
  | 0, j, h => by
    rw [List.drop_of_length_le (by omega)]
    show Ks320.next _ _ [T a b i j] [] = []
    unfold Ks320.next
    rfl
  | m + 1, j, h => by
    have hj : j < b.length := by omega
    rw [List.drop_eq_getElem_cons hj, rowT_succ, rowT_succ]
    have e : b[j] = b.getD j 0 := by
      rw [List.getD_eq_getElem?_getD, List.getElem?_eq_getElem hj]
      rfl
    have ih := next_T a b i m (j + 1) (by omega)
    have ex : min (min (T a b i (j + 1) + Ks320.EACH) (T a b (i + 1) j + Ks320.EACH)) (T a b i j + Ks320.turn (a.getD i 0) (b[j])) = T a b (i + 1) (j + 1) := by
      rw [e, T_s]
      rfl
    show (min (min (T a b i (j + 1) + Ks320.EACH) (T a b (i + 1) j + Ks320.EACH)) (T a b i j + Ks320.turn (a.getD i 0) (b[j]))) :: Ks320.next (a.getD i 0) (min (min (T a b i (j + 1) + Ks320.EACH) (T a b (i + 1) j + Ks320.EACH)) (T a b i j + Ks320.turn (a.getD i 0) (b[j]))) (T a b i (j + 1) :: rowT a b i (j + 1 + 1) m) (b.drop (j + 1)) = rowT a b (i + 1) (j + 1) (m + 1)
    rw [ex, rowT_succ, ← ih]
    rfl
theorem step_T (a b : List Nat) (i : Nat) : Ks320.step b (rowT a b i 0 (b.length + 1)) (a.getD i 0) = rowT a b (i + 1) 0 (b.length + 1) := by
  have h := next_T a b i b.length 0 (by omega)
  rw [List.drop_zero] at h
  show (T a b i 0 + Ks320.EACH) :: Ks320.next (a.getD i 0) (T a b i 0 + Ks320.EACH) (rowT a b i 0 (b.length + 1)) b = rowT a b (i + 1) 0 (b.length + 1)
  have e : T a b i 0 + Ks320.EACH = T a b (i + 1) 0 := by
    rw [T_col, T_col]
    rfl
  rw [e, rowT_succ a b (i + 1), h]
theorem rowT_zero (a b : List Nat) : ((List.range (b.length + 1)).map fun k => Ks320.EACH * k) = rowT a b 0 0 (b.length + 1) := by
  unfold rowT
  rw [List.range_eq_range']
  exact List.map_congr_left fun k _ => (T_0 a b k).symm
theorem foldl_T (a b : List Nat) : ∀ (l : List Nat) (i : Nat), a.drop i = l → l.foldl (Ks320.step b) (rowT a b i 0 (b.length + 1)) = rowT a b (i + l.length) 0 (b.length + 1)
  | [], i, _ => rfl
  | d :: l, i, h => by
    have hi : i < a.length := by
      apply Nat.lt_of_not_le
      intro q
      rw [List.drop_of_length_le q] at h
      cases h
    rw [List.drop_eq_getElem_cons hi] at h
    obtain ⟨e1, e2⟩ := List.cons.inj h
    have e : d = a.getD i 0 := by
      rw [List.getD_eq_getElem?_getD, List.getElem?_eq_getElem hi, ← e1]
      rfl
    rw [List.foldl_cons, e, step_T, foldl_T a b l (i + 1) e2]
    rw [List.length_cons, show i + (l.length + 1) = i + 1 + l.length by omega]
/-- the specification's distance is the table's last entry -/
theorem apart_T (a b : List Nat) : Ks320.apart a b = T a b a.length b.length := by
  unfold Ks320.apart
  rw [rowT_zero a b, foldl_T a b a 0 rfl, Nat.zero_add]
  unfold rowT
  rw [List.range'_concat, List.map_append, List.map_cons, List.map_nil, List.getLast?_concat]
  simp
end My
set_option Elab.async false
namespace My
open Ks321 (Sign Abs)
abbrev nstep (a : Abs) : Option Sign → Sign → Option Sign := fun b s => match b with
  | none => some s
  | some t => if Ks321.far a s < Ks321.far a t then some s else b
theorem nearest_from (a : Abs) : ∀ (l : List Sign) (t : Sign), ∃ s, l.foldl (nstep a) (some t) = some s ∧ (s = t ∨ s ∈ l) ∧ Ks321.far a s ≤ Ks321.far a t ∧ ∀ u ∈ l, Ks321.far a s ≤ Ks321.far a u
  | [], t => ⟨t, rfl, .inl rfl, Nat.le_refl _, fun _ h => by cases h⟩
  | x :: l, t => by
    rw [List.foldl_cons]
    show ∃ s, l.foldl (nstep a) (if Ks321.far a x < Ks321.far a t then some x else some t) = some s ∧ _
    by_cases h : Ks321.far a x < Ks321.far a t
    · rw [if_pos h]
      obtain ⟨s, e, h1, h2, h3⟩ := nearest_from a l x
      refine ⟨s, e, .inr ?_, by omega, fun u hu => ?_⟩
      · rcases h1 with rfl | h1
        · exact List.mem_cons_self ..
        · exact List.mem_cons_of_mem _ h1
      · rcases List.mem_cons.mp hu with rfl | hu
        · exact h2
        · exact h3 u hu
    · rw [if_neg h]
      obtain ⟨s, e, h1, h2, h3⟩ := nearest_from a l t
      refine ⟨s, e, ?_, h2, fun u hu => ?_⟩
      · rcases h1 with rfl | h1
        · exact .inl rfl
        · exact .inr (List.mem_cons_of_mem _ h1)
      · rcases List.mem_cons.mp hu with rfl | hu
        · omega
        · exact h3 u hu
theorem nearest_cases (a : Abs) : (a.signs = [] ∧ Ks321.nearest a = none) ∨ ∃ s, Ks321.nearest a = some s ∧ s ∈ a.signs ∧ ∀ u ∈ a.signs, Ks321.far a s ≤ Ks321.far a u := by
  cases e : a.signs with
  | nil => exact .inl ⟨rfl, by unfold Ks321.nearest; rw [e]; rfl⟩
  | cons t l =>
    obtain ⟨s, h, h1, h2, h3⟩ := nearest_from a l t
    refine .inr ⟨s, ?_, ?_, fun u hu => ?_⟩
    · unfold Ks321.nearest
      rw [e]
      exact h
    · rcases h1 with rfl | h1
      · exact List.mem_cons_self ..
      · exact List.mem_cons_of_mem _ h1
    · rcases List.mem_cons.mp hu with rfl | hu
      · exact h2
      · exact h3 u hu
theorem known_61 {a : Abs} (h : Ks321.drawn a = []) : Ks321.known a = .error (-61) := by
  unfold Ks321.known
  rw [if_pos h]
theorem known_33 {a : Abs} (h : Ks321.drawn a ≠ []) (hl : ∀ t ∈ a.signs, a.limit < Ks321.far a t) : Ks321.known a = .error (-33) := by
  unfold Ks321.known
  rw [if_neg h]
  rcases nearest_cases a with ⟨_, e⟩ | ⟨s, e, hs, _⟩
  · rw [e]
  · rw [e]
    show (if _ then _ else _) = _
    rw [if_pos (hl s hs)]
theorem any_ne {l : List Sign} {a : Abs} {s : Sign} : (l.any (fun t => Ks321.far a t == Ks321.far a s && t.name != s.name)) = true ↔ ∃ t ∈ l, Ks321.far a t = Ks321.far a s ∧ t.name ≠ s.name := by
  rw [List.any_eq_true]
  constructor
  · rintro ⟨t, ht, h⟩
    rw [Bool.and_eq_true] at h
    exact ⟨t, ht, eq_of_beq h.1, bne_iff_ne.mp h.2⟩
  · rintro ⟨t, ht, h1, h2⟩
    exact ⟨t, ht, by rw [Bool.and_eq_true]; exact ⟨beq_iff_eq.mpr h1, bne_iff_ne.mpr h2⟩⟩
theorem known_41 {a : Abs} {s t : Sign} (h : Ks321.drawn a ≠ []) (hs : s ∈ a.signs) (hm : ∀ u ∈ a.signs, Ks321.far a s ≤ Ks321.far a u) (hl : Ks321.far a s ≤ a.limit) (ht : t ∈ a.signs) (hd : Ks321.far a t = Ks321.far a s) (hn : t.name ≠ s.name) : Ks321.known a = .error (-41) := by
  unfold Ks321.known
  rw [if_neg h]
  rcases nearest_cases a with ⟨e0, _⟩ | ⟨r, e, hr, hrm⟩
  · rw [e0] at hs
    cases hs
  · rw [e]
    have e1 : Ks321.far a r = Ks321.far a s := by
      have := hrm s hs
      have := hm r hr
      omega
    show (if _ then _ else if _ then _ else _) = _
    rw [if_neg (by omega), if_pos]
    rw [any_ne]
    by_cases q : s.name = r.name
    · exact ⟨t, ht, by omega, fun z => hn (z.trans q.symm)⟩
    · exact ⟨s, hs, e1.symm, q⟩
theorem known_ok {a : Abs} {s : Sign} (h : Ks321.drawn a ≠ []) (hs : s ∈ a.signs) (hm : ∀ u ∈ a.signs, Ks321.far a s ≤ Ks321.far a u) (hl : Ks321.far a s ≤ a.limit) (hn : ∀ t ∈ a.signs, Ks321.far a t = Ks321.far a s → t.name = s.name) : Ks321.known a = .ok (Ks321.far a s, s.name) := by
  unfold Ks321.known
  rw [if_neg h]
  rcases nearest_cases a with ⟨e0, _⟩ | ⟨r, e, hr, hrm⟩
  · rw [e0] at hs
    cases hs
  · rw [e]
    have e1 : Ks321.far a r = Ks321.far a s := by
      have := hrm s hs
      have := hm r hr
      omega
    have e2 : r.name = s.name := hn r hr e1
    show (if _ then _ else if _ then _ else _) = _
    rw [if_neg (by omega), if_neg, e1, e2]
    rw [any_ne]
    rintro ⟨t, ht, h1, h2⟩
    exact h2 ((hn t ht (by omega)).trans e2.symm)
/-! ### forgetting -/
theorem any_none {l : List Sign} {n : List Nat} : l.any (fun s => s.name == n) = false ↔ (l.filter fun s => s.name != n).length = l.length := by
  rw [List.length_filter_eq_length_iff, List.any_eq_false]
  constructor
  · intro h s hs
    have := h s hs
    rw [bne_iff_ne]
    intro e
    exact this (beq_iff_eq.mpr e)
  · intro h s hs q
    exact (bne_iff_ne.mp (h s hs)) (eq_of_beq q)
theorem filter_count (l : List Sign) (n : List Nat) : (l.filter fun s => s.name == n).length + (l.filter fun s => s.name != n).length = l.length := by
  induction l with
  | nil => rfl
  | cons x l ih =>
    rw [List.filter_cons, List.filter_cons]
    by_cases h : x.name = n
    · rw [if_pos (beq_iff_eq.mpr h), if_neg (by rw [bne_iff_ne]; exact fun q => q h)]
      simp only [List.length_cons]
      omega
    · rw [if_neg (by rw [beq_iff_eq]; exact h), if_pos (bne_iff_ne.mpr h)]
      simp only [List.length_cons]
      omega
end My
set_option Elab.async false
namespace My
abbrev ofN (l : List Nat) : List Int := l.map (fun (n : Nat) => (n : Int))
/-- a call as the document lets it be handed in -/
inductive Good : List (List Int) → Prop
  | begin (x : Nat) : Good [[0, (x : Int)]]
  | move (x y : Nat) : Good [[1, (x : Int), (y : Int)]]
  | clear : Good [[2]]
  | row : Good [[3]]
  | teach (n : List Nat) : Good [[4], ofN n]
  | forget (n : List Nat) : Good [[5], ofN n]
  | know : Good [[6]]
  | take : Good [[7]]
  | back : Good [[8]]
  | text : Good [[9]]
  | count : Good [[10]]
theorem int_to {P : Int → Prop} (hn : ∀ n, P (Int.negSucc n)) (h : ∀ n : Nat, n < 11 → P (Int.ofNat n)) (hb : ∀ n : Nat, P (Int.ofNat (n + 11))) (z : Int) : P z := by
  cases z with
  | negSucc n => exact hn n
  | ofNat n =>
    by_cases q : n < 11
    · exact h n q
    · have e : n = (n - 11) + 11 := by omega
      rw [e]
      exact hb _
theorem nat_to {P : Nat → Prop} (h0 : P 0) (h1 : P 1) (h2 : P 2) (h3 : P 3) (h4 : P 4) (h5 : P 5) (h6 : P 6) (h7 : P 7) (h8 : P 8) (h9 : P 9) (h10 : P 10) (n : Nat) (h : n < 11) : P n := by
  rcases n with _ | _ | _ | _ | _ | _ | _ | _ | _ | _ | _ | n
  · exact h0
  · exact h1
  · exact h2
  · exact h3
  · exact h4
  · exact h5
  · exact h6
  · exact h7
  · exact h8
  · exact h9
  · exact h10
  · omega
theorem nat_of {z : Int} {k : Nat} (h : Ks321Neutral.natural z k = true) : ∃ n : Nat, z = (n : Int) := by
  unfold Ks321Neutral.natural at h
  rw [Bool.and_eq_true] at h
  exact ⟨z.toNat, by have := of_decide_eq_true h.1; omega⟩
theorem nats_of : ∀ {l : List Int}, l.all (fun z => Ks321Neutral.natural z 8) = true → ∃ n : List Nat, l = ofN n
  | [], _ => ⟨[], rfl⟩
  | z :: l, h => by
    rw [List.all_cons, Bool.and_eq_true] at h
    obtain ⟨k, rfl⟩ := nat_of h.1
    obtain ⟨n, rfl⟩ := nats_of h.2
    exact ⟨k :: n, rfl⟩
theorem ff {P : Prop} (h : false = true) : P := by cases h
theorem whole_id (c : List (List Int)) : PyKs321.whole c = c := by
  cases c with
  | nil => rfl
  | cons r l =>
    cases l with
    | nil =>
      cases r with
      | nil => rfl
      | cons z r =>
        cases r with
        | nil => exact int_to (P := fun z => PyKs321.whole [[z]] = [[z]]) (fun n => rfl) (nat_to (P := fun n => PyKs321.whole [[Int.ofNat n]] = [[Int.ofNat n]]) rfl rfl rfl rfl rfl rfl rfl rfl rfl rfl rfl) (fun n => rfl) z
        | cons x r =>
          cases r with
          | nil => exact int_to (P := fun z => PyKs321.whole [[z, x]] = [[z, x]]) (fun n => rfl) (nat_to (P := fun n => PyKs321.whole [[Int.ofNat n, x]] = [[Int.ofNat n, x]]) rfl rfl rfl rfl rfl rfl rfl rfl rfl rfl rfl) (fun n => rfl) z
          | cons y r =>
            cases r with
            | nil => exact int_to (P := fun z => PyKs321.whole [[z, x, y]] = [[z, x, y]]) (fun n => rfl) (nat_to (P := fun n => PyKs321.whole [[Int.ofNat n, x, y]] = [[Int.ofNat n, x, y]]) rfl rfl rfl rfl rfl rfl rfl rfl rfl rfl rfl) (fun n => rfl) z
            | cons u r => exact int_to (P := fun z => PyKs321.whole [z :: x :: y :: u :: r] = [z :: x :: y :: u :: r]) (fun n => rfl) (nat_to (P := fun n => PyKs321.whole [Int.ofNat n :: x :: y :: u :: r] = [Int.ofNat n :: x :: y :: u :: r]) rfl rfl rfl rfl rfl rfl rfl rfl rfl rfl rfl) (fun n => rfl) z
    | cons s l =>
      cases l with
      | nil =>
        cases r with
        | nil => rfl
        | cons z r =>
          cases r with
          | nil => exact int_to (P := fun z => PyKs321.whole [[z], s] = [[z], s]) (fun n => rfl) (nat_to (P := fun n => PyKs321.whole [[Int.ofNat n], s] = [[Int.ofNat n], s]) rfl rfl rfl rfl rfl rfl rfl rfl rfl rfl rfl) (fun n => rfl) z
          | cons x r =>
            cases r with
            | nil => exact int_to (P := fun z => PyKs321.whole [[z, x], s] = [[z, x], s]) (fun n => rfl) (nat_to (P := fun n => PyKs321.whole [[Int.ofNat n, x], s] = [[Int.ofNat n, x], s]) rfl rfl rfl rfl rfl rfl rfl rfl rfl rfl rfl) (fun n => rfl) z
            | cons y r =>
              cases r with
              | nil => exact int_to (P := fun z => PyKs321.whole [[z, x, y], s] = [[z, x, y], s]) (fun n => rfl) (nat_to (P := fun n => PyKs321.whole [[Int.ofNat n, x, y], s] = [[Int.ofNat n, x, y], s]) rfl rfl rfl rfl rfl rfl rfl rfl rfl rfl rfl) (fun n => rfl) z
              | cons u r => exact int_to (P := fun z => PyKs321.whole [z :: x :: y :: u :: r, s] = [z :: x :: y :: u :: r, s]) (fun n => rfl) (nat_to (P := fun n => PyKs321.whole [Int.ofNat n :: x :: y :: u :: r, s] = [Int.ofNat n :: x :: y :: u :: r, s]) rfl rfl rfl rfl rfl rfl rfl rfl rfl rfl rfl) (fun n => rfl) z
      | cons t l =>
        cases r with
        | nil => rfl
        | cons z r =>
          cases r with
          | nil => exact int_to (P := fun z => PyKs321.whole ([z] :: s :: t :: l) = ([z] :: s :: t :: l)) (fun n => rfl) (nat_to (P := fun n => PyKs321.whole ([Int.ofNat n] :: s :: t :: l) = ([Int.ofNat n] :: s :: t :: l)) rfl rfl rfl rfl rfl rfl rfl rfl rfl rfl rfl) (fun n => rfl) z
          | cons x r =>
            cases r with
            | nil => exact int_to (P := fun z => PyKs321.whole ([z, x] :: s :: t :: l) = ([z, x] :: s :: t :: l)) (fun n => rfl) (nat_to (P := fun n => PyKs321.whole ([Int.ofNat n, x] :: s :: t :: l) = ([Int.ofNat n, x] :: s :: t :: l)) rfl rfl rfl rfl rfl rfl rfl rfl rfl rfl rfl) (fun n => rfl) z
            | cons y r =>
              cases r with
              | nil => exact int_to (P := fun z => PyKs321.whole ([z, x, y] :: s :: t :: l) = ([z, x, y] :: s :: t :: l)) (fun n => rfl) (nat_to (P := fun n => PyKs321.whole ([Int.ofNat n, x, y] :: s :: t :: l) = ([Int.ofNat n, x, y] :: s :: t :: l)) rfl rfl rfl rfl rfl rfl rfl rfl rfl rfl rfl) (fun n => rfl) z
              | cons u r => exact int_to (P := fun z => PyKs321.whole ((z :: x :: y :: u :: r) :: s :: t :: l) = ((z :: x :: y :: u :: r) :: s :: t :: l)) (fun n => rfl) (nat_to (P := fun n => PyKs321.whole ((Int.ofNat n :: x :: y :: u :: r) :: s :: t :: l) = ((Int.ofNat n :: x :: y :: u :: r) :: s :: t :: l)) rfl rfl rfl rfl rfl rfl rfl rfl rfl rfl rfl) (fun n => rfl) z
theorem good_begin {x : Int} (h : Ks321Neutral.natural x 32 = true) : Good [[0, x]] := by
  obtain ⟨n, rfl⟩ := nat_of h
  exact .begin n
theorem good_move {x y : Int} (h : (Ks321Neutral.natural x 32 && Ks321Neutral.natural y 32) = true) : Good [[1, x, y]] := by
  rw [Bool.and_eq_true] at h
  obtain ⟨n, rfl⟩ := nat_of h.1
  obtain ⟨m, rfl⟩ := nat_of h.2
  exact .move n m
theorem good_teach {s : List Int} (h : s.all (fun (z : Int) => Ks321Neutral.natural z 8) = true) : Good [[4], s] := by
  obtain ⟨n, rfl⟩ := nats_of h
  exact .teach n
theorem good_forget {s : List Int} (h : s.all (fun (z : Int) => Ks321Neutral.natural z 8) = true) : Good [[5], s] := by
  obtain ⟨n, rfl⟩ := nats_of h
  exact .forget n
theorem good_of {c : List (List Int)} (h : Ks321Neutral.asked1 c = true) : Good c := by
  cases c with
  | nil => exact ff h
  | cons r l =>
    cases l with
    | nil =>
      cases r with
      | nil => exact ff h
      | cons z r =>
        cases r with
        | nil => exact int_to (P := fun z => Ks321Neutral.asked1 [[z]] = true → Good [[z]]) (fun n => ff) (nat_to (P := fun n => Ks321Neutral.asked1 [[Int.ofNat n]] = true → Good [[Int.ofNat n]]) ff ff (fun _ => .clear) (fun _ => .row) ff ff (fun _ => .know) (fun _ => .take) (fun _ => .back) (fun _ => .text) (fun _ => .count)) (fun n => ff) z h
        | cons x r =>
          cases r with
          | nil => exact int_to (P := fun z => Ks321Neutral.asked1 [[z, x]] = true → Good [[z, x]]) (fun n => ff) (nat_to (P := fun n => Ks321Neutral.asked1 [[Int.ofNat n, x]] = true → Good [[Int.ofNat n, x]]) (fun q => good_begin q) ff ff ff ff ff ff ff ff ff ff) (fun n => ff) z h
          | cons y r =>
            cases r with
            | nil => exact int_to (P := fun z => Ks321Neutral.asked1 [[z, x, y]] = true → Good [[z, x, y]]) (fun n => ff) (nat_to (P := fun n => Ks321Neutral.asked1 [[Int.ofNat n, x, y]] = true → Good [[Int.ofNat n, x, y]]) ff (fun q => good_move q) ff ff ff ff ff ff ff ff ff) (fun n => ff) z h
            | cons u r => exact int_to (P := fun z => Ks321Neutral.asked1 [z :: x :: y :: u :: r] = true → Good [z :: x :: y :: u :: r]) (fun n => ff) (nat_to (P := fun n => Ks321Neutral.asked1 [Int.ofNat n :: x :: y :: u :: r] = true → Good [Int.ofNat n :: x :: y :: u :: r]) ff ff ff ff ff ff ff ff ff ff ff) (fun n => ff) z h
    | cons s l =>
      cases l with
      | nil =>
        cases r with
        | nil => exact ff h
        | cons z r =>
          cases r with
          | nil => exact int_to (P := fun z => Ks321Neutral.asked1 [[z], s] = true → Good [[z], s]) (fun n => ff) (nat_to (P := fun n => Ks321Neutral.asked1 [[Int.ofNat n], s] = true → Good [[Int.ofNat n], s]) ff ff ff ff (fun q => good_teach q) (fun q => good_forget q) ff ff ff ff ff) (fun n => ff) z h
          | cons x r =>
            cases r with
            | nil => exact int_to (P := fun z => Ks321Neutral.asked1 [[z, x], s] = true → Good [[z, x], s]) (fun n => ff) (nat_to (P := fun n => Ks321Neutral.asked1 [[Int.ofNat n, x], s] = true → Good [[Int.ofNat n, x], s]) ff ff ff ff ff ff ff ff ff ff ff) (fun n => ff) z h
            | cons y r =>
              cases r with
              | nil => exact int_to (P := fun z => Ks321Neutral.asked1 [[z, x, y], s] = true → Good [[z, x, y], s]) (fun n => ff) (nat_to (P := fun n => Ks321Neutral.asked1 [[Int.ofNat n, x, y], s] = true → Good [[Int.ofNat n, x, y], s]) ff ff ff ff ff ff ff ff ff ff ff) (fun n => ff) z h
              | cons u r => exact int_to (P := fun z => Ks321Neutral.asked1 [z :: x :: y :: u :: r, s] = true → Good [z :: x :: y :: u :: r, s]) (fun n => ff) (nat_to (P := fun n => Ks321Neutral.asked1 [Int.ofNat n :: x :: y :: u :: r, s] = true → Good [Int.ofNat n :: x :: y :: u :: r, s]) ff ff ff ff ff ff ff ff ff ff ff) (fun n => ff) z h
      | cons t l =>
        cases r with
        | nil => exact ff h
        | cons z r =>
          cases r with
          | nil => exact int_to (P := fun z => Ks321Neutral.asked1 ([z] :: s :: t :: l) = true → Good ([z] :: s :: t :: l)) (fun n => ff) (nat_to (P := fun n => Ks321Neutral.asked1 ([Int.ofNat n] :: s :: t :: l) = true → Good ([Int.ofNat n] :: s :: t :: l)) ff ff ff ff ff ff ff ff ff ff ff) (fun n => ff) z h
          | cons x r =>
            cases r with
            | nil => exact int_to (P := fun z => Ks321Neutral.asked1 ([z, x] :: s :: t :: l) = true → Good ([z, x] :: s :: t :: l)) (fun n => ff) (nat_to (P := fun n => Ks321Neutral.asked1 ([Int.ofNat n, x] :: s :: t :: l) = true → Good ([Int.ofNat n, x] :: s :: t :: l)) ff ff ff ff ff ff ff ff ff ff ff) (fun n => ff) z h
            | cons y r =>
              cases r with
              | nil => exact int_to (P := fun z => Ks321Neutral.asked1 ([z, x, y] :: s :: t :: l) = true → Good ([z, x, y] :: s :: t :: l)) (fun n => ff) (nat_to (P := fun n => Ks321Neutral.asked1 ([Int.ofNat n, x, y] :: s :: t :: l) = true → Good ([Int.ofNat n, x, y] :: s :: t :: l)) ff ff ff ff ff ff ff ff ff ff ff) (fun n => ff) z h
              | cons u r => exact int_to (P := fun z => Ks321Neutral.asked1 ((z :: x :: y :: u :: r) :: s :: t :: l) = true → Good ((z :: x :: y :: u :: r) :: s :: t :: l)) (fun n => ff) (nat_to (P := fun n => Ks321Neutral.asked1 ((Int.ofNat n :: x :: y :: u :: r) :: s :: t :: l) = true → Good ((Int.ofNat n :: x :: y :: u :: r) :: s :: t :: l)) ff ff ff ff ff ff ff ff ff ff ff) (fun n => ff) z h
theorem map_whole (cs : List (List (List Int))) : cs.map PyKs321.whole = cs := by
  have : PyKs321.whole = id := funext fun c => whole_id c
  rw [this, List.map_id]
theorem runs_played (cs : List (List (List Int))) : ∀ s, Ks321Neutral.runs s cs = PyFlat.played Ks321Neutral.step s cs := by
  induction cs with
  | nil => intro s; rfl
  | cons c l ih =>
    intro s
    show (Ks321Neutral.step s c).2 :: Ks321Neutral.runs (Ks321Neutral.step s c).1 l = _
    rw [ih]
    rfl
theorem foldl_add : ∀ (l : List Nat) (a : Nat), l.foldl (· + ·) a = a + l.sum
  | [], a => by simp
  | x :: l, a => by
    rw [List.foldl_cons, foldl_add l, List.sum_cons]
    omega
theorem told_length (l : List (List Int)) : (PyFlat.told l).length = l.length + (l.map List.length).sum := by
  unfold PyFlat.told
  induction l with
  | nil => rfl
  | cons a l ih =>
    rw [List.flatMap_cons, List.length_append, ih]
    simp only [List.length_cons, List.map_cons, List.sum_cons]
    omega
theorem played_length {S : Type} (step : S → List (List Int) → S × List Int) (cs : List (List (List Int))) : ∀ s, (PyFlat.played step s cs).length = cs.length := by
  induction cs with
  | nil => intro s; rfl
  | cons c l ih =>
    intro s
    show (PyFlat.played step (step s c).1 l).length + 1 = _
    rw [ih]
    rfl
/-- what is handed in, read as calls; what is due -/
theorem asked_split {ns : List Int} (h : PyKs321.answers_asked ns = true) : ∃ cs, ns = PyFlat.put cs ∧ (∀ c ∈ cs, Good c) ∧ cs.length ≤ 5000 ∧
    PyKs321.answers ns = PyFlat.told (PyFlat.played Ks321Neutral.step Ks321Neutral.start cs) ∧ (PyKs321.answers ns).length ≤ 1005000 := by
  unfold PyKs321.answers_asked at h
  cases e : PyKs321.calls ns with
  | none => rw [e] at h; cases h
  | some cs =>
    rw [e] at h
    have h : (PyFlat.atMost 5000 cs && Ks321Neutral.asked cs) = true := h
    rw [Bool.and_eq_true] at h
    have h1 : cs.length ≤ 5000 := of_decide_eq_true h.1
    have h2 := h.2
    unfold Ks321Neutral.asked at h2
    rw [Bool.and_eq_true, Bool.and_eq_true, Bool.and_eq_true, Bool.and_eq_true] at h2
    have h3 := of_decide_eq_true h2.2
    have ha : PyKs321.answers ns = PyFlat.told (PyFlat.played Ks321Neutral.step Ks321Neutral.start cs) := by
      unfold PyKs321.answers
      rw [e]
    have e' := e
    unfold PyKs321.calls at e
    cases e2 : PyFlat.calls PyKs321.shape ns.length ns with
    | none => rw [e2] at e; cases e
    | some ds =>
      rw [e2] at e
      have e : ds.map PyKs321.whole = cs := Option.some.inj e
      rw [map_whole] at e
      subst e
      refine ⟨ds, (PyFlat.put_calls _ _ _ e2).1, fun c hc => good_of (List.all_eq_true.mp h2.1.1.1.1 c hc), h1, ha, ?_⟩
      rw [ha, told_length, played_length]
      unfold Ks321Neutral.f at h3
      rw [foldl_add, runs_played] at h3
      omega
/-! ### what each call is due, in short -/
theorem nats_ofN (n : List Nat) : Ks321Neutral.nats (ofN n) = n := by
  unfold Ks321Neutral.nats
  rw [List.map_map]
  have : (Int.toNat ∘ fun (n : Nat) => (n : Int)) = id := funext fun k => rfl
  rw [this, List.map_id]
theorem ints_ofN (n : List Nat) : Ks321Neutral.ints n = ofN n := rfl
theorem step_begin (a : Ks321.Abs) (x : Nat) : Ks321Neutral.step a [[0, (x : Int)]] = Ks321Neutral.sa (Ks321.act a (.begin x)) := rfl
theorem step_move (a : Ks321.Abs) (x y : Nat) : Ks321Neutral.step a [[1, (x : Int), (y : Int)]] = Ks321Neutral.sa (Ks321.act a (.move x y)) := rfl
theorem step_clear (a : Ks321.Abs) : Ks321Neutral.step a [[2]] = Ks321Neutral.sa (Ks321.act a .clear) := rfl
theorem step_row (a : Ks321.Abs) : Ks321Neutral.step a [[3]] = Ks321Neutral.sa (Ks321.act a .row) := rfl
theorem step_teach (a : Ks321.Abs) (n : List Nat) : Ks321Neutral.step a [[4], ofN n] = Ks321Neutral.sa (Ks321.act a (.teach n)) := by
  show Ks321Neutral.sa (Ks321.act a (.teach (Ks321Neutral.nats (ofN n)))) = _
  rw [nats_ofN]
theorem step_forget (a : Ks321.Abs) (n : List Nat) : Ks321Neutral.step a [[5], ofN n] = Ks321Neutral.sa (Ks321.act a (.forget n)) := by
  show Ks321Neutral.sa (Ks321.act a (.forget (Ks321Neutral.nats (ofN n)))) = _
  rw [nats_ofN]
theorem step_know (a : Ks321.Abs) : Ks321Neutral.step a [[6]] = Ks321Neutral.sa (Ks321.act a .know) := rfl
theorem step_take (a : Ks321.Abs) : Ks321Neutral.step a [[7]] = Ks321Neutral.sa (Ks321.act a .take) := rfl
theorem step_back (a : Ks321.Abs) : Ks321Neutral.step a [[8]] = Ks321Neutral.sa (Ks321.act a .back) := rfl
theorem step_text (a : Ks321.Abs) : Ks321Neutral.step a [[9]] = Ks321Neutral.sa (Ks321.act a .text) := rfl
theorem step_count (a : Ks321.Abs) : Ks321Neutral.step a [[10]] = Ks321Neutral.sa (Ks321.act a .count) := rfl
/-! ### the numbers of a call -/
theorem put1_begin (x : Int) : PyFlat.put1 [[0, x]] = [0, x] := rfl
theorem put1_move (x y : Int) : PyFlat.put1 [[1, x, y]] = [1, x, y] := rfl
theorem put1_name (k : Int) (n : List Int) : PyFlat.put1 [[k], n] = k :: (n.length : Int) :: n := by
  show [k] ++ (((n.length : Int) :: n) ++ []) = _
  rw [List.append_nil]
  rfl
theorem put1_one (k : Int) : PyFlat.put1 [[k]] = [k] := rfl
theorem put_cons (c : List (List Int)) (cs : List (List (List Int))) : PyFlat.put (c :: cs) = PyFlat.put1 c ++ PyFlat.put cs := rfl
theorem told_cons (a : List Int) (l : List (List Int)) : PyFlat.told (a :: l) = ((a.length : Int) :: a) ++ PyFlat.told l := by
  unfold PyFlat.told
  rw [List.flatMap_cons]
end My
set_option Elab.async false
set_option maxRecDepth 100000
set_option maxHeartbeats 4000000
namespace My
open PySem PySem.Spec PyProof.Rows L2
open Ks319 (Point)
open Ks321 (Sign Abs)
/-! ### the data: numbers, points, names, signs -/
abbrev vI (l : List Nat) : List V := (ofN l).map V.int
theorem vI_length (l : List Nat) : (vI l).length = l.length := by
  unfold vI ofN
  rw [List.length_map, List.length_map]
theorem vI_snoc (l : List Nat) (n : Nat) : vI (l ++ [n]) = vI l ++ [V.int (n : Int)] := by
  unfold vI ofN
  rw [List.map_append, List.map_append]
  rfl
theorem vI_get {l : List Nat} {i : Nat} {v : V} (h : (vI l)[i]? = some v) : ∃ n, l[i]? = some n ∧ v = V.int (n : Int) := by
  unfold vI ofN at h
  rw [List.getElem?_map, List.getElem?_map] at h
  cases e : l[i]? with
  | none => rw [e] at h; cases h
  | some n => rw [e] at h; exact ⟨n, rfl, (Option.some.inj h).symm⟩
theorem take_snoc {α : Type} : ∀ {l : List α} {i : Nat} {x : α}, l[i]? = some x → l.take (i + 1) = l.take i ++ [x]
  | [], i, x, h => by simp at h
  | a :: l, 0, x, h => by
    have e : a = x := Option.some.inj h
    subst e
    rfl
  | a :: l, i + 1, x, h => by
    have ih := take_snoc (l := l) (i := i) (x := x) h
    show a :: l.take (i + 1) = a :: l.take i ++ [x]
    rw [ih]
    rfl
theorem drop_at {α : Type} {l : List α} {i : Nat} {x : α} (h : l[i]? = some x) : l.drop i = x :: l.drop (i + 1) := by
  obtain ⟨hi, e⟩ := List.getElem?_eq_some_iff.mp h
  rw [List.drop_eq_getElem_cons hi, e]
theorem small_size {n : Nat} (h : n ≤ 1100000) : n < sizeLine := Nat.lt_of_le_of_lt h (by decide)
theorem small_le {n : Nat} (h : n ≤ 1100000) : n ≤ sizeLine := Nat.le_of_lt (small_size h)
/-- a pair's partner, from the right -/
theorem pair_get' {α β : Type} {G : α → β → Prop} : ∀ {l₁ : List α} {l₂ : List β}, Paired G l₁ l₂ → ∀ {i : Nat} {b : β}, l₂[i]? = some b → ∃ a, l₁[i]? = some a ∧ G a b
  | _, _, .nil, i, b, h => by simp at h
  | _, _, .cons r t, 0, b, h => by
    have e := Option.some.inj h
    subst e
    exact ⟨_, rfl, r⟩
  | _, _, .cons r t, i + 1, b, h => pair_get' t (i := i) (b := b) h
theorem pair_last {α β : Type} {G : α → β → Prop} : ∀ {l₁ : List α} {l₂ : List β} {b : β}, Paired G l₁ (l₂ ++ [b]) → ∃ m a, l₁ = m ++ [a] ∧ G a b ∧ Paired G m l₂
  | _, [], b, .cons r t => by
    cases t
    exact ⟨[], _, rfl, r, .nil⟩
  | _, c :: l₂, b, .cons r t => by
    obtain ⟨m, a, e, h1, h2⟩ := pair_last (l₂ := l₂) (b := b) t
    subst e
    exact ⟨_ :: m, a, rfl, h1, .cons r h2⟩
theorem pair_tail {α β : Type} {G : α → β → Prop} : ∀ {l₁ : List α} {l₂ : List β}, Paired G l₁ l₂ → Paired G l₁.tail l₂.tail
  | _, _, .nil => .nil
  | _, _, .cons _ t => t
/-- a point stands at a -/
def PtAt (H : Hp) (a : Addr) (p : Point) : Prop := H a = some (.tup [.int (p.1 : Int), .int (p.2 : Int)])
abbrev PtV (H : Hp) : V → Point → Prop := fun v p => ∃ a, v = .ref a ∧ PtAt H a p
abbrev PtsV (H : Hp) : List V → List Point → Prop := Paired (PtV H)
theorem PtsV.mono {H H' : Hp} (s : Same H H') {vs : List V} {ps : List Point} (h : PtsV H vs ps) : PtsV H' vs ps :=
  Paired.mapP h fun _ _ ⟨a, e, q⟩ => ⟨a, e, s _ _ q⟩
theorem same_new {H : Hp} {a : Addr} {o : HO} (h : H a = Option.none) : Same H (upd H a o) := fun b u e => by
  rw [upd_ne (ne_of_none e h)]
  exact e
/-- a list (or any object) that came behind H may be written anew -/
theorem same_upd {H H1 : Hp} {a : Addr} {o : HO} (s : Same H H1) (h : H a = Option.none) : Same H (upd H1 a o) := fun b u e => by
  rw [upd_ne (ne_of_none e h)]
  exact s b u e
/-! ### rules in short -/
section
variable {X : Cx}
/-- a number that stands at the file's top -/
theorem pe_gint {x : Str} {k : Int} {pos : Pos} (hg : Gl X x) (h : ∃ t, X.mg x = some (Value.int k t)) (hd : (x == ("__debug__" : Str)) = false := by decide) : PE X (.Name x pos) (tC (.int k)) := by
  obtain ⟨t, e⟩ := h
  exact pe_glob hg e ⟨t, rfl⟩ hd
end
/-- for .. in zip(xs, ys), both lists left as they are -/
theorem for_zip {K : PySem.W.Frag} {a b : Addr} {xs ys : List V} {g : TG} {tb : TS} {D : Ends} {σ : L2.St} {H : Hp} (Pv : Nat → L2.St → Hp → Prop) (h0 : Pv 0 σ H) (hl : ∀ i σ H, Pv i σ H → SqL K H a xs ∧ SqL K H b ys)
    (hs : ∀ i x y σ H p, xs[i]? = some x → ys[i]? = some y → Pv i σ H → H p = Option.none → g (.ref p) σ (upd H p (.tup [x, y])) fun σ2 H2 => tb { D with nx := Pv (i + 1), ct := Pv (i + 1), bk := D.nx } σ2 H2) (hd : ∀ σ H, Pv (min xs.length ys.length) σ H → D.nx σ H) :
    ∃ W : Nat → Nat → L2.St → Hp → Prop, (∃ m, W 0 m σ H) ∧ ∀ i m σ H, W i m σ H →
      ((Itz K a b).stop i H ∧ D.nx σ H) ∨ ((Itz K a b).go i H ∧ ∃ N : L2.St → Hp → Prop, (∀ σ' H', N σ' H' → ∃ m', m' < m ∧ W (i + 1) m' σ' H') ∧ ∀ x H', (Itz K a b).yld i H x H' → g x σ H' fun σ2 H2 => tb { D with nx := N, ct := N, bk := D.nx } σ2 H2) := by
  refine ⟨fun i m σ H => m = min xs.length ys.length - i ∧ i ≤ min xs.length ys.length ∧ Pv i σ H, ⟨_, rfl, Nat.zero_le _, h0⟩, ?_⟩
  rintro i m σ H ⟨rfl, hi, p⟩
  obtain ⟨q1, q2⟩ := hl i σ H p
  by_cases hlt : i < min xs.length ys.length
  · have l1 : i < xs.length := by omega
    have l2 : i < ys.length := by omega
    refine .inr ⟨⟨xs, ys, xs[i], ys[i], q1, q2, by simp [l1], by simp [l2]⟩, Pv (i + 1), fun σ' H' p' => ⟨min xs.length ys.length - (i + 1), by omega, rfl, by omega, p'⟩, fun x H' y => ?_⟩
    obtain ⟨T, u, v, rfl, hT, rfl, y1, y2⟩ := y
    exact hs i u v σ H T (y1 xs q1) (y2 ys q2) p hT
  · have e : i = min xs.length ys.length := by omega
    subst e
    exact .inl ⟨⟨xs, ys, q1, q2, by omega⟩, hd σ H p⟩
theorem cut_tail (xs : List V) : cutV xs (some 1) Option.none = xs.tail := by
  unfold cutV
  have e : HT.sIx xs.length 0 (some ((1 : Nat) : Int)) = min 1 xs.length := HT.sIx_nat _ _ 1
  have e' : HT.sIx xs.length 0 (some 1) = min 1 xs.length := e
  rw [e', HT.sIx_none]
  cases xs with
  | nil => rfl
  | cons a l =>
    have : min 1 (a :: l).length = 1 := by simp only [List.length_cons]; omega
    rw [this]
    show ((a :: l).drop 1).take ((a :: l).length - 1) = l
    rw [List.drop_one, List.tail_cons, List.length_cons, Nat.add_sub_cancel, List.take_length]
theorem cut_mid (xs : List V) (i n : Nat) (h : i + n ≤ xs.length) : cutV xs (some ((i : Nat) : Int)) (some (((i + n : Nat)) : Int)) = (xs.drop i).take n := by
  unfold cutV
  rw [HT.sIx_nat, HT.sIx_nat, Nat.min_eq_left h, Nat.min_eq_left (show i ≤ xs.length by omega), Nat.add_sub_cancel_left]
/-! ### the parts of the text that a def's proof asks for -/
section
variable (P : Program) (w : World) (K : PySem.W.Frag) (mg : Str → Option Value) (base : Heap)
/-- a def at the file's top -/
def FnAt (k : Nat) (x : Str) (ps : List Str) (sp : Sp) : Prop := ∃ (f : Addr) (fd : FuncData), FnOk P w K mg base CX0 k f fd ps sp ∧ mg x = some (.ref f) ∧ PySem.W.keepIn K (.ref f) = true ∧ Binds K fd ps []
/-- a method of the class at C -/
def MeAt (k : Nat) (C : Addr) (m : Str) (ps : List Str) (sp : Sp) : Prop := ∃ (f : Addr) (fd : FuncData), FnOk P w K mg base CX0 k f fd ps sp ∧ Meth K C m f ∧ Binds K fd ps []
/-- a class, to be made -/
def MkAt (k : Nat) (x : Str) (C : Addr) (ps : List Str) (sp : Sp) : Prop := ∃ (f : Addr) (fd : FuncData), FnOk P w K mg base CX0 k f fd ps sp ∧ Mk K C f ∧ mg x = some (.ref C) ∧ Binds K fd ps []
end
end My
set_option Elab.async false
set_option maxRecDepth 100000
set_option maxHeartbeats 4000000
namespace My
open PySem PySem.Spec PyProof.Rows L2
def top (i : Nat) : Stmt := PySem.Challenge.pw_handsigns_s01_answers.main.body.getD i (.Pass ⟨0, 0, 0, 0⟩)
abbrev sTurnBetween : Stmt := top 4
abbrev sLikeAtTheBeginning : Stmt := top 5
abbrev sCostsFromNothing : Stmt := top 6
abbrev sCostsWithOneMore : Stmt := top 7
abbrev sMeasure_Init : Stmt := inClass (top 8) 0
abbrev sMeasure_DistanceFrom : Stmt := inClass (top 8) 1
abbrev sReachBetween : Stmt := top 45
abbrev sSizeOf : Stmt := top 46
abbrev sKeptPoints : Stmt := top 47
abbrev sDirectionBetween : Stmt := top 48
abbrev sRowOf : Stmt := top 49
abbrev sIsName : Stmt := top 50
abbrev sSign_Init : Stmt := inClass (top 51) 0
abbrev sPad_Init : Stmt := inClass (top 52) 0
abbrev sPad_Begin : Stmt := inClass (top 52) 1
abbrev sPad_Move : Stmt := inClass (top 52) 2
abbrev sPad_Clear : Stmt := inClass (top 52) 3
abbrev sPad_Row : Stmt := inClass (top 52) 4
abbrev sPad_Teach : Stmt := inClass (top 52) 5
abbrev sPad_Forget : Stmt := inClass (top 52) 6
abbrev sPad_Know : Stmt := inClass (top 52) 7
abbrev sPad_Take : Stmt := inClass (top 52) 8
abbrev sPad_Back : Stmt := inClass (top 52) 9
abbrev sPad_Text : Stmt := inClass (top 52) 10
abbrev sPad_Count : Stmt := inClass (top 52) 11
abbrev sReader_Init : Stmt := inClass (top 53) 0
abbrev sReader_AtEnd : Stmt := inClass (top 53) 1
abbrev sReader_ReadNumber : Stmt := inClass (top 53) 2
abbrev sReader_ReadName : Stmt := inClass (top 53) 3
abbrev sCounted : Stmt := top 55
abbrev sAnswerOf : Stmt := top 56
abbrev sAnswers : Stmt := top 57
/-- what of the file's top the defs lean on: numbers, names of Python's own that mean what they mean -/
structure Txt (mg : Str → Option Value) : Prop where
  len : mg "len" = Option.none
  abs : mg "abs" = Option.none
  max : mg "max" = Option.none
  min : mg "min" = Option.none
  zip : mg "zip" = Option.none
  all : mg "all" = Option.none
  any : mg "any" = Option.none
  range : mg "range" = Option.none
  enumerate : mg "enumerate" = Option.none
  list : mg "list" = Option.none
  PUT_IN_COST : ∃ t, mg "PUT_IN_COST" = some (Value.int 2 t)
  LEFT_OUT_COST : ∃ t, mg "LEFT_OUT_COST" = some (Value.int 2 t)
  FULL_TURN : ∃ t, mg "FULL_TURN" = some (Value.int 8 t)
  BEGIN : ∃ t, mg "BEGIN" = some (Value.int 0 t)
  MOVE : ∃ t, mg "MOVE" = some (Value.int 1 t)
  CLEAR : ∃ t, mg "CLEAR" = some (Value.int 2 t)
  ROW : ∃ t, mg "ROW" = some (Value.int 3 t)
  TEACH : ∃ t, mg "TEACH" = some (Value.int 4 t)
  FORGET : ∃ t, mg "FORGET" = some (Value.int 5 t)
  KNOW : ∃ t, mg "KNOW" = some (Value.int 6 t)
  TAKE : ∃ t, mg "TAKE" = some (Value.int 7 t)
  BACK : ∃ t, mg "BACK" = some (Value.int 8 t)
  TEXT : ∃ t, mg "TEXT" = some (Value.int 9 t)
  COUNT : ∃ t, mg "COUNT" = some (Value.int 10 t)
  NOT_THERE : ∃ t, mg "NOT_THERE" = some (Value.int (-2) t)
  FULL : ∃ t, mg "FULL" = some (Value.int (-12) t)
  OUT_OF_RANGE : ∃ t, mg "OUT_OF_RANGE" = some (Value.int (-22) t)
  NONE_NEAR : ∃ t, mg "NONE_NEAR" = some (Value.int (-33) t)
  NOT_ONE_NAME : ∃ t, mg "NOT_ONE_NAME" = some (Value.int (-41) t)
  NO_DIRECTIONS : ∃ t, mg "NO_DIRECTIONS" = some (Value.int (-61) t)
  HIGHEST_LIMIT : ∃ t, mg "HIGHEST_LIMIT" = some (Value.int 1000 t)
  HIGHEST_PLACE : ∃ t, mg "HIGHEST_PLACE" = some (Value.int 1023 t)
  MOST_POINTS : ∃ t, mg "MOST_POINTS" = some (Value.int 64 t)
  MOST_SIGNS : ∃ t, mg "MOST_SIGNS" = some (Value.int 40 t)
  MOST_TAKEN : ∃ t, mg "MOST_TAKEN" = some (Value.int 100 t)
  LONGEST_NAME : ∃ t, mg "LONGEST_NAME" = some (Value.int 8 t)
  LETTER_A : ∃ t, mg "LETTER_A" = some (Value.int 97 t)
  LETTER_Z : ∃ t, mg "LETTER_Z" = some (Value.int 122 t)
  BLANK : ∃ t, mg "BLANK" = some (Value.int 32 t)
  PARTS_OF_SIZE : ∃ t, mg "PARTS_OF_SIZE" = some (Value.int 8 t)
  RIGHT : ∃ t, mg "RIGHT" = some (Value.int 0 t)
  RIGHT_DOWN : ∃ t, mg "RIGHT_DOWN" = some (Value.int 1 t)
  DOWN : ∃ t, mg "DOWN" = some (Value.int 2 t)
  LEFT_DOWN : ∃ t, mg "LEFT_DOWN" = some (Value.int 3 t)
  LEFT : ∃ t, mg "LEFT" = some (Value.int 4 t)
  LEFT_UP : ∃ t, mg "LEFT_UP" = some (Value.int 5 t)
  UP : ∃ t, mg "UP" = some (Value.int 6 t)
  RIGHT_UP : ∃ t, mg "RIGHT_UP" = some (Value.int 7 t)
end My
set_option Elab.async false
set_option maxRecDepth 100000
set_option maxHeartbeats 4000000
namespace My
open PySem PySem.Spec PyProof.Rows L2
open Ks319 (Point)
/-! ### the promises -/
def spReach : Sp := fun vs H Q _ => ∃ (a b : Addr) (p q : Point), vs = [.ref a, .ref b] ∧ PtAt H a p ∧ PtAt H b q ∧ Q (.int (Ks319.reach p q : Nat)) H
def spSize : Sp := fun vs H Q _ => ∃ (l : Addr) (xs : List V) (ps : List Point), vs = [.ref l] ∧ H l = some (.lst xs) ∧ PtsV H xs ps ∧ ps ≠ [] ∧ ps.length ≤ 64 ∧ ∀ H' : Hp, Same H H' → Q (.int (Ks319.size ps : Nat)) H'
def spKept : Sp := fun vs H Q _ => ∃ (l : Addr) (xs : List V) (ps : List Point), vs = [.ref l] ∧ H l = some (.lst xs) ∧ PtsV H xs ps ∧ ps.length ≤ 64 ∧ ∀ (H' : Hp) (k : Addr) (ys : List V), Same H H' → H k = Option.none → H' k = some (.lst ys) → PtsV H' ys (Ks319.kept ps) → Q (.ref k) H'
def spDir : Sp := fun vs H Q _ => ∃ (a b : Addr) (p q : Point), vs = [.ref a, .ref b] ∧ PtAt H a p ∧ PtAt H b q ∧ Q (.int (Ks319.direction p q : Nat)) H
def spRow : Sp := fun vs H Q _ => ∃ (l : Addr) (xs : List V) (ps : List Point), vs = [.ref l] ∧ H l = some (.lst xs) ∧ PtsV H xs ps ∧ ps.length ≤ 64 ∧ ∀ (H' : Hp) (r : Addr), Same H H' → H r = Option.none → H' r = some (.lst (vI (Ks319.row ps))) → Q (.ref r) H'
def spName : Sp := fun vs H Q _ => ∃ (a : Addr) (n : List Nat), vs = [.ref a] ∧ H a = some (.lst (vI n)) ∧ n.length ≤ 1000000 ∧ ∀ H' : Hp, Same H H' → Q (.bl (Ks321.okName n)) H'
section
variable {P : Program} {w : World} {K : PySem.W.Frag} {mg : Str → Option Value} {base : Heap}
/-! ### reach_between -/
theorem scReach : FnScope ["start", "end"] ["start", "end"] (defScope sReachBetween) := ⟨rfl, rfl, rfl, by decide +kernel, rfl, by decide +kernel, by decide +kernel⟩
theorem ok_reach {f : Addr} {fd : FuncData} (F : Fun K "reach_between" "reach_between" sReachBetween f fd) (T : Txt mg) : FnOk P w K mg base CX0 1 f fd ["start", "end"] spReach := by
  refine F.ok scReach (fun vs H Q E h => ?_) (fun cdv A outer s H vs Q E hr h => ?_)
  · obtain ⟨a, b, p, q, rfl, _⟩ := h
    rfl
  · obtain ⟨a, b, p, q, rfl, ha, hb, k⟩ := h
    refine ⟨_, pss_one (ps_ret (pe_callB (call_max2 rfl) (by rfl) T.max boot_max (pa_cons
      (pe_callB call_abs (by rfl) T.abs boot_abs (pa_cons (pe_op op_sub (pe_ix ix_tup (pv 1) pe_int (fun _ _ => rfl)) (pe_ix ix_tup (pv 0) pe_int (fun _ _ => rfl))) pa_nil))
      (pa_cons (pe_callB call_abs (by rfl) T.abs boot_abs (pa_cons (pe_op op_sub (pe_ix ix_tup (pv 1) pe_int (fun _ _ => rfl)) (pe_ix ix_tup (pv 0) pe_int (fun _ _ => rfl))) pa_nil)) pa_nil)))), ?_⟩
    refine ⟨_, rfl, b, _, _, _, rfl, rfl, SqT.of hb, atI_nat (j := 0) rfl, _, rfl, a, _, _, _, rfl, rfl, SqT.of ha, atI_nat (j := 0) rfl, _, _, rfl, rfl, _, rfl,
      _, rfl, b, _, _, _, rfl, rfl, SqT.of hb, atI_nat (j := 1) rfl, _, rfl, a, _, _, _, rfl, rfl, SqT.of ha, atI_nat (j := 1) rfl, _, _, rfl, rfl, _, rfl, _, _, rfl, ?_⟩
    rw [← reachI] at k
    exact k
/-! ### direction_between -/
theorem scDir : FnScope ["start", "end", "right", "down"] ["start", "end"] (defScope sDirectionBetween) := ⟨rfl, rfl, rfl, by decide +kernel, rfl, by decide +kernel, by decide +kernel⟩
theorem ok_dir {f : Addr} {fd : FuncData} (F : Fun K "direction_between" "direction_between" sDirectionBetween f fd) (T : Txt mg) : FnOk P w K mg base CX0 1 f fd ["start", "end"] spDir := by
  refine F.ok scDir (fun vs H Q E h => ?_) (fun cdv A outer s H vs Q E hr h => ?_)
  · obtain ⟨a, b, p, q, rfl, _⟩ := h
    rfl
  · obtain ⟨a, b, p, q, rfl, ha, hb, k⟩ := h
    refine ⟨_, pss_cons (ps_set (i := 2) scDir.nd rfl (Or.inl rfl) (pe_op op_sub (pe_ix ix_tup (pv 1) pe_int (fun _ _ => rfl)) (pe_ix ix_tup (pv 0) pe_int (fun _ _ => rfl))))
      (pss_cons (ps_set (i := 3) scDir.nd rfl (Or.inl rfl) (pe_op op_sub (pe_ix ix_tup (pv 1) pe_int (fun _ _ => rfl)) (pe_ix ix_tup (pv 0) pe_int (fun _ _ => rfl))))
      (pss_cons (ps_if (pt_cmpR op_ge (pe_callB call_abs (by rfl) T.abs boot_abs (pa_cons (pv 2) pa_nil)) (pe_op op_mul pe_int (pe_callB call_abs (by rfl) T.abs boot_abs (pa_cons (pv 3) pa_nil))) (nomark _))
        (pss_one (ps_ret (pe_ifExp (pt_cmpR op_gt (pv 2) pe_int (nomark _)) (pe_gint (by rfl) T.RIGHT) (pe_gint (by rfl) T.LEFT)))) pss_nil)
      (pss_cons (ps_if (pt_cmpR op_ge (pe_callB call_abs (by rfl) T.abs boot_abs (pa_cons (pv 3) pa_nil)) (pe_op op_mul pe_int (pe_callB call_abs (by rfl) T.abs boot_abs (pa_cons (pv 2) pa_nil))) (nomark _))
        (pss_one (ps_ret (pe_ifExp (pt_cmpR op_gt (pv 3) pe_int (nomark _)) (pe_gint (by rfl) T.DOWN) (pe_gint (by rfl) T.UP)))) pss_nil)
      (pss_cons (ps_if (pt_cmpR op_gt (pv 2) pe_int (nomark _))
        (pss_one (ps_ret (pe_ifExp (pt_cmpR op_gt (pv 3) pe_int (nomark _)) (pe_gint (by rfl) T.RIGHT_DOWN) (pe_gint (by rfl) T.RIGHT_UP)))) pss_nil)
      (pss_one (ps_ret (pe_ifExp (pt_cmpR op_gt (pv 3) pe_int (nomark _)) (pe_gint (by rfl) T.LEFT_DOWN) (pe_gint (by rfl) T.LEFT_UP)))))))), ?_⟩
    have m2 : ∀ j : Int, CMul 2 j := fun j => .inl ⟨by decide, by decide⟩
    rw [← dirI_eq] at k
    unfold dirI dirV at k
    refine ⟨_, rfl, b, _, _, _, rfl, rfl, SqT.of hb, atI_nat (j := 0) rfl, _, rfl, a, _, _, _, rfl, rfl, SqT.of ha, atI_nat (j := 0) rfl, _, _, rfl, rfl,
      _, rfl, b, _, _, _, rfl, rfl, SqT.of hb, atI_nat (j := 1) rfl, _, rfl, a, _, _, _, rfl, rfl, SqT.of ha, atI_nat (j := 1) rfl, _, _, rfl, rfl,
      _, rfl, _, rfl, _, rfl, _, rfl, _, _, rfl, rfl, m2 _, _, _, rfl, rfl, _, rfl, ?_⟩
    refine ite2 (fun h1 => ?_) (fun h1 => ?_)
    · have h1 := of_decide_eq_true h1
      rw [if_pos h1] at k
      refine ⟨_, rfl, _, _, rfl, rfl, _, rfl, ite2 (fun h2 => ?_) (fun h2 => ?_)⟩
      · rw [if_pos (of_decide_eq_true h2)] at k
        exact k
      · rw [if_neg (fun z => h2 (decide_eq_true z))] at k
        exact k
    · rw [if_neg (fun z => h1 (decide_eq_true z))] at k
      refine ⟨_, rfl, _, rfl, _, rfl, _, rfl, _, _, rfl, rfl, m2 _, _, _, rfl, rfl, _, rfl, ite2 (fun h3 => ?_) (fun h3 => ?_)⟩
      · rw [if_pos (of_decide_eq_true h3)] at k
        refine ⟨_, rfl, _, _, rfl, rfl, _, rfl, ite2 (fun h2 => ?_) (fun h2 => ?_)⟩
        · rw [if_pos (of_decide_eq_true h2)] at k
          exact k
        · rw [if_neg (fun z => h2 (decide_eq_true z))] at k
          exact k
      · rw [if_neg (fun z => h3 (decide_eq_true z))] at k
        refine ⟨_, rfl, _, _, rfl, rfl, _, rfl, ite2 (fun h4 => ?_) (fun h4 => ?_)⟩
        · rw [if_pos (of_decide_eq_true h4)] at k
          refine ⟨_, rfl, _, _, rfl, rfl, _, rfl, ite2 (fun h2 => ?_) (fun h2 => ?_)⟩
          · rw [if_pos (of_decide_eq_true h2)] at k
            exact k
          · rw [if_neg (fun z => h2 (decide_eq_true z))] at k
            exact k
        · rw [if_neg (fun z => h4 (decide_eq_true z))] at k
          refine ⟨_, rfl, _, _, rfl, rfl, _, rfl, ite2 (fun h2 => ?_) (fun h2 => ?_)⟩
          · rw [if_pos (of_decide_eq_true h2)] at k
            exact k
          · rw [if_neg (fun z => h2 (decide_eq_true z))] at k
            exact k
/-! ### size_of -/
theorem scSize : FnScope ["points", "across", "along", "point"] ["points"] (defScope sSizeOf) := ⟨rfl, rfl, rfl, by decide +kernel, rfl, by decide +kernel, by decide +kernel⟩
theorem ok_size {f : Addr} {fd : FuncData} (F : Fun K "size_of" "size_of" sSizeOf f fd) (T : Txt mg) : FnOk P w K mg base CX0 1 f fd ["points"] spSize := by
  refine F.ok scSize (fun vs H Q E h => ?_) (fun cdv A outer s H vs Q E hr h => ?_)
  · obtain ⟨l, xs, ps, rfl, _⟩ := h
    rfl
  · obtain ⟨l, xs, ps, rfl, hl, hp, hne, h64, k⟩ := h
    have hlen := hp.length
    refine ⟨_, pss_cons (ps_setLc (i := 1) (own := [("point", 3)]) (te := tOp (rIxT K) (tVar 3) (tC (.int 0))) rfl scSize.nd rfl rfl (sw_true rfl rfl rfl rfl) (pi_list (pv 0)) (blkOk_by (by change blkC ["points", "across", "along", "point"] (defScope sSizeOf) _ _ = true; decide +kernel)) (fun _ _ _ _ _ => pg_name (i := 3) scSize.nd rfl (Or.inl rfl)) (fun _ _ _ _ _ => pts_nil)
        (fun _ _ _ _ _ => pe_ix ix_tup (pv 3) pe_int (fun _ _ => rfl)))
      (pss_cons (ps_setLc (i := 2) (own := [("point", 3)]) (te := tOp (rIxT K) (tVar 3) (tC (.int 1))) rfl scSize.nd rfl rfl (sw_true rfl rfl rfl rfl) (pi_list (pv 0)) (blkOk_by (by change blkC ["points", "across", "along", "point"] (defScope sSizeOf) _ _ = true; decide +kernel)) (fun _ _ _ _ _ => pg_name (i := 3) scSize.nd rfl (Or.inl rfl)) (fun _ _ _ _ _ => pts_nil)
        (fun _ _ _ _ _ => pe_ix ix_tup (pv 3) pe_int (fun _ _ => rfl)))
      (pss_one (ps_ret (pe_callB (call_max2 rfl) (by rfl) T.max boot_max (pa_cons
        (pe_op op_sub (pe_callB (cr_max rfl) (by rfl) T.max boot_max (pa_cons (pv 1) pa_nil)) (pe_callB (cr_min rfl) (by rfl) T.min boot_min (pa_cons (pv 1) pa_nil)))
        (pa_cons (pe_op op_sub (pe_callB (cr_max rfl) (by rfl) T.max boot_max (pa_cons (pv 2) pa_nil)) (pe_callB (cr_min rfl) (by rfl) T.min boot_min (pa_cons (pv 2) pa_nil))) pa_nil)))))), ?_⟩
    refine ⟨_, rfl, l, rfl, ⟨_, SqL.of hl⟩, fun D hD => ?_⟩
    refine lc_list (K := K) (a := l) (xs := xs) (fun i H' => Same H H' ∧ H' D = some (.lst (vI ((ps.take i).map Prod.fst)))) ⟨same_new hD, upd_same⟩ (fun i H' _ ⟨s5, _⟩ => SqL.of (s5 _ _ hl)) ?_ ?_
    · rintro i x H' hi ⟨s5, h5⟩
      obtain ⟨p, hpi, a, rfl, pa⟩ := paired_get hp hi
      refine ⟨rfl, _, rfl, a, _, _, _, rfl, rfl, SqT.of (s5 _ _ pa), atI_nat (j := 0) rfl, _, h5, ?_, same_upd s5 hD, ?_⟩
      · rw [vI_length, List.length_map, List.length_take]
        exact small_size (by omega)
      · rw [upd_same, take_snoc hpi, List.map_append, List.map_cons, List.map_nil, vI_snoc]
    · rintro H1 ⟨s1, h1⟩
      rw [hlen, List.take_length] at h1
      refine ⟨_, rfl, l, rfl, ⟨_, SqL.of (s1 _ _ hl)⟩, fun D2 hD2 => ?_⟩
      refine lc_list (K := K) (a := l) (xs := xs) (fun i H' => Same H1 H' ∧ H' D2 = some (.lst (vI ((ps.take i).map Prod.snd)))) ⟨same_new hD2, upd_same⟩ (fun i H' _ ⟨s5, _⟩ => SqL.of (s5 _ _ (s1 _ _ hl))) ?_ ?_
      · rintro i x H' hi ⟨s5, h5⟩
        obtain ⟨p, hpi, a, rfl, pa⟩ := paired_get hp hi
        refine ⟨rfl, _, rfl, a, _, _, _, rfl, rfl, SqT.of (s5 _ _ (s1 _ _ pa)), atI_nat (j := 1) rfl, _, h5, ?_, same_upd s5 hD2, ?_⟩
        · rw [vI_length, List.length_map, List.length_take]
          exact small_size (by omega)
        · rw [upd_same, take_snoc hpi, List.map_append, List.map_cons, List.map_nil, vI_snoc]
      · rintro H2 ⟨s2, h2⟩
        rw [hlen, List.take_length] at h2
        have h1' := s2 _ _ h1
        have n1 : 0 < (ofN (ps.map Prod.fst)).length := by
          rw [List.length_map, List.length_map]
          exact List.length_pos_iff.mpr hne
        have n2 : 0 < (ofN (ps.map Prod.snd)).length := by
          rw [List.length_map, List.length_map]
          exact List.length_pos_iff.mpr hne
        refine ⟨_, rfl, D, _, rfl, SqL.of h1', n1, fun m1 a1 b1 => ⟨_, rfl, D, _, rfl, SqL.of h1', n1, fun m2 a2 b2 => ⟨_, _, rfl, rfl,
          _, rfl, D2, _, rfl, SqL.of h2, n2, fun m3 a3 b3 => ⟨_, rfl, D2, _, rfl, SqL.of h2, n2, fun m4 a4 b4 => ⟨_, _, rfl, rfl, _, _, rfl, ?_⟩⟩⟩⟩⟩
        have k' := k H2 (s1.trans s2)
        rw [← sizeI hne (max_is a1 b1) (min_is a2 b2) (max_is a3 b3) (min_is a4 b4)] at k'
        exact k'
end
end My
set_option Elab.async false
set_option maxRecDepth 100000
set_option maxHeartbeats 4000000
namespace My
open PySem PySem.Spec PyProof.Rows L2
open Ks319 (Point)
section
variable {P : Program} {w : World} {K : PySem.W.Frag} {mg : Str → Option Value} {base : Heap}
/-! ### kept_points -/
theorem scKept : FnScope ["points", "size", "kept", "point", "reach"] ["points"] (defScope sKeptPoints) := ⟨rfl, rfl, rfl, by decide +kernel, rfl, by decide +kernel, by decide +kernel⟩
theorem ok_kept {f : Addr} {fd : FuncData} (F : Fun K "kept_points" "kept_points" sKeptPoints f fd) (T : Txt mg) (hSize : FnAt P w K mg base 1 "size_of" ["points"] spSize) (hReach : FnAt P w K mg base 1 "reach_between" ["start", "end"] spReach) : FnOk P w K mg base CX0 2 f fd ["points"] spKept := by
  obtain ⟨fS, fdS, GS, mS, kS, bS⟩ := hSize
  obtain ⟨fR, fdR, GR, mR, kR, bR⟩ := hReach
  refine F.ok scKept (fun vs H Q E h => ?_) (fun cdv A outer s H vs Q E hr h => ?_)
  · obtain ⟨l, xs, ps, rfl, _⟩ := h
    rfl
  · obtain ⟨l, xs, ps, rfl, hl, hp, h64, k⟩ := h
    have hlen := hp.length
    refine ⟨_, pss_cons (ps_if (pt_cmpR op_eq (pe_callB call_len_seq (by rfl) T.len PySem.boot_len (pa_cons (pv 0) pa_nil)) pe_int (nomark _)) (pss_one (ps_ret (pe_lst pa_nil))) pss_nil)
      (pss_cons (ps_set (i := 1) scKept.nd rfl (Or.inl rfl) (pe_call GS hr rfl mS kS bS .nil pass0 (pa_cons (pv 0) pa_nil)))
      (pss_cons (ps_set (i := 2) scKept.nd rfl (Or.inl rfl) (pe_lst (pa_cons (pe_ix ix_list (pv 0) pe_int (fun _ _ => rfl)) pa_nil)))
      (pss_cons (ps_for PassesOwn.never rfl (pi_list (pv 0)) (pg_name (i := 3) scKept.nd rfl (Or.inl rfl))
        (pss_cons (ps_set (i := 4) scKept.nd rfl (Or.inl rfl) (pe_call GR hr rfl mR kR bR .nil pass0 (pa_cons (pe_ix ix_list (pv 2) (pe_un un_neg pe_int) (fun _ _ => rfl)) (pa_cons (pv 3) pa_nil))))
        (pss_one (ps_if (pw_and (pt_cmpR op_gt (pv 4) pe_int (nomark _)) (pw_and1 (pt_cmpR op_ge (pe_op op_mul (pv 4) (pe_gint (by rfl) T.PARTS_OF_SIZE)) (pv 1) (nomark _)))).pt
          (pss_one (ps_expr (pe_bm PySem.F.plainAttrs_list PySem.F.slot_list_append PySem.F.type_list_append mt_append (pv 2) (pa_cons (pv 3) pa_nil)))) pss_nil))))
      (pss_one (ps_ret (pv 2)))))), ?_⟩
    refine ⟨_, rfl, l, _, rfl, .inl (SqL.of hl), rfl, _, rfl, ite2 (fun h0 => ?_) (fun h0 => ?_)⟩
    · have h0 := V.int.inj (of_decide_eq_true h0)
      have e0 : ps = [] := List.eq_nil_of_length_eq_zero (by omega)
      subst e0
      exact ⟨Nat.zero_le _, fun q hq => k _ q [] (same_new hq) hq upd_same .nil⟩
    · cases ps with
      | nil =>
        exfalso
        apply h0
        have : xs.length = 0 := hlen
        rw [this]
        rfl
      | cons p0 r0 =>
        obtain ⟨v0, hv0, a0, rfl, pa0⟩ := pair_get' hp (i := 0) (b := p0) rfl
        refine ⟨_, rfl, l, xs, p0 :: r0, rfl, hl, hp, List.cons_ne_nil _ _, h64, fun H1 s1 => ?_⟩
        refine ⟨_, rfl, l, _, _, _, rfl, rfl, SqL.of (s1 _ _ hl), atI_nat (j := 0) hv0, (by show 1 ≤ sizeLine; decide), fun D hD => ?_⟩
        have nD : H D = Option.none := s1.free hD
        have s2 : Same H (upd H1 D (.lst [.ref a0])) := same_upd s1 nD
        refine ⟨_, rfl, l, rfl, ⟨_, SqL.of (s2 _ _ hl)⟩, for_list (K := K) (a := l) (xs := xs) (fun i σ H' => ∃ (v3 v4 : Option V) (ks : List Point) (last : Point) (ys : List V), σ = [some (.ref l), some (.int ((Ks319.size (p0 :: r0) : Nat) : Int)), some (.ref D), v3, v4] ∧ Same H H' ∧ H' D = some (.lst ys) ∧ PtsV H' ys (ks ++ [last]) ∧ (ks ++ [last]) ++ Ks319.keep (Ks319.size (p0 :: r0)) last ((p0 :: r0).drop i) = Ks319.kept (p0 :: r0))
          ⟨none, none, [], p0, [.ref a0], rfl, s2, upd_same, .cons ⟨a0, rfl, s2 _ _ pa0⟩ .nil, (kept_self p0 r0).symm⟩ (fun i σ H' _ ⟨_, _, _, _, _, _, s5, _⟩ => SqL.of (s5 _ _ hl)) ?_ ?_⟩
        · rintro i y σ H' hi ⟨v3, v4, ks, last, ys, rfl, s5, hys, hks, heq⟩
          obtain ⟨p, hpi, a, rfl, pa⟩ := paired_get hp hi
          obtain ⟨zs, z, rfl, ⟨b, rfl, pb⟩, hzs⟩ := pair_last hks
          rw [drop_at hpi] at heq
          have lz : zs.length + 1 ≤ 65 := by
            have h1 := hks.length
            have h2 := congrArg List.length heq
            have h3 := kept_length (p0 :: r0)
            rw [List.length_append] at h1 h2
            simp only [List.length_append, List.length_cons, List.length_nil] at h1 h2 h3 h64
            omega
          refine ⟨_, rfl, _, rfl, D, _, _, _, rfl, rfl, SqL.of hys, atI_last _ _, _, rfl, b, a, last, p, rfl, pb, s5 _ _ pa, ?_⟩
          refine ⟨_, rfl, _, _, rfl, rfl, _, rfl, ite2 (fun h1 => ?_) (fun h1 => ?_)⟩
          · refine ⟨_, rfl, _, _, rfl, rfl, .inr ⟨by decide, by decide⟩, _, rfl, _, _, rfl, rfl, _, rfl, ite2 (fun h2 => ?_) (fun h2 => ?_)⟩
            · have h1 := of_decide_eq_true h1
              have h2 := of_decide_eq_true h2
              rw [keep_yes (by omega) (by omega)] at heq
              refine ⟨_, rfl, .inl ⟨rfl, _, SqL.of hys⟩, _, rfl, D, _, _, rfl, rfl, hys, ?_, ?_⟩
              · rw [List.length_append]
                exact small_size (by simp only [List.length_cons, List.length_nil]; omega)
              · refine ⟨_, _, ks ++ [last], p, _, rfl, same_upd s5 nD, upd_same, ?_, ?_⟩
                · have s6 : Same H' (upd H' D (.lst (zs ++ [.ref b] ++ [.ref a]))) → True := fun _ => trivial
                  refine Paired.snoc (Paired.mapP hks fun v q ⟨c, e, hc⟩ => ⟨c, e, ?_⟩) ⟨a, rfl, ?_⟩
                  · show upd H' D _ c = _
                    rw [upd_ne (ne_of hc hys (by intro z; cases z))]
                    exact hc
                  · show upd H' D _ a = _
                    rw [upd_ne (ne_of (s5 _ _ pa) hys (by intro z; cases z))]
                    exact s5 _ _ pa
                · rw [← heq, List.append_assoc (ks ++ [last])]
                  rfl
            · have h1 := of_decide_eq_true h1
              have h2 : ¬ _ := fun z => h2 (decide_eq_true z)
              rw [keep_no (by omega)] at heq
              exact ⟨_, _, ks, last, _, rfl, s5, hys, hks, heq⟩
          · have h1 : ¬ _ := fun z => h1 (decide_eq_true z)
            rw [keep_no (by omega)] at heq
            refine iteF ?_
            exact ⟨_, _, ks, last, _, rfl, s5, hys, hks, heq⟩
        · rintro σ H2 ⟨v3, v4, ks, last, ys, rfl, s5, hys, hks, heq⟩
          rw [hlen, List.drop_length] at heq
          have heq : (ks ++ [last]) ++ [] = Ks319.kept (p0 :: r0) := heq
          rw [List.append_nil] at heq
          rw [heq] at hks
          exact ⟨_, rfl, k H2 D ys s5 nD hys hks⟩
/-! ### row_of -/
theorem scRow : FnScope ["points", "kept", "directions", "start", "end", "direction"] ["points"] (defScope sRowOf) := ⟨rfl, rfl, rfl, by decide +kernel, rfl, by decide +kernel, by decide +kernel⟩
theorem push_yes {acc : List Nat} {d : Nat} (h : acc = [] ∨ ∃ m a, acc = m ++ [a] ∧ a ≠ d) : push acc d = acc ++ [d] := by
  unfold push
  rcases h with rfl | ⟨m, a, rfl, h⟩
  · rfl
  · rw [List.getLast?_concat, if_neg (fun q => h (Option.some.inj q))]
theorem push_no {m : List Nat} {d : Nat} : push (m ++ [d]) d = m ++ [d] := by
  unfold push
  rw [List.getLast?_concat, if_pos rfl]
theorem ok_row {f : Addr} {fd : FuncData} (F : Fun K "row_of" "row_of" sRowOf f fd) (T : Txt mg) (hKept : FnAt P w K mg base 2 "kept_points" ["points"] spKept) (hDir : FnAt P w K mg base 1 "direction_between" ["start", "end"] spDir) : FnOk P w K mg base CX0 3 f fd ["points"] spRow := by
  obtain ⟨fS, fdS, GS, mS, kS, bS⟩ := hKept
  obtain ⟨fR, fdR, GR, mR, kR, bR⟩ := hDir
  refine F.ok scRow (fun vs H Q E h => ?_) (fun cdv A outer s H vs Q E hr h => ?_)
  · obtain ⟨l, xs, ps, rfl, _⟩ := h
    rfl
  · obtain ⟨l, xs, ps, rfl, hl, hp, h64, k⟩ := h
    have hr1 : Room 1 _ := hr.mono (by decide)
    refine ⟨_, pss_cons (ps_set (i := 1) scRow.nd rfl (Or.inl rfl) (pe_call GS hr rfl mS kS bS .nil pass0 (pa_cons (pv 0) pa_nil)))
      (pss_cons (ps_set (i := 2) scRow.nd rfl (Or.inl rfl) (pe_lst pa_nil))
      (pss_cons (ps_for PassesOwn.never rfl (pi_zip (by rfl) T.zip (pa_cons (pv 1) (pa_cons (pe_slice sl_list (pv 1) (po_some pe_int) po_none) pa_nil)))
          (pg_tup rfl (pgs_cons (pg_name (i := 3) scRow.nd rfl (Or.inl rfl)) (pgs_cons (pg_name (i := 4) scRow.nd rfl (Or.inl rfl)) pgs_nil)))
        (pss_cons (ps_set (i := 5) scRow.nd rfl (Or.inl rfl) (pe_call GR hr1 rfl mR kR bR .nil pass0 (pa_cons (pv 3) (pa_cons (pv 4) pa_nil))))
        (pss_one (ps_if (pw_or (pt_cmpR op_eq (pe_callB call_len_seq (by rfl) T.len PySem.boot_len (pa_cons (pv 2) pa_nil)) pe_int (nomark _)) (pw_or1 (pt_cmpR op_ne (pe_ix ix_list (pv 2) (pe_un un_neg pe_int) (fun _ _ => rfl)) (pv 5) (nomark _)))).pt
          (pss_one (ps_expr (pe_bm PySem.F.plainAttrs_list PySem.F.slot_list_append PySem.F.type_list_append mt_append (pv 2) (pa_cons (pv 5) pa_nil)))) pss_nil))))
      (pss_one (ps_ret (pv 2))))), ?_⟩
    refine ⟨_, rfl, l, xs, ps, rfl, hl, hp, h64, fun H1 kl ys s1 nk hk hkp => ?_⟩
    refine ⟨Nat.zero_le _, fun D hD => ?_⟩
    have nD : H D = Option.none := s1.free hD
    have s2 : Same H1 (upd H1 D (.lst [])) := same_new hD
    refine ⟨_, rfl, _, rfl, _, rfl, kl, _, rfl, SqL.of (s2 _ _ hk), fun Z hZ => ⟨kl, Z, ys, ys.tail, rfl, SqL.of (same_new hZ _ _ (s2 _ _ hk)), SqL.of (by rw [cut_tail]; exact upd_same), ?_⟩⟩
    have nZ : H Z = Option.none := s1.free (s2.free hZ)
    have nZD : Z ≠ D := fun e => by
      rw [e, upd_same] at hZ
      cases hZ
    have s3 : Same H1 (upd (upd H1 D (.lst [])) Z (.lst (cutV ys (some 1) Option.none))) := s2.trans (same_new hZ)
    have klen := hkp.length
    have kle := kept_length ps
    refine for_zip (K := K) (a := kl) (b := Z) (xs := ys) (ys := ys.tail) (fun i σ H' => ∃ (v3 v4 v5 : Option V), σ = [some (.ref l), some (.ref kl), some (.ref D), v3, v4, v5] ∧ Same H1 H' ∧ H' Z = some (.lst ys.tail) ∧ H' D = some (.lst (vI (((((Ks319.kept ps).zip (Ks319.kept ps).tail).map (fun x => Ks319.direction x.1 x.2)).take i).foldl push []))))
      ⟨none, none, none, rfl, s3, by rw [cut_tail]; exact upd_same, by rw [upd_ne (fun e => nZD e.symm)]; exact upd_same⟩ (fun i σ H' ⟨_, _, _, _, s5, hz, _⟩ => ⟨SqL.of (s5 _ _ hk), SqL.of hz⟩) ?_ ?_
    · rintro i x y σ H' q hx hy ⟨v3, v4, v5, rfl, s5, hz, hd⟩ hq
      obtain ⟨p1, hp1, a1, rfl, pa1⟩ := paired_get hkp hx
      obtain ⟨p2, hp2, a2, rfl, pa2⟩ := paired_get (pair_tail hkp) hy
      have s6 : Same H' (upd H' q (.tup [.ref a1, .ref a2])) := same_new hq
      have hzip : (((Ks319.kept ps).zip (Ks319.kept ps).tail).map (fun x => Ks319.direction x.1 x.2))[i]? = some (Ks319.direction p1 p2) := by
        have hz2 : ((Ks319.kept ps).zip (Ks319.kept ps).tail)[i]? = some (p1, p2) := List.getElem?_zip_eq_some.mpr ⟨hp1, hp2⟩
        rw [List.getElem?_map, hz2]
        rfl
      generalize hacc : (((((Ks319.kept ps).zip (Ks319.kept ps).tail).map (fun x => Ks319.direction x.1 x.2)).take i).foldl push []) = acc at hd
      have hstep : (((((Ks319.kept ps).zip (Ks319.kept ps).tail).map (fun x => Ks319.direction x.1 x.2)).take (i + 1)).foldl push []) = push acc (Ks319.direction p1 p2) := by
        rw [take_snoc hzip, List.foldl_append, hacc]
        rfl
      have lacc : acc.length ≤ 64 := by
        have h1 := foldl_push_length ((((Ks319.kept ps).zip (Ks319.kept ps).tail).map (fun x => Ks319.direction x.1 x.2)).take i) []
        rw [hacc, List.length_take, List.length_map, List.length_zip] at h1
        have h2 : ([] : List Nat).length = 0 := rfl
        omega
      refine ⟨q, _, rfl, SqT.of upd_same, rfl, _, _, rfl, _, _, rfl, rfl, ?_⟩
      refine ⟨_, rfl, _, rfl, a1, a2, p1, p2, rfl, s6 _ _ (s5 _ _ pa1), s6 _ _ (s5 _ _ pa2), ?_⟩
      refine ⟨_, rfl, D, _, rfl, .inl (SqL.of (s6 _ _ hd)), rfl, _, rfl, ite2 (fun h1 => ?_) (fun h1 => ?_)⟩
      · have h1 := V.int.inj (of_decide_eq_true h1)
        rw [vI_length] at h1
        have e0 : acc = [] := List.eq_nil_of_length_eq_zero (by omega)
        refine iteT ⟨_, rfl, .inl ⟨rfl, _, SqL.of (s6 _ _ hd)⟩, _, rfl, D, _, _, rfl, rfl, s6 _ _ hd, ?_, ?_⟩
        · rw [vI_length]
          exact small_size (by omega)
        · refine ⟨_, _, _, rfl, ?_, ?_, ?_⟩
          · exact same_upd (s5.trans s6) hD
          · rw [upd_ne nZD]
            exact s6 _ _ hz
          · rw [upd_same, hstep, push_yes (.inl e0), vI_snoc]
      · have h1 : ¬ acc = [] := fun e => h1 (by rw [e]; rfl)
        obtain ⟨m, b, rfl⟩ : ∃ m b, acc = m ++ [b] := ⟨_, _, (List.dropLast_concat_getLast h1).symm⟩
        rw [vI_snoc] at hd
        refine ⟨_, rfl, _, rfl, D, _, _, _, rfl, rfl, SqL.of (s6 _ _ hd), atI_last _ _, _, rfl, rfl, _, rfl, ite2 (fun h2 => ?_) (fun h2 => ?_)⟩
        · have h2 : b ≠ Ks319.direction p1 p2 := fun e => by
            rw [e, decide_eq_true rfl] at h2
            cases h2
          refine ⟨_, rfl, .inl ⟨rfl, _, SqL.of (s6 _ _ hd)⟩, _, rfl, D, _, _, rfl, rfl, s6 _ _ hd, ?_, ?_⟩
          · rw [← vI_snoc, vI_length]
            exact small_size (by omega)
          · refine ⟨_, _, _, rfl, ?_, ?_, ?_⟩
            · exact same_upd (s5.trans s6) hD
            · rw [upd_ne nZD]
              exact s6 _ _ hz
            · rw [upd_same, hstep, push_yes (.inr ⟨m, b, rfl, h2⟩), vI_snoc, vI_snoc]
        · have h2 : b = Ks319.direction p1 p2 := by
            apply Decidable.byContradiction
            intro e
            apply h2
            rw [decide_eq_false (fun z => e (by have := V.int.inj z; omega))]
            rfl
          refine ⟨_, _, _, rfl, s5.trans s6, s6 _ _ hz, ?_⟩
          rw [hstep, h2, push_no, vI_snoc, ← h2]
          exact s6 _ _ hd
    · rintro σ H2 ⟨v3, v4, v5, rfl, s5, hz, hd⟩
      have e : min ys.length ys.tail.length = (((Ks319.kept ps).zip (Ks319.kept ps).tail).map (fun x => Ks319.direction x.1 x.2)).length := by
        rw [List.length_map, List.length_zip, List.length_tail, List.length_tail, klen]
      rw [e, List.take_length, row_is] at hd
      exact ⟨_, rfl, k H2 D (s1.trans s5) nD hd⟩
/-! ### is_name -/
theorem scName : FnScope ["name", "byte"] ["name"] (defScope sIsName) := ⟨rfl, rfl, rfl, by decide +kernel, rfl, by decide +kernel, by decide +kernel⟩
theorem ok_name {f : Addr} {fd : FuncData} (F : Fun K "is_name" "is_name" sIsName f fd) (T : Txt mg) : FnOk P w K mg base CX0 1 f fd ["name"] spName := by
  refine F.ok scName (fun vs H Q E h => ?_) (fun cdv A outer s H vs Q E hr h => ?_)
  · obtain ⟨a, n, rfl, _⟩ := h
    rfl
  · obtain ⟨a, n, rfl, ha, hn, k⟩ := h
    rw [okName_is] at k
    refine ⟨_, pss_cons (ps_if (pw_or (pt_cmpR op_lt (pe_callB call_len_seq (by rfl) T.len PySem.boot_len (pa_cons (pv 0) pa_nil)) pe_int (nomark _)) (pw_or1 (pt_cmpR op_gt (pe_callB call_len_seq (by rfl) T.len PySem.boot_len (pa_cons (pv 0) pa_nil)) (pe_gint (by rfl) T.LONGEST_NAME) (nomark _)))).pt
        (pss_one (ps_ret pe_bl)) pss_nil)
      (pss_one (ps_ret (pe_callB (cr_all rfl) (by rfl) T.all boot_all (pa_cons (pe_lc (own := [("byte", 1)]) rfl scName.nd (pi_list (pv 0)) (blkOk_by (by change blkC ["name", "byte"] (defScope sIsName) _ _ = true; decide +kernel)) (fun _ _ _ _ _ => pg_name (i := 1) scName.nd rfl (Or.inl rfl)) (fun _ _ _ _ _ => pts_nil)
        (fun _ _ _ _ _ => pe_chain op_le op_le (pe_gint (by rfl) T.LETTER_A) (pv 1) (pe_gint (by rfl) T.LETTER_Z))) pa_nil)))), ?_⟩
    refine ⟨_, rfl, a, _, rfl, .inl (SqL.of ha), _, _, rfl, rfl, _, rfl, ite2 (fun h1 => ?_) (fun h1 => ?_)⟩
    · have h1 := of_decide_eq_true h1
      rw [vI_length] at h1
      refine iteT ?_
      have k' := k H (Same.refl H)
      rw [decide_eq_false (show ¬ 1 ≤ n.length by omega)] at k'
      exact k'
    · have h1 : ¬ _ := fun z => h1 (decide_eq_true z)
      rw [vI_length] at h1
      refine ⟨_, rfl, a, _, rfl, .inl (SqL.of ha), _, _, rfl, rfl, _, rfl, ite2 (fun h2 => ?_) (fun h2 => ?_)⟩
      · have h2 := of_decide_eq_true h2
        rw [vI_length] at h2
        have k' := k H (Same.refl H)
        rw [decide_eq_false (show ¬ n.length ≤ 8 by omega), Bool.and_false] at k'
        exact k'
      · have h2 : ¬ _ := fun z => h2 (decide_eq_true z)
        rw [vI_length] at h2
        rw [decide_eq_true (show 1 ≤ n.length by omega), decide_eq_true (show n.length ≤ 8 by omega)] at k
        refine ⟨_, rfl, a, rfl, ⟨_, SqL.of ha⟩, fun D hD => ?_⟩
        refine lc_list (K := K) (a := a) (xs := vI n) (fun i H' => Same H H' ∧ H' D = some (.lst (((n.map fun b => decide (97 ≤ b) && decide (b ≤ 122)).take i).map V.bl))) ⟨same_new hD, upd_same⟩ (fun i H' _ ⟨s5, _⟩ => SqL.of (s5 _ _ ha)) ?_ ?_
        · rintro i x H' hi ⟨s5, h5⟩
          obtain ⟨b, hb, rfl⟩ := vI_get hi
          have hbm : (n.map fun b => decide (97 ≤ b) && decide (b ≤ 122))[i]? = some (decide (97 ≤ b) && decide (b ≤ 122)) := by
            rw [List.getElem?_map, hb]
            rfl
          have sz : (((n.map fun b => decide (97 ≤ b) && decide (b ≤ 122)).take i).map V.bl).length < sizeLine := by
            rw [List.length_map, List.length_take, List.length_map]
            exact small_size (by omega)
          refine ⟨rfl, _, rfl, _, _, rfl, rfl, _, rfl, ite2 (fun h3 => ?_) (fun h3 => ?_)⟩
          · have h3 := of_decide_eq_true h3
            refine ⟨_, _, rfl, rfl, _, h5, sz, same_upd s5 hD, ?_⟩
            rw [upd_same, take_snoc hbm, List.map_append, decide_eq_true (show 97 ≤ b by omega), Bool.true_and]
            have e : decide ((b : Int) ≤ 122) = decide (b ≤ 122) := by
              apply decide_eq_decide.mpr
              omega
            rw [← e]
            rfl
          · have h3 : ¬ _ := fun z => h3 (decide_eq_true z)
            refine ⟨_, h5, sz, same_upd s5 hD, ?_⟩
            rw [upd_same, take_snoc hbm, List.map_append, decide_eq_false (show ¬ 97 ≤ b by omega), Bool.false_and]
            rfl
        · rintro H1 ⟨s1, h1'⟩
          have e : (vI n).length = (n.map fun b => decide (97 ≤ b) && decide (b ≤ 122)).length := by
            rw [vI_length, List.length_map]
          rw [e, List.take_length] at h1'
          exact ⟨D, _, rfl, SqL.of h1', k H1 s1⟩
end
end My
set_option Elab.async false
set_option maxRecDepth 100000
set_option maxHeartbeats 4000000
namespace My
open PySem PySem.Spec PyProof.Rows L2
/-! ### min(i, j, k) -/
theorem vals_three {x y z : V} {us : List Value} (r : Vals [x, y, z] us) : ∃ a b c, us = [a, b, c] ∧ RelV x a ∧ RelV y b ∧ RelV z c := by
  cases r with
  | cons ra rr =>
    obtain ⟨b, c, rfl, rb, rc⟩ := vals2 rr
    exact ⟨_, b, c, rfl, ra, rb, rc⟩
section
variable {X : Cx}
theorem call_min3 (hc : X.calm = true) : CallR X (.builtin "min") (fun xs H Q => ∃ i j k : Int, xs = [.int i, .int j, .int k] ∧ Q (.int (min (min i j) k)) H) := by
  intro pins s σ H xs us Q I r h
  obtain ⟨i, j, k, rfl, q⟩ := h
  obtain ⟨_, _, _, rfl, ⟨t1, rfl⟩, ⟨t2, rfl⟩, ⟨t3, rfl⟩⟩ := vals_three r
  refine min_three_ints (I.ok.hd hc) fun h' tk kk => ⟨.int (min (min i j) k), H, I.kept kk, ?_, q⟩
  by_cases h1 : j < i
  · rw [if_pos h1]
    by_cases h2 : k < j
    · rw [if_pos h2, show min (min i j) k = k by omega]
      exact ⟨_, rfl⟩
    · rw [if_neg h2, show min (min i j) k = j by omega]
      exact ⟨_, rfl⟩
  · rw [if_neg h1]
    by_cases h2 : k < i
    · rw [if_pos h2, show min (min i j) k = k by omega]
      exact ⟨_, rfl⟩
    · rw [if_neg h2, show min (min i j) k = i by omega]
      exact ⟨_, rfl⟩
end
/-! ### min(xs, default=d): the walk of the library's min, with a keyword carried along -/
section
variable {prog : Program} {w : World} {A : Around}
theorem minKw_loop {R : Result → Shared → Prop} {it : Addr} {fp wr : List Addr} {n : Nat} {P : Nat → Value → Prop} {St : Nat → Heap → Prop} {dv : Value} (W : Walks prog w A.in1 it fp wr n P St) (bt : Nat → Nat → Bool) (cmp : CmpOf prog w A.in1 .Lt P bt) (B : Addr) (nB : B ∉ fp) : ∀ (left j : Nat) (s : Shared) (top : Value) (cap : Nat), n - (j + 1) = left → j + 1 ≤ n → St (j + 1) s.heap → P (argBest bt j) top → s.heap.get? B = some { cls := .type "list", dict := none, data := .seq #[top, top] cap, slots := #[] } → (∀ v h1 tk, P (argBest bt (n - 1)) v → (∀ b o, b ∉ wr → b ≠ B → s.heap.get? b = some o → h1.get? b = some o) → R (.ok (.ret v)) { s with heap := h1, toks := tk }) → codeAny (model prog w) A (.builtin "min.loop" ⟨[.ref it, .none, .ref B], [("default", dv)]⟩) R s := by
  have bw : B ∉ wr := fun z => nB (W.sub _ z)
  have nm : (toString "min" ++ toString ".loop" : String) = "min.loop" := by decide
  intro left
  induction left with
  | zero =>
    intro j s top cap e1 e2 st pt hB fin
    have en : n = j + 1 := by omega
    refine (codeAny_builtin F.entry_min_loop ?_); rw [Around.under_plainId F.plain_min_loop _]
    show wpAny _ A.in1 (seqItems? (Value.ref B) >>= _) _ _ s; refine wpAny_bind (wpAny_seqItems hB rfl ?_)
    show wpAny _ A.in1 (tryCatch (pyNext (Value.ref it)) _ >>= _) _ _ s
    rw [en] at fin
    refine wpAny_bind (wpAny_tryCatch (W.done s _ _ (by rw [en]; exact st) fun h1 tk kp => ?_))
    have hB1 := kp B _ bw hB
    show wpAny _ A.in1 (updateSeq B (fun _ => #[]) >>= _) _ _ _; refine wpAny_bind (wpAny_updateSeq hB1 rfl (wpAny_bind (wpAny_letGo (wpAny_pure ?_))))
    exact fin top _ tk pt fun b o n1 n2 eo => (Heap.get?_update_other _ _ (fun z => n2 z.symm)).trans (kp b o n1 eo)
  | succ left ih =>
    intro j s top cap e1 e2 st pt hB fin
    have lt : j + 1 < n := by omega
    refine (codeAny_builtin F.entry_min_loop ?_); rw [Around.under_plainId F.plain_min_loop _]
    show wpAny _ A.in1 (seqItems? (Value.ref B) >>= _) _ _ s; refine wpAny_bind (wpAny_seqItems hB rfl ?_)
    show wpAny _ A.in1 (tryCatch (pyNext (Value.ref it)) _ >>= _) _ _ s
    refine wpAny_bind (wpAny_tryCatch (W.item (j + 1) s _ _ lt st fun v h1 tk pv st1 kp => ?_))
    have hB1 := kp B _ bw hB
    show wpAny _ A.in1 (tryCatch (holding [v, v] (richCompare .Lt v top >>= _)) _ >>= _) _ _ _; refine wpAny_bind (wpAny_tryCatch (wpAny_holding (wpAny_bind (cmp (j + 1) (argBest bt j) v top _ _ _ pv pt ?_))))
    refine wpAny_bind (wpAny_holding (wpAny_truthy_bool (wpAny_bind (wpAny_letGo (wpAny_pure ?_)))))
    cases eb : bt (j + 1) (argBest bt j) with
    | true =>
      simp only [if_true]
      refine wpAny_bind (wpAny_updateSeq hB1 rfl (wpAny_bind (wpAny_letGo ?_)))
      rw [nm]
      have ub : argBest bt (j + 1) = j + 1 := by simp only [argBest, eb, if_true]
      refine wpAny_pure ⟨plainId_quiet F.plain_min_loop _, ih (j + 1) _ v _ (by omega) lt (W.frame _ _ _ st1 fun b hb o eo => ?_) (by rw [ub]; exact pv) (Heap.get?_update_self _ hB1 rfl) fun v2 h2 tk2 p2 kp2 => ?_⟩
      · exact (Heap.get?_update_other _ _ (fun z : B = b => nB (by rw [z]; exact hb))).trans eo
      · exact fin v2 h2 tk2 p2 fun b o n1 n2 eo => kp2 b o n1 n2 ((Heap.get?_update_other _ _ (fun z => n2 z.symm)).trans (kp b o n1 eo))
    | false =>
      simp only [Bool.false_eq_true, if_false]
      refine wpAny_bind (wpAny_letGo ?_)
      rw [nm]
      have ub : argBest bt (j + 1) = argBest bt j := by simp only [argBest, eb, Bool.false_eq_true, if_false]
      refine wpAny_pure ⟨plainId_quiet F.plain_min_loop _, ih (j + 1) _ top cap (by omega) lt st1 (by rw [ub]; exact pt) hB1 fun v2 h2 tk2 p2 kp2 => ?_⟩
      exact fin v2 h2 tk2 p2 fun b o n1 n2 eo => kp2 b o n1 n2 (kp b o n1 eo)
theorem args_minKw (a b : Value) : argsOk "min" ⟨[a], [("default", b)]⟩ := by unfold argsOk; kernel_rfl
theorem call_minKw {E : Value → Shared → Prop} {s : Shared} {x dv : Value} {Q : Value → Shared → Prop}
    (h : wpAny (model prog w) A.in1 (pyIter x) (fun iv s1 => ∃ it fp wr n P St bt, iv = .ref it ∧ Walks prog w A.in1 it fp wr n P St ∧ St 0 s1.heap ∧ (∀ b ∈ fp, b < s1.heap.objs.size) ∧ CmpOf prog w A.in1 .Lt P bt ∧ (n = 0 → ∀ h1 tk, (∀ b o, b ∉ wr → s1.heap.get? b = some o → h1.get? b = some o) → Q dv { s1 with heap := h1, toks := tk }) ∧ (0 < n → ∀ v h1 tk, P (argBest bt (n - 1)) v → (∀ b o, b ∉ wr → s1.heap.get? b = some o → h1.get? b = some o) → Q v { s1 with heap := h1, toks := tk })) E s) :
    wpAny (model prog w) A (call (.builtin "min") [x] [("default", dv)]) Q E s := by
  have nm : (toString "min" ++ toString ".loop" : String) = "min.loop" := by decide
  refine wpAny_call (codeAny_call_builtin F.plain_min F.entry_min ?_)
  simp only [checkBuiltinCall, F.kind_min]
  cases hsig : Manifest.signature? "min" with
  | none => exact absurd hsig (by decide +kernel)
  | some sig =>
    have ha := args_minKw x dv
    simp only [argsOk, hsig] at ha
    have ha : Bind.checkArgs "min" sig ⟨[x], [("default", dv)]⟩ = pure () := ha
    show wpAny _ A.in1 (Bind.checkArgs "min" sig ⟨[x], [("default", dv)]⟩) _ _ s
    rw [ha]
    refine wpAny_pure ?_
    show wpAny _ A.in1 (Builtin.Builtins.bindParams "min" ["key", "default"] 0 ⟨[], [("default", dv)]⟩ >>= _) _ _ s
    refine wpAny_bind (wpAny_of_eq (show Builtin.Builtins.bindParams "min" ["key", "default"] 0 ⟨[], [("default", dv)]⟩ = pure [none, some dv] from rfl) ?_)
    refine wpAny_bind (wpAny_pure (wpAny_bind (wpAny_mono h (fun iv s1 h1 => ?_) fun _ _ e => e)))
    obtain ⟨it, fp, wr, n, P, St, bt, rfl, W, st, hfp, cmp, q0, q1⟩ := h1
    refine wpAny_bind (wpAny_newObj_type ?_)
    have nB : s1.heap.objs.size ∉ fp := fun z => Nat.lt_irrefl _ (hfp _ z)
    have bw : s1.heap.objs.size ∉ wr := fun z => nB (W.sub _ z)
    rw [nm]
    refine wpAny_pure ⟨plainId_quiet F.plain_min_loop _, ?_⟩
    have st' := W.frame 0 s1.heap (s1.heap.push { cls := .type "list", data := .seq ([] : List Value).toArray }) st fun b _ o eo => Heap.get?_push_of_some _ eo
    refine (codeAny_builtin F.entry_min_loop ?_); rw [Around.under_plainId F.plain_min_loop _]
    show wpAny _ A.in1 (seqItems? (Value.ref s1.heap.objs.size) >>= _) _ _ _; refine wpAny_bind (wpAny_seqItems (Heap.get?_push_size _ rfl) rfl ?_)
    show wpAny _ A.in1 (tryCatch (pyNext (Value.ref it)) _ >>= _) _ _ _
    by_cases z : n = 0
    · subst z
      refine wpAny_bind (wpAny_tryCatch (W.done _ _ _ st' fun h1 tk kp => ?_))
      show wpAny _ A.in1 (rule _ >>= _) _ _ _
      refine wpAny_bind (wpAny_rule (wpAny_pure ?_))
      exact q0 rfl h1 tk fun b o n1 eo => kp b o n1 (Heap.get?_push_of_some _ eo)
    · have hn : 0 < n := Nat.pos_of_ne_zero z
      refine wpAny_bind (wpAny_tryCatch (W.item 0 _ _ _ hn st' fun v h1 tk pv st1 kp => ?_))
      have hB1 := kp s1.heap.objs.size _ bw (Heap.get?_push_size _ rfl)
      show wpAny _ A.in1 (updateSeq s1.heap.objs.size (fun _ => #[v, v]) >>= _) _ _ _; refine wpAny_bind (wpAny_updateSeq hB1 rfl ?_)
      rw [nm]
      refine wpAny_pure ⟨plainId_quiet F.plain_min_loop _, minKw_loop W bt cmp s1.heap.objs.size nB _ 0 _ v _ rfl hn (W.frame _ _ _ st1 fun b hb o eo => ?_) pv (Heap.get?_update_self _ hB1 rfl) fun v2 h2 tk2 p2 kp2 => ?_⟩
      · exact (Heap.get?_update_other _ _ (fun y : s1.heap.objs.size = b => nB (by rw [y]; exact hb))).trans eo
      · refine q1 hn v2 h2 tk2 p2 fun b o n1 eo => ?_
        have nb : b ≠ s1.heap.objs.size := Nat.ne_of_lt (Heap.lt_size eo)
        exact kp2 b o n1 nb ((Heap.get?_update_other _ _ (fun y => nb y.symm)).trans (kp b o n1 (Heap.get?_push_of_some _ eo)))
theorem minKw_ints {E : Value → Shared → Prop} {s : Shared} {l : Addr} {its : List Value} {ns : List Int} {dv : Value} {Q : Value → Shared → Prop} (hh : A.handled = none) (hl : s.heap.IsList l its.toArray) (hi : IntsAre its ns)
    (h0 : ns = [] → ∀ h1 tk, (∀ b o, s.heap.get? b = some o → h1.get? b = some o) → Q dv { s with heap := h1, toks := tk })
    (h1 : ∀ M t h1 tk, M ∈ ns → (∀ y, y ∈ ns → M ≤ y) → (∀ b o, s.heap.get? b = some o → h1.get? b = some o) → Q (.int M t) { s with heap := h1, toks := tk }) : wpAny (model prog w) A (call (.builtin "min") [.ref l] [("default", dv)]) Q E s := by
  obtain ⟨xs, e⟩ := hi.allInts.items
  have hn : numsOf (intItems xs).toList = ns := by rw [← e]; exact hi.numsOf
  rw [nums_intItems] at hn
  subst hn
  rw [e] at hl
  refine call_minKw (iter_intList hl fun s₂ e2 st hfp hlI => ?_)
  subst e2
  refine ⟨_, _, _, _, _, _, _, rfl, Walks.list (A := A.in1) hh _ l hlI (intItems xs), st, hfp, CmpOf.ints_lt (numAt xs) (fun _ _ => intItems_at), fun z h2 tk kp => ?_, fun z v h2 tk pv kp => ?_⟩
  · refine h0 ?_ h2 tk (old_kept kp)
    have z' : xs.size = 0 := by simpa [intItems] using z
    rw [List.map_eq_nil_iff]
    exact List.eq_nil_of_length_eq_zero (by rw [Array.length_toList]; exact z')
  · have sz : (intItems xs).size = xs.size := by simp [intItems]
    have z' : 0 < xs.size := by rw [← sz]; exact z
    have pv' : (intItems xs)[argBest (fun i j => decide (numAt xs i < numAt xs j)) (xs.size - 1)]? = some v := by simpa [intItems] using pv
    obtain ⟨t, rfl⟩ := intItems_at pv'
    obtain ⟨b1, b2⟩ := argBest_lt (numAt xs) (xs.size - 1)
    refine h1 _ t h2 tk ?_ (fun y hy => ?_) (old_kept kp)
    · rw [numAt_eq]
      exact PySem.getD_mem (by rw [List.length_map, Array.length_toList]; omega)
    · obtain ⟨j, hj, rfl⟩ := mem_getD hy
      rw [List.length_map, Array.length_toList] at hj
      rw [← numAt_eq]
      exact b2 j (by omega)
end
section
variable {X : Cx} {e d : Expr} {p pos kpos : Pos} {te td : TE}
/-- min(xs, default=d), xs a list of ints, d an int -/
def tMinD (K : PySem.W.Frag) (te td : TE) : TE := fun σ H Q => tCons te tNil σ H fun vs H1 => tCons td tNil σ H1 fun zs H2 => ∃ (a : Addr) (ns : List Int) (k : Int), vs = [.ref a] ∧ zs = [.int k] ∧ SqL K H2 a (ns.map V.int) ∧ (ns = [] → Q (.int k) H2) ∧ ∀ m, m ∈ ns → (∀ y, y ∈ ns → m ≤ y) → Q (.int m) H2
theorem pe_minD (hc : X.calm = true) (hg : Gl X "min") (hm : X.mg "min" = Option.none) (ha : PE X e te) (hd : PE X d td) (he : starEach [e] X.env = (false, eval e X.env) :: starEach [] X.env := by rfl) (he2 : backTo pos (starEach [e] X.env) = (false, eval e X.env) :: backTo pos (starEach [] X.env) := by rfl) (hpl : (backTo pos (starEach [e] X.env)).any (·.1) = false := by rfl)
    (hall : (backToKw pos (keywordEach [⟨some "default", d, kpos⟩] X.env)).all (·.1.isSome) = true := by rfl) (hkw : (backToKw pos (keywordEach [⟨some "default", d, kpos⟩] X.env)).any (·.1.isNone) = false := by rfl) (hks : (backToKw pos (keywordEach [⟨some "default", d, kpos⟩] X.env)).filterMap (·.1) = [("default" : Str)] := by rfl) :
    PE X (.Call (.Name "min" p) [e] [⟨some "default", d, kpos⟩] pos) (tMinD X.K te td) := by
  intro pins s σ H Q I h
  refine wpAny_Call_Name_kw (ld_blt I hg hm boot_min ?_ (by decide) (by decide))
  refine PyProof.Rows.callWith_kw (thn ((pa_cons ha pa_nil he) pos pins s σ H _ I h) fun us s1 ⟨vs, H1, I1, r1, q1⟩ => ?_) he2 hpl hall hkw
  refine thn (pk_cons hd pk_nil pos pins s1 σ H1 _ I1 q1) fun ws s2 ⟨zs, H2, I2, rz, q3⟩ => ?_
  obtain ⟨a, ns, k, rfl, rfl, hs, k0, k1⟩ := q3
  obtain ⟨its, rv, hl, _⟩ := I2.list hs
  rw [hks, Vals.ref1 r1]
  obtain ⟨_, rfl, t, rfl⟩ := vals1 rz
  exact minKw_ints (I2.ok.hd hc) hl.isList rv.ints (fun z h1 tk kp => ⟨.int k, H2, I2.kept kp, ⟨_, rfl⟩, k0 z⟩) fun M t h1 tk m1 m2 kp => ⟨.int M, H2, I2.kept kp, ⟨_, rfl⟩, k1 M m1 m2⟩
end
/-! ### for and comprehension over two lists, over a list with its places -/
theorem lc_zip {K : PySem.W.Frag} {a b : Addr} {xs ys : List V} {g : TG} {tt : TT} {te : TE} {vs : List Nat} {σ : L2.St} {H1 : Hp} {D : Addr} {Qd : Hp → Prop} (Pv : Nat → Hp → Prop) (h0 : Pv 0 (upd H1 D (.lst []))) (hl : ∀ i H, Pv i H → SqL K H a xs ∧ SqL K H b ys)
    (hs : ∀ i x y H p, xs[i]? = some x → ys[i]? = some y → Pv i H → H p = Option.none → g (.ref p) (wipe σ vs) (upd H p (.tup [x, y])) fun σ2 H2 => wipe σ2 vs = wipe σ vs ∧ tt σ2 H2 fun c H3 => if c = true then te σ2 H3 fun z H4 => ∃ acc, H4 D = some (.lst acc) ∧ acc.length < sizeLine ∧ Pv (i + 1) (upd H4 D (.lst (acc ++ [z]))) else Pv (i + 1) H3) (hd : ∀ H, Pv (min xs.length ys.length) H → Qd H) :
    ∃ W : Nat → Nat → Hp → Prop, (∃ m, W 0 m (upd H1 D (.lst []))) ∧ ∀ i m H, W i m H → ((Itz K a b).stop i H ∧ Qd H) ∨ ((Itz K a b).go i H ∧ ∃ Nx : Hp → Prop, (∀ H', Nx H' → ∃ m', m' < m ∧ W (i + 1) m' H') ∧ ∀ x H', (Itz K a b).yld i H x H' → g x (wipe σ vs) H' fun σ2 H2 => wipe σ2 vs = wipe σ vs ∧ tt σ2 H2 fun c H3 => if c = true then te σ2 H3 fun y H4 => ∃ acc, H4 D = some (.lst acc) ∧ acc.length < sizeLine ∧ Nx (upd H4 D (.lst (acc ++ [y]))) else Nx H3) := by
  refine ⟨fun i m H => m = min xs.length ys.length - i ∧ i ≤ min xs.length ys.length ∧ Pv i H, ⟨_, rfl, Nat.zero_le _, h0⟩, ?_⟩
  rintro i m H ⟨rfl, hi, p⟩
  obtain ⟨q1, q2⟩ := hl i H p
  by_cases hlt : i < min xs.length ys.length
  · have l1 : i < xs.length := by omega
    have l2 : i < ys.length := by omega
    refine .inr ⟨⟨xs, ys, xs[i], ys[i], q1, q2, by simp [l1], by simp [l2]⟩, Pv (i + 1), fun H' p' => ⟨min xs.length ys.length - (i + 1), by omega, rfl, by omega, p'⟩, fun x H' y => ?_⟩
    obtain ⟨T, u, v, rfl, hT, rfl, y1, y2⟩ := y
    exact hs i u v H T (y1 xs q1) (y2 ys q2) p hT
  · have e : i = min xs.length ys.length := by omega
    subst e
    exact .inl ⟨⟨xs, ys, q1, q2, by omega⟩, hd H p⟩
theorem for_enum {K : PySem.W.Frag} {a : Addr} {xs : List V} {g : TG} {tb : TS} {D : Ends} {σ : L2.St} {H : Hp} (Pv : Nat → L2.St → Hp → Prop) (h0 : Pv 0 σ H) (hl : ∀ i σ H, Pv i σ H → SqL K H a xs)
    (hs : ∀ i x σ H p, xs[i]? = some x → Pv i σ H → H p = Option.none → g (.ref p) σ (upd H p (.tup [.int (i : Nat), x])) fun σ2 H2 => tb { D with nx := Pv (i + 1), ct := Pv (i + 1), bk := D.nx } σ2 H2) (hd : ∀ σ H, Pv xs.length σ H → D.nx σ H) :
    ∃ W : Nat → Nat → L2.St → Hp → Prop, (∃ m, W 0 m σ H) ∧ ∀ i m σ H, W i m σ H →
      ((Ite K a).stop i H ∧ D.nx σ H) ∨ ((Ite K a).go i H ∧ ∃ N : L2.St → Hp → Prop, (∀ σ' H', N σ' H' → ∃ m', m' < m ∧ W (i + 1) m' σ' H') ∧ ∀ x H', (Ite K a).yld i H x H' → g x σ H' fun σ2 H2 => tb { D with nx := N, ct := N, bk := D.nx } σ2 H2) := by
  refine ⟨fun i m σ H => m = xs.length - i ∧ i ≤ xs.length ∧ Pv i σ H, ⟨_, rfl, Nat.zero_le _, h0⟩, ?_⟩
  rintro i m σ H ⟨rfl, hi, p⟩
  have q1 := hl i σ H p
  by_cases hlt : i < xs.length
  · refine .inr ⟨⟨xs, xs[i], q1, by simp [hlt]⟩, Pv (i + 1), fun σ' H' p' => ⟨xs.length - (i + 1), by omega, rfl, by omega, p'⟩, fun x H' y => ?_⟩
    obtain ⟨T, u, rfl, hT, rfl, y1⟩ := y
    exact hs i u σ H T (y1 xs q1) p hT
  · have e : i = xs.length := by omega
    subst e
    exact .inl ⟨⟨xs, q1, Nat.le_refl _⟩, hd σ H p⟩
end My
set_option Elab.async false
set_option maxRecDepth 100000
set_option maxHeartbeats 4000000
namespace My
open PySem PySem.Spec PyProof.Rows L2
/-! ### the table's rows -/
theorem T_pre {a c : List Nat} (b : List Nat) : ∀ (i j : Nat), (∀ k, k < i → a.getD k 0 = c.getD k 0) → T a b i j = T c b i j
  | 0, j, _ => by rw [T_0, T_0]
  | i + 1, 0, _ => by rw [T_c, T_c]
  | i + 1, j + 1, h => by
    rw [T_s, T_s, T_pre b i (j + 1) (fun k hk => h k (by omega)), T_pre b (i + 1) j h, T_pre b i j (fun k hk => h k (by omega)), h i (by omega)]
theorem rowT_length (a b : List Nat) (i j m : Nat) : (rowT a b i j m).length = m := by
  unfold rowT
  rw [List.length_map, List.length_range']
theorem rowT_snoc (a b : List Nat) (i m : Nat) : rowT a b i 0 (m + 1) = rowT a b i 0 m ++ [T a b i m] := by
  unfold rowT
  rw [List.range'_concat, List.map_append, List.map_cons, List.map_nil]
  simp
theorem rowT_get (a b : List Nat) (i : Nat) {m k : Nat} (h : k < m) : (rowT a b i 0 m)[k]? = some (T a b i k) := by
  unfold rowT
  rw [List.getElem?_map, List.getElem?_range' h]
  simp
def rowsT (a b : List Nat) (n : Nat) : List (List Nat) := (List.range n).map fun i => rowT a b i 0 (b.length + 1)
theorem rowsT_succ (a b : List Nat) (n : Nat) : rowsT a b (n + 1) = rowsT a b n ++ [rowT a b n 0 (b.length + 1)] := by
  unfold rowsT
  rw [List.range_succ, List.map_append]
  rfl
theorem rowsT_take (a b : List Nat) {n k : Nat} (h : k ≤ n) : (rowsT a b n).take k = rowsT a b k := by
  unfold rowsT
  rw [← List.map_take, List.take_range, Nat.min_eq_left h]
theorem rowsT_pre {a c : List Nat} (b : List Nat) {n : Nat} (h : ∀ k, k < n → a[k]? = c[k]?) : rowsT a b (n + 1) = rowsT c b (n + 1) := by
  unfold rowsT
  refine List.map_congr_left fun i hi => ?_
  have hi : i < n + 1 := List.mem_range.mp hi
  unfold rowT
  refine List.map_congr_left fun j _ => T_pre b i j fun k hk => ?_
  rw [List.getD_eq_getElem?_getD, List.getD_eq_getElem?_getD, h k (by omega)]
theorem get_getD {l : List Nat} {i n : Nat} (h : l[i]? = some n) : l.getD i 0 = n := by
  rw [List.getD_eq_getElem?_getD, h]
  rfl
theorem getD_lt {l : List Nat} (h : ∀ x ∈ l, x < 8) (i : Nat) : l.getD i 0 < 8 := by
  rw [List.getD_eq_getElem?_getD]
  cases e : l[i]? with
  | none => show 0 < 8; decide
  | some n => exact h n (List.mem_of_getElem? e)
theorem turnI {a b : Nat} (ha : a < 8) (hb : b < 8) : (if (8 : Int) - (if (a : Int) - (b : Int) < 0 then -((a : Int) - (b : Int)) else (a : Int) - (b : Int)) < (if (a : Int) - (b : Int) < 0 then -((a : Int) - (b : Int)) else (a : Int) - (b : Int)) then (8 : Int) - (if (a : Int) - (b : Int) < 0 then -((a : Int) - (b : Int)) else (a : Int) - (b : Int)) else (if (a : Int) - (b : Int) < 0 then -((a : Int) - (b : Int)) else (a : Int) - (b : Int))) = ((Ks320.turn a b : Nat) : Int) := by
  have all : ∀ a b : Fin 8, (if (8 : Int) - (if ((a.val : Nat) : Int) - ((b.val : Nat) : Int) < 0 then -(((a.val : Nat) : Int) - ((b.val : Nat) : Int)) else ((a.val : Nat) : Int) - ((b.val : Nat) : Int)) < (if ((a.val : Nat) : Int) - ((b.val : Nat) : Int) < 0 then -(((a.val : Nat) : Int) - ((b.val : Nat) : Int)) else ((a.val : Nat) : Int) - ((b.val : Nat) : Int)) then (8 : Int) - (if ((a.val : Nat) : Int) - ((b.val : Nat) : Int) < 0 then -(((a.val : Nat) : Int) - ((b.val : Nat) : Int)) else ((a.val : Nat) : Int) - ((b.val : Nat) : Int)) else (if ((a.val : Nat) : Int) - ((b.val : Nat) : Int) < 0 then -(((a.val : Nat) : Int) - ((b.val : Nat) : Int)) else ((a.val : Nat) : Int) - ((b.val : Nat) : Int))) = ((Ks320.turn a.val b.val : Nat) : Int) := by decide +kernel
  exact all ⟨a, ha⟩ ⟨b, hb⟩
theorem minI (x y z t : Nat) : min (min ((x : Int) + (t : Int)) ((y : Int) + 2)) ((z : Int) + 2) = ((min (min (y + 2) (z + 2)) (x + t) : Nat) : Int) := by omega
/-! ### cuts -/
theorem cut_take (xs : List V) (n : Nat) : cutV xs Option.none (some ((n : Nat) : Int)) = xs.take n := by
  unfold cutV
  rw [HT.sIx_none, HT.sIx_nat, List.drop_zero, Nat.sub_zero]
  by_cases h : n ≤ xs.length
  · rw [Nat.min_eq_left h]
  · rw [Nat.min_eq_right (by omega), List.take_length, List.take_of_length_le (by omega)]
theorem cut_drop (xs : List V) (n : Nat) : cutV xs (some ((n : Nat) : Int)) Option.none = xs.drop n := by
  unfold cutV
  rw [HT.sIx_none, HT.sIx_nat]
  by_cases h : n ≤ xs.length
  · rw [Nat.min_eq_left h, List.take_of_length_le (by rw [List.length_drop]; omega)]
  · rw [Nat.min_eq_right (by omega), List.drop_of_length_le (by omega), List.drop_of_length_le (by omega), List.take_nil]
theorem vI_at {l : List Nat} {i n : Nat} (h : l[i]? = some n) : (vI l)[i]? = some (V.int (n : Int)) := by
  unfold vI ofN
  rw [List.getElem?_map, List.getElem?_map, h]
  rfl
theorem vI_inj : ∀ {l k : List Nat}, vI l = vI k → l = k
  | [], [], _ => rfl
  | [], _ :: _, h => by cases h
  | _ :: _, [], h => by cases h
  | a :: l, b :: k, h => by
    obtain ⟨h1, h2⟩ := List.cons.inj h
    have h1 : (a : Int) = (b : Int) := V.int.inj h1
    rw [vI_inj h2, show a = b by omega]
theorem atI_succ {xs : List V} {i : Nat} {v : V} (h : xs[i + 1]? = some v) : atI xs ((i : Int) + 1) = some v := atI_nat (j := i + 1) h
theorem pair_take {α β : Type} {G : α → β → Prop} : ∀ {l₁ : List α} {l₂ : List β} (n : Nat), Paired G l₁ l₂ → Paired G (l₁.take n) (l₂.take n)
  | _, _, 0, _ => .nil
  | _, _, n + 1, .nil => .nil
  | _, _, n + 1, .cons r t => .cons r (pair_take n t)
/-! ### fields -/
theorem put_hit {f : Str} {v x : V} {r : List (Str × V)} : putF f v ((f, x) :: r) = (f, v) :: r := by
  show (if f = f then (f, v) :: r else (f, x) :: putF f v r) = _
  rw [if_pos rfl]
theorem put_miss {f g : Str} {v x : V} {r : List (Str × V)} (h : ¬ g = f) : putF f v ((g, x) :: r) = (g, x) :: putF f v r := by
  show (if g = f then (g, v) :: r else (g, x) :: putF f v r) = _
  rw [if_neg h]
theorem look_hit {f : Str} {x : V} {r : List (Str × V)} : ((f, x) :: r).lookup f = some x := by
  rw [List.lookup_cons, beq_self_eq_true]
theorem look_miss {f g : Str} {x : V} {r : List (Str × V)} (h : ¬ f = g) : ((g, x) :: r).lookup f = r.lookup f := by
  rw [List.lookup_cons, beq_eq_false_iff_ne.mpr h]
theorem look_nil {f : Str} : ([] : List (Str × V)).lookup f = Option.none := rfl
/-! ### a measure in the heap -/
def mf (r w s : Addr) : List (Str × V) := [("goal", .ref r), ("measured", .ref w), ("steps", .ref s)]
/-- a name (or a row of directions) that stands outside F -/
abbrev NameV (H : Hp) (F : List Addr) : V → List Nat → Prop := fun v n => ∃ a, v = .ref a ∧ a ∉ F ∧ H a = some (.lst (vI n))
/-- a measure at m, for the row g: what it keeps is of the row that it was asked last -/
def MeasAt (CM : Addr) (H : Hp) (G : List Addr) (m : Addr) (g : List Nat) : Prop := ∃ dx r w st wl vs, H m = some (.ins CM dx (mf r w st)) ∧ NameV H G (.ref r) g ∧ NameV H G (.ref w) wl ∧ st ∉ G ∧ H st = some (.lst vs) ∧ Paired (NameV H G) vs (rowsT wl g (wl.length + 1)) ∧ wl.length ≤ 64
/-- a measure that is new -/
def MeasNew (CM : Addr) (H H' : Hp) (m r : Addr) (g : List Nat) : Prop := ∃ dx w st c, H' m = some (.ins CM dx (mf r w st)) ∧ H w = Option.none ∧ H' w = some (.lst []) ∧ H st = Option.none ∧ H' st = some (.lst [.ref c]) ∧ H c = Option.none ∧ H' c = some (.lst (vI (rowT [] g 0 0 (g.length + 1))))
/-- all but p stays -/
abbrev But (p : Addr) (H H' : Hp) : Prop := ∀ b o, H b = some o → b ≠ p → H' b = some o
theorem But.free {H H' : Hp} {p w : Addr} {u : HO} (k : But p H H') (hp : H' p = some u) (hw : H' w = Option.none) : H w = Option.none := by
  cases e : H w with
  | none => rfl
  | some o =>
    by_cases z : w = p
    · rw [z, hp] at hw
      cases hw
    · rw [k w o e z] at hw
      cases hw
structure ClsM (K : PySem.W.Frag) (CM : Addr) : Prop where
  cl : Cls K CM
  goal : NoAttr K CM "goal"
  measured : NoAttr K CM "measured"
  steps : NoAttr K CM "steps"
/-! ### the promises -/
def spTurn : Sp := fun vs H Q _ => ∃ (a b : Nat), vs = [.int (a : Int), .int (b : Int)] ∧ a < 8 ∧ b < 8 ∧ Q (.int (Ks320.turn a b : Nat)) H
def spLike : Sp := fun vs H Q _ => ∃ (a b : Addr) (xs ys : List Nat), vs = [.ref a, .ref b] ∧ H a = some (.lst (vI xs)) ∧ H b = some (.lst (vI ys)) ∧ ∀ (H' : Hp) (n : Nat), Same H H' → n ≤ xs.length → n ≤ ys.length → (∀ k, k < n → xs[k]? = ys[k]?) → Q (.int (n : Int)) H'
def spNothing : Sp := fun vs H Q _ => ∃ (a : Addr) (g : List Nat), vs = [.ref a] ∧ H a = some (.lst (vI g)) ∧ g.length ≤ 64 ∧ ∀ (H' : Hp) (q : Addr), Same H H' → H q = Option.none → H' q = some (.lst (vI (rowT [] g 0 0 (g.length + 1)))) → Q (.ref q) H'
def spMore : Sp := fun vs H Q _ => ∃ (c l : Addr) (ds g : List Nat) (i : Nat), vs = [.ref c, .int ((ds.getD i 0 : Nat) : Int), .ref l] ∧ H c = some (.lst (vI (rowT ds g i 0 (g.length + 1)))) ∧ H l = some (.lst (vI g)) ∧ g.length ≤ 64 ∧ (∀ x ∈ g, x < 8) ∧ (∀ x ∈ ds, x < 8) ∧ ∀ (H' : Hp) (q : Addr), Same H H' → H q = Option.none → H' q = some (.lst (vI (rowT ds g (i + 1) 0 (g.length + 1)))) → Q (.ref q) H'
def spMeasInit (CM : Addr) : Sp := fun vs H Q _ => ∃ (m dx r : Addr) (g : List Nat), vs = [.ref m, .ref r] ∧ H m = some (.ins CM dx []) ∧ H r = some (.lst (vI g)) ∧ g.length ≤ 64 ∧ ∀ H' : Hp, MeasNew CM H H' m r g → But m H H' → Q .non H'
def spDist (CM : Addr) : Sp := fun vs H Q _ => ∃ (m d : Addr) (G : List Addr) (g ds : List Nat), vs = [.ref m, .ref d] ∧ MeasAt CM H G m g ∧ (∀ b ∈ G, ∃ o, H b = some o) ∧ H d = some (.lst (vI ds)) ∧ g.length ≤ 64 ∧ ds.length ≤ 64 ∧ (∀ x ∈ g, x < 8) ∧ (∀ x ∈ ds, x < 8) ∧ ∀ H' : Hp, But m H H' → MeasAt CM H' G m g → Q (.int ((Ks320.apart ds g : Nat) : Int)) H'
section
variable {P : Program} {w : World} {K : PySem.W.Frag} {mg : Str → Option Value} {base : Heap} {CM : Addr}
/-! ### turn_between -/
theorem scTurn : FnScope ["one", "other", "eighths"] ["one", "other"] (defScope sTurnBetween) := ⟨rfl, rfl, rfl, by decide +kernel, rfl, by decide +kernel, by decide +kernel⟩
theorem ok_turn {f : Addr} {fd : FuncData} (F : Fun K "turn_between" "turn_between" sTurnBetween f fd) (T : Txt mg) : FnOk P w K mg base CX0 1 f fd ["one", "other"] spTurn := by
  refine F.ok scTurn (fun vs H Q E h => ?_) (fun cdv A outer s H vs Q E hr h => ?_)
  · obtain ⟨a, b, rfl, _⟩ := h
    rfl
  · obtain ⟨a, b, rfl, ha, hb, k⟩ := h
    refine ⟨_, pss_cons (ps_set (i := 2) scTurn.nd rfl (Or.inl rfl) (pe_callB call_abs (by rfl) T.abs boot_abs (pa_cons (pe_op op_sub (pv 0) (pv 1)) pa_nil)))
      (pss_one (ps_ret (pe_callB (call_min2 rfl) (by rfl) T.min boot_min (pa_cons (pv 2) (pa_cons (pe_op op_sub (pe_gint (by rfl) T.FULL_TURN) (pv 2)) pa_nil))))), ?_⟩
    refine ⟨_, rfl, _, rfl, _, _, rfl, rfl, _, rfl, _, rfl, _, rfl, _, _, rfl, rfl, _, _, rfl, ?_⟩
    rw [← turnI ha hb] at k
    exact k
/-! ### like_at_the_beginning -/
theorem scLike : FnScope ["one", "other", "alike", "left", "right"] ["one", "other"] (defScope sLikeAtTheBeginning) := ⟨rfl, rfl, rfl, by decide +kernel, rfl, by decide +kernel, by decide +kernel⟩
theorem ok_like {f : Addr} {fd : FuncData} (F : Fun K "like_at_the_beginning" "like_at_the_beginning" sLikeAtTheBeginning f fd) (T : Txt mg) : FnOk P w K mg base CX0 1 f fd ["one", "other"] spLike := by
  refine F.ok scLike (fun vs H Q E h => ?_) (fun cdv A outer s H vs Q E hr h => ?_)
  · obtain ⟨a, b, xs, ys, rfl, _⟩ := h
    rfl
  · obtain ⟨a, b, xs, ys, rfl, ha, hb, k⟩ := h
    refine ⟨_, pss_cons (ps_set (i := 2) scLike.nd rfl (Or.inl rfl) pe_int)
      (pss_cons (ps_for PassesOwn.never rfl (pi_zip (by rfl) T.zip (pa_cons (pv 0) (pa_cons (pv 1) pa_nil)))
          (pg_tup rfl (pgs_cons (pg_name (i := 3) scLike.nd rfl (Or.inl rfl)) (pgs_cons (pg_name (i := 4) scLike.nd rfl (Or.inl rfl)) pgs_nil)))
        (pss_cons (ps_if (pt_cmpR op_ne (pv 3) (pv 4) (nomark _)) (pss_one ps_break) pss_nil)
        (pss_one (ps_set (i := 2) scLike.nd rfl (Or.inl rfl) (pe_op op_add (pv 2) pe_int)))))
      (pss_one (ps_ret (pv 2)))), ?_⟩
    refine ⟨_, rfl, _, rfl, a, b, vI xs, vI ys, rfl, SqL.of ha, SqL.of hb, ?_⟩
    refine for_zip (K := K) (a := a) (b := b) (xs := vI xs) (ys := vI ys) (fun i σ H' => ∃ (v3 v4 : Option V), σ = [some (.ref a), some (.ref b), some (.int ((i : Nat) : Int)), v3, v4] ∧ Same H H' ∧ (∀ k, k < i → xs[k]? = ys[k]?) ∧ i ≤ xs.length ∧ i ≤ ys.length)
      ⟨none, none, rfl, Same.refl H, fun k hk => absurd hk (Nat.not_lt_zero _), Nat.zero_le _, Nat.zero_le _⟩ (fun i σ H' ⟨_, _, _, s5, _⟩ => ⟨SqL.of (s5 _ _ ha), SqL.of (s5 _ _ hb)⟩) ?_ ?_
    · rintro i x y σ H' q hx hy ⟨v3, v4, rfl, s5, hpre, l1, l2⟩ hq
      obtain ⟨x, hx', rfl⟩ := vI_get hx
      obtain ⟨y, hy', rfl⟩ := vI_get hy
      have s6 : Same H (upd H' q (.tup [.int (x : Int), .int (y : Int)])) := s5.trans (same_new hq)
      refine ⟨q, _, rfl, SqT.of upd_same, rfl, _, _, rfl, _, _, rfl, rfl, ?_⟩
      refine ⟨_, rfl, _, rfl, rfl, _, rfl, ite2 (fun h1 => ?_) (fun h1 => ?_)⟩
      · exact ⟨_, rfl, k _ i s6 l1 l2 hpre⟩
      · have h2 : x = y := by
          apply Decidable.byContradiction
          intro e
          apply h1
          rw [decide_eq_false (fun z => e (by have := V.int.inj z; omega))]
          rfl
        have i1 : i < xs.length := (List.getElem?_eq_some_iff.mp hx').1
        have i2 : i < ys.length := (List.getElem?_eq_some_iff.mp hy').1
        refine ⟨_, rfl, _, _, rfl, rfl, _, _, rfl, s6, fun k hk => ?_, i1, i2⟩
        by_cases z : k = i
        · rw [z, hx', hy', h2]
        · exact hpre k (by omega)
    · rintro σ H2 ⟨v3, v4, rfl, s5, hpre, l1, l2⟩
      exact ⟨_, rfl, k H2 _ s5 l1 l2 hpre⟩
/-! ### costs_from_nothing -/
theorem scNothing : FnScope ["goal", "length"] ["goal"] (defScope sCostsFromNothing) := ⟨rfl, rfl, rfl, by decide +kernel, rfl, by decide +kernel, by decide +kernel⟩
theorem ok_nothing {f : Addr} {fd : FuncData} (F : Fun K "costs_from_nothing" "costs_from_nothing" sCostsFromNothing f fd) (T : Txt mg) : FnOk P w K mg base CX0 1 f fd ["goal"] spNothing := by
  refine F.ok scNothing (fun vs H Q E h => ?_) (fun cdv A outer s H vs Q E hr h => ?_)
  · obtain ⟨a, g, rfl, _⟩ := h
    rfl
  · obtain ⟨a, g, rfl, ha, hg, k⟩ := h
    refine ⟨_, pss_one (ps_ret (pe_lc (own := [("length", 1)]) rfl scNothing.nd (pi_range1 (by rfl) T.range (pa_cons (pe_op op_add (pe_callB call_len_seq (by rfl) T.len PySem.boot_len (pa_cons (pv 0) pa_nil)) pe_int) pa_nil)) (blkOk_by (by change blkC ["goal", "length"] (defScope sCostsFromNothing) _ _ = true; decide +kernel)) (fun _ _ _ _ _ => pg_name (i := 1) scNothing.nd rfl (Or.inl rfl)) (fun _ _ _ _ _ => pts_nil)
        (fun _ _ _ _ _ => pe_op op_mul (pe_gint (by rfl) T.PUT_IN_COST) (pv 1)))), ?_⟩
    have e0 : (((vI g).length : Nat) : Int) + 1 = ((g.length + 1 : Nat) : Int) := by
      rw [vI_length]
      omega
    refine ⟨_, rfl, a, _, rfl, .inl (SqL.of ha), _, _, rfl, rfl, _, rfl, ?_⟩
    dsimp only
    rw [e0]
    refine ⟨by omega, by omega, fun D hD => ?_⟩
    rw [Int.toNat_natCast]
    refine lc_range (lo := 0) (n := g.length + 1) (fun i H' => Same H H' ∧ H' D = some (.lst (vI (rowT [] g 0 0 i)))) ⟨same_new hD, upd_same⟩ ?_ ?_
    · rintro i H' hi ⟨s5, h5⟩
      refine ⟨rfl, _, rfl, _, _, rfl, rfl, .inl ⟨by decide, by decide⟩, _, h5, ?_, same_upd s5 hD, ?_⟩
      · rw [vI_length, rowT_length]
        exact small_size (by omega)
      · rw [upd_same, rowT_snoc, vI_snoc, T_0]
        have e1 : (2 : Int) * (0 + (i : Int)) = ((2 * i : Nat) : Int) := by omega
        rw [← e1]
    · rintro H1 ⟨s1, h1⟩
      exact k H1 D s1 hD h1
/-! ### costs_with_one_more -/
theorem scMore : FnScope ["costs", "direction", "goal", "more", "place", "wanted", "changed", "left_out", "put_in"] ["costs", "direction", "goal"] (defScope sCostsWithOneMore) := ⟨rfl, rfl, rfl, by decide +kernel, rfl, by decide +kernel, by decide +kernel⟩
theorem ok_more {f : Addr} {fd : FuncData} (F : Fun K "costs_with_one_more" "costs_with_one_more" sCostsWithOneMore f fd) (T : Txt mg) (hTurn : FnAt P w K mg base 1 "turn_between" ["one", "other"] spTurn) : FnOk P w K mg base CX0 2 f fd ["costs", "direction", "goal"] spMore := by
  obtain ⟨fR, fdR, GR, mR, kR, bR⟩ := hTurn
  refine F.ok scMore (fun vs H Q E h => ?_) (fun cdv A outer s H vs Q E hr h => ?_)
  · obtain ⟨c, l, ds, g, i, rfl, _⟩ := h
    rfl
  · obtain ⟨c, l, ds, g, n, rfl, hc, hl, hg, g8, d8, k⟩ := h
    refine ⟨_, pss_cons (ps_set (i := 3) scMore.nd rfl (Or.inl rfl) (pe_lst (pa_cons (pe_op op_add (pe_ix ix_list (pv 0) pe_int (fun _ _ => rfl)) (pe_gint (by rfl) T.LEFT_OUT_COST)) pa_nil)))
      (pss_cons (ps_for PassesOwn.never rfl (pi_enum (by rfl) T.enumerate (pa_cons (pv 2) pa_nil))
          (pg_tup rfl (pgs_cons (pg_name (i := 4) scMore.nd rfl (Or.inl rfl)) (pgs_cons (pg_name (i := 5) scMore.nd rfl (Or.inl rfl)) pgs_nil)))
        (pss_cons (ps_set (i := 6) scMore.nd rfl (Or.inl rfl) (pe_op op_add (pe_ix ix_list (pv 0) (pv 4) (fun _ _ => rfl)) (pe_call GR hr rfl mR kR bR .nil pass0 (pa_cons (pv 1) (pa_cons (pv 5) pa_nil)))))
        (pss_cons (ps_set (i := 7) scMore.nd rfl (Or.inl rfl) (pe_op op_add (pe_ix ix_list (pv 0) (pe_op op_add (pv 4) pe_int) (fun _ _ => rfl)) (pe_gint (by rfl) T.LEFT_OUT_COST)))
        (pss_cons (ps_set (i := 8) scMore.nd rfl (Or.inl rfl) (pe_op op_add (pe_ix ix_list (pv 3) (pv 4) (fun _ _ => rfl)) (pe_gint (by rfl) T.PUT_IN_COST)))
        (pss_one (ps_expr (pe_bm PySem.F.plainAttrs_list PySem.F.slot_list_append PySem.F.type_list_append mt_append (pv 3) (pa_cons (pe_callB (call_min3 rfl) (by rfl) T.min boot_min (pa_cons (pv 6) (pa_cons (pv 7) (pa_cons (pv 8) pa_nil)))) pa_nil))))))))
      (pss_one (ps_ret (pv 3)))), ?_⟩
    have at_ : ∀ {i j : Nat}, j < g.length + 1 → (vI (rowT ds g i 0 (g.length + 1)))[j]? = some (V.int ((My.T ds g i j : Nat) : Int)) := fun hj => vI_at (rowT_get _ _ _ hj)
    refine ⟨_, rfl, c, _, _, _, rfl, rfl, SqL.of hc, atI_nat (j := 0) (at_ (by omega)), _, _, rfl, rfl, (by show 1 ≤ sizeLine; decide), fun M hM => ?_⟩
    have s2 := same_new (o := HO.lst [V.int (((My.T ds g n 0 : Nat) : Int) + 2)]) hM
    refine ⟨_, rfl, l, _, rfl, SqL.of (s2 _ _ hl), ?_⟩
    refine for_enum (K := K) (a := l) (xs := vI g) (fun i σ H' => ∃ (v4 v5 v6 v7 v8 : Option V), σ = [some (.ref c), some (.int ((ds.getD n 0 : Nat) : Int)), some (.ref l), some (.ref M), v4, v5, v6, v7, v8] ∧ Same H H' ∧ H' M = some (.lst (vI (rowT ds g (n + 1) 0 (i + 1)))))
      ⟨none, none, none, none, none, rfl, s2, ?_⟩ (fun i σ H' ⟨_, _, _, _, _, _, s5, _⟩ => SqL.of (s5 _ _ hl)) ?_ ?_
    · rw [upd_same, rowT_snoc]
      have e1 : ((My.T ds g n 0 : Nat) : Int) + 2 = ((My.T ds g (n + 1) 0 : Nat) : Int) := by
        rw [T_col, T_col]
        omega
      show some (HO.lst [V.int (((My.T ds g n 0 : Nat) : Int) + 2)]) = _
      rw [e1]
      rfl
    · rintro i x σ H' q hx ⟨v4, v5, v6, v7, v8, rfl, s5, hM5⟩ hq
      obtain ⟨x, hx', rfl⟩ := vI_get hx
      have il : i < g.length := (List.getElem?_eq_some_iff.mp hx').1
      have s6 : Same H' (upd H' q (.tup [.int ((i : Nat) : Int), .int (x : Int)])) := same_new hq
      have x8 : x < 8 := g8 x (List.mem_of_getElem? hx')
      have hM6 := s6 _ _ hM5
      refine ⟨q, _, rfl, SqT.of upd_same, rfl, _, _, rfl, _, _, rfl, rfl, ?_⟩
      refine ⟨_, rfl, _, rfl, c, _, _, _, rfl, rfl, SqL.of (s6 _ _ (s5 _ _ hc)), atI_nat (at_ (by omega)), _, rfl, _, rfl, ds.getD n 0, x, rfl, getD_lt d8 n, x8, _, _, rfl, rfl, ?_⟩
      refine ⟨_, rfl, _, rfl, _, _, rfl, rfl, c, _, _, _, rfl, rfl, SqL.of (s6 _ _ (s5 _ _ hc)), atI_succ (at_ (by omega)), _, _, rfl, rfl, ?_⟩
      refine ⟨_, rfl, _, rfl, M, _, _, _, rfl, rfl, SqL.of hM6, atI_nat (vI_at (rowT_get _ _ _ (by omega))), _, _, rfl, rfl, ?_⟩
      refine ⟨_, rfl, .inl ⟨rfl, _, SqL.of hM6⟩, _, rfl, _, rfl, _, rfl, _, _, _, rfl, M, _, _, rfl, rfl, hM6, ?_, ?_⟩
      · rw [vI_length, rowT_length]
        exact small_size (by omega)
      · refine ⟨_, _, _, _, _, rfl, same_upd (s5.trans s6) hM, ?_⟩
        rw [upd_same, minI, rowT_snoc ds g (n + 1) (i + 1), vI_snoc, T_s, get_getD hx']
    · rintro σ H2 ⟨v4, v5, v6, v7, v8, rfl, s5, hM5⟩
      rw [vI_length] at hM5
      exact ⟨_, rfl, k H2 M s5 hM hM5⟩
/-! ### Measure.__init__ -/
theorem scMeasInit : FnScope ["self", "goal"] ["self", "goal"] (defScope sMeasure_Init) := ⟨rfl, rfl, rfl, by decide +kernel, rfl, by decide +kernel, by decide +kernel⟩
theorem ok_measInit {f : Addr} {fd : FuncData} (F : Fun K "__init__" "Measure.__init__" sMeasure_Init f fd) (C : ClsM K CM) (hNo : FnAt P w K mg base 1 "costs_from_nothing" ["goal"] spNothing) : FnOk P w K mg base CX0 2 f fd ["self", "goal"] (spMeasInit CM) := by
  obtain ⟨fR, fdR, GR, mR, kR, bR⟩ := hNo
  refine F.ok scMeasInit (fun vs H Q E h => ?_) (fun cdv A outer s H vs Q E hr h => ?_)
  · obtain ⟨m, dx, r, g, rfl, _⟩ := h
    rfl
  · obtain ⟨m, dx, r, g, rfl, hm, hr', hg, k⟩ := h
    have mr : r ≠ m := ne_of hr' hm (by intro z; cases z)
    refine ⟨_, pss_cons (ps_fld (pv 0) (pv 1) rfl) (pss_cons (ps_fld (pv 0) (pe_lst pa_nil) rfl) (pss_one (ps_fld (pv 0) (pe_lst (pa_cons (pe_call GR hr rfl mR kR bR .nil pass0 (pa_cons (pv 1) pa_nil)) pa_nil)) rfl))), ?_⟩
    refine ⟨_, rfl, _, rfl, m, CM, dx, [], rfl, hm, C.cl, C.goal, (by show 0 < 1000; decide), Nat.zero_le _, fun w0 n0 => ?_⟩
    have p0 : m ≠ w0 := ne_of_none upd_same n0
    refine ⟨_, rfl, m, CM, dx, _, rfl, (by rw [upd_ne p0]; exact upd_same), C.cl, C.measured, (by show 1 < 1000; decide), ?_⟩
    refine ⟨_, rfl, r, g, rfl, ?_, hg, fun H1 q s1 nq hq => ⟨(by show 1 ≤ sizeLine; decide), fun st nst => ?_⟩⟩
    · rw [upd_ne mr, upd_ne (ne_of_none (by rw [upd_ne mr]; exact hr') n0), upd_ne mr]
      exact hr'
    · have hm1 := s1 _ _ (upd_same (H := upd (upd H m _) w0 (.lst [])) (a := m))
      have mst : m ≠ st := ne_of_none hm1 nst
      refine ⟨_, rfl, m, CM, dx, _, rfl, (by rw [upd_ne mst]; exact hm1), C.cl, C.steps, (by show 2 < 1000; decide), ?_⟩
      have b1 : But m H (upd (upd (upd H m (.ins CM dx (putF "goal" (.ref r) []))) w0 (.lst [])) m (.ins CM dx (putF "measured" (.ref w0) (putF "goal" (.ref r) [])))) := fun b o e hb => by
        rw [upd_ne hb, upd_ne (ne_of_none (by rw [upd_ne hb]; exact e) n0), upd_ne hb]
        exact e
      have bf : But m H (upd (upd H1 st (.lst [.ref q])) m (.ins CM dx (putF "steps" (.ref st) (putF "measured" (.ref w0) (putF "goal" (.ref r) []))))) := fun b o e hb => by
        have e1 := s1 _ _ (b1 b o e hb)
        rw [upd_ne hb, upd_ne (ne_of_none e1 nst)]
        exact e1
      have nw : H w0 = Option.none := by rw [upd_ne p0.symm] at n0; exact n0
      have hw1 : H1 w0 = some (.lst []) := s1 _ _ (by rw [upd_ne p0.symm]; exact upd_same)
      have nq0 : H q = Option.none := b1.free upd_same nq
      have mq : m ≠ q := ne_of_none upd_same nq
      have nst0 : H st = Option.none := b1.free upd_same (s1.free nst)
      refine k _ ⟨dx, w0, st, q, ?_, nw, ?_, nst0, ?_, nq0, ?_⟩ bf
      · rw [upd_same]
        have e1 : putF "measured" (.ref w0) ([("goal", .ref r)] : List (Str × V)) = ([("goal", .ref r), ("measured", .ref w0)] : List (Str × V)) := by
          rw [put_miss (by decide +kernel)]
          rfl
        have e2 : putF "steps" (.ref st) ([("goal", .ref r), ("measured", .ref w0)] : List (Str × V)) = mf r w0 st := by
          rw [put_miss (by decide +kernel), put_miss (by decide +kernel)]
          rfl
        show some (HO.ins CM dx (putF "steps" (.ref st) (putF "measured" (.ref w0) ([("goal", .ref r)] : List (Str × V))))) = _
        rw [e1, e2]
      · rw [upd_ne p0.symm, upd_ne (ne_of_none hw1 nst)]
        exact hw1
      · rw [upd_ne mst.symm]
        exact upd_same
      · rw [upd_ne mq.symm, upd_ne (ne_of_none hq nst)]
        exact hq
/-! ### Measure.distance_from -/
theorem scDist : FnScope ["self", "directions", "alike", "steps", "direction"] ["self", "directions"] (defScope sMeasure_DistanceFrom) := ⟨rfl, rfl, rfl, by decide +kernel, rfl, by decide +kernel, by decide +kernel⟩
theorem mf_goal (r w s : Addr) : (mf r w s).lookup ("goal" : Str) = some (.ref r) := look_hit
theorem mf_measured (r w s : Addr) : (mf r w s).lookup ("measured" : Str) = some (.ref w) := by
  unfold mf
  rw [look_miss (by decide +kernel), look_hit]
theorem mf_steps (r w s : Addr) : (mf r w s).lookup ("steps" : Str) = some (.ref s) := by
  unfold mf
  rw [look_miss (by decide +kernel), look_miss (by decide +kernel), look_hit]
theorem mf_put_measured (r w w' s : Addr) : putF "measured" (.ref w') (mf r w s) = mf r w' s := by
  unfold mf
  rw [put_miss (by decide +kernel), put_hit]
theorem mf_put_steps (r w s s' : Addr) : putF "steps" (.ref s') (mf r w s) = mf r w s' := by
  unfold mf
  rw [put_miss (by decide +kernel), put_miss (by decide +kernel), put_hit]
theorem mf_no (r w s : Addr) {m : Str} (h1 : ¬ m = "goal") (h2 : ¬ m = "measured") (h3 : ¬ m = "steps") : (mf r w s).lookup m = Option.none := by
  unfold mf
  rw [look_miss h1, look_miss h2, look_miss h3, look_nil]
theorem ok_dist {f : Addr} {fd : FuncData} (F : Fun K "distance_from" "Measure.distance_from" sMeasure_DistanceFrom f fd) (T : Txt mg) (C : ClsM K CM) (hLike : FnAt P w K mg base 1 "like_at_the_beginning" ["one", "other"] spLike) (hMore : FnAt P w K mg base 2 "costs_with_one_more" ["costs", "direction", "goal"] spMore) : FnOk P w K mg base CX0 3 f fd ["self", "directions"] (spDist CM) := by
  obtain ⟨fL, fdL, GL, mL, kL, bL⟩ := hLike
  obtain ⟨fR, fdR, GR, mR, kR, bR⟩ := hMore
  refine F.ok scDist (fun vs H Q E h => ?_) (fun cdv A outer s H vs Q E hr h => ?_)
  · obtain ⟨m, d, G, g, ds, rfl, _⟩ := h
    rfl
  · obtain ⟨m, d, G, g, ds, rfl, ⟨dx, r, w0, st, wl, vs, hm, ⟨_, e1, rG, hgoal⟩, ⟨_, e2, wG, hw⟩, sG, hst, hvs, hwl⟩, hG, hd, hgl, hdl, g8, d8, k⟩ := h
    cases e1
    cases e2
    have hr1 : Room 1 _ := hr.mono (by decide)
    have hlen := hvs.length
    refine ⟨_, pss_cons (ps_set (i := 2) scDist.nd rfl (Or.inl rfl) (pe_call GL hr1 rfl mL kL bL .nil pass0 (pa_cons (pe_fld (pv 0) rfl) (pa_cons (pv 1) pa_nil))))
      (pss_cons (ps_set (i := 3) scDist.nd rfl (Or.inl rfl) (pe_slice sl_list (pe_fld (pv 0) rfl) po_none (po_some (pe_op op_add (pv 2) pe_int))))
      (pss_cons (ps_for PassesOwn.never rfl (pi_list (pe_slice sl_list (pv 1) (po_some (pv 2)) po_none)) (pg_name (i := 4) scDist.nd rfl (Or.inl rfl))
        (pss_one (ps_expr (pe_bm PySem.F.plainAttrs_list PySem.F.slot_list_append PySem.F.type_list_append mt_append (pv 3) (pa_cons (pe_call GR hr rfl mR kR bR .nil pass0 (pa_cons (pe_ix ix_list (pv 3) (pe_un un_neg pe_int) (fun _ _ => rfl)) (pa_cons (pv 4) (pa_cons (pe_fld (pv 0) rfl) pa_nil)))) pa_nil)))))
      (pss_cons (ps_fld (pv 0) (pe_callTy call_list_of (by rfl) T.list (by decide +kernel) (pa_cons (pv 1) pa_nil)) rfl)
      (pss_cons (ps_fld (pv 0) (pv 3) rfl)
      (pss_one (ps_ret (pe_ix ix_list (pe_ix ix_list (pv 3) (pe_un un_neg pe_int) (fun _ _ => rfl)) (pe_un un_neg pe_int) (fun _ _ => rfl)))))))), ?_⟩
    refine ⟨_, rfl, m, CM, dx, _, _, rfl, hm, C.cl, C.measured, mf_measured _ _ _, _, rfl, w0, d, wl, ds, rfl, hw, hd, fun H1 n s1 l1 l2 hpre => ?_⟩
    refine ⟨_, rfl, m, CM, dx, _, _, rfl, s1 _ _ hm, C.cl, C.steps, mf_steps _ _ _, _, rfl, _, _, rfl, rfl, _, rfl, st, _, rfl, SqL.of (s1 _ _ hst), fun S hS => ?_⟩
    have eS : cutV vs Option.none (some ((n : Int) + 1)) = vs.take (n + 1) := cut_take vs (n + 1)
    have nS : H S = Option.none := s1.free hS
    have s2 : Same H1 (upd H1 S (.lst (cutV vs Option.none (some ((n : Int) + 1))))) := same_new hS
    have s12 := s1.trans s2
    refine ⟨_, rfl, _, rfl, _, rfl, d, _, rfl, SqL.of (s12 _ _ hd), fun Z hZ => ?_⟩
    have nZ : H Z = Option.none := s12.free hZ
    have ZS : S ≠ Z := ne_of_none upd_same hZ
    have fresh : ∀ {a : Addr}, H a = Option.none → a ∉ G := fun {a} e z => by
      obtain ⟨o, h⟩ := hG a z
      rw [e] at h
      cases h
    have SG : S ∉ G := fresh nS
    refine ⟨Z, rfl, ⟨_, SqL.of upd_same⟩, ?_⟩
    have s3 := s12.trans (same_new (o := HO.lst (cutV (vI ds) (some ((n : Nat) : Int)) Option.none)) hZ)
    have old : ∀ {H' : Hp}, Same H H' → Paired (NameV H' (S :: G)) (vs.take (n + 1)) (rowsT ds g (n + 1)) := fun {H'} s' => by
      have q := pair_take (n + 1) hvs
      rw [rowsT_take _ _ (by omega), rowsT_pre g hpre] at q
      exact Paired.mapP q fun v l ⟨a, e, aG, ha⟩ => ⟨a, e, fun z => by
        rcases List.mem_cons.mp z with z | z
        · rw [z, nS] at ha
          cases ha
        · exact aG z, s' _ _ ha⟩
    refine for_list (K := K) (a := Z) (xs := cutV (vI ds) (some ((n : Nat) : Int)) Option.none) (fun i σ H' => ∃ (v4 : Option V) (ys : List V), σ = [some (.ref m), some (.ref d), some (.int ((n : Nat) : Int)), some (.ref S), v4] ∧ Same H H' ∧ H' Z = some (.lst (cutV (vI ds) (some ((n : Nat) : Int)) Option.none)) ∧ H' S = some (.lst ys) ∧ Paired (NameV H' (S :: G)) ys (rowsT ds g (n + i + 1)))
      ⟨none, vs.take (n + 1), rfl, s3, upd_same, ?_, old s3⟩ (fun i σ H' _ ⟨_, _, _, _, hz, _⟩ => SqL.of hz) ?_ ?_
    · rw [upd_ne ZS, upd_same, eS]
    · rintro i y σ H' hi ⟨v4, ys, rfl, s5, hz, hys, hp⟩
      rw [cut_drop, List.getElem?_drop] at hi
      obtain ⟨x, hx, rfl⟩ := vI_get hi
      have ex := get_getD hx
      have il : n + i < ds.length := (List.getElem?_eq_some_iff.mp hx).1
      have yl := hp.length
      rw [rowsT_succ] at hp
      obtain ⟨zs, z, rfl, ⟨b, rfl, bG, hb⟩, hzs⟩ := pair_last hp
      have hp0 : Paired (NameV H' (S :: G)) (zs ++ [.ref b]) (rowsT ds g (n + i + 1)) := by
        rw [rowsT_succ]
        exact Paired.snoc hzs ⟨b, rfl, bG, hb⟩
      refine ⟨_, rfl, .inl ⟨rfl, _, SqL.of hys⟩, _, rfl, _, rfl, S, _, _, _, rfl, rfl, SqL.of hys, atI_last _ _, _, rfl, _, rfl, m, CM, dx, _, _, rfl, s5 _ _ hm, C.cl, C.goal, mf_goal _ _ _, ?_⟩
      refine ⟨b, r, ds, g, n + i, by rw [ex]; rfl, hb, s5 _ _ hgoal, hgl, g8, d8, fun H6 q s6 nq hq => ?_⟩
      have hS6 := s6 _ _ hys
      refine ⟨S, _, _, rfl, rfl, hS6, ?_, ?_⟩
      · rw [yl]
        unfold rowsT
        rw [List.length_map, List.length_range]
        exact small_size (by omega)
      · have qS : q ≠ S := fun z => by rw [z, hys] at nq; cases nq
        have qG : q ∉ S :: G := fun z => by
          rcases List.mem_cons.mp z with z | z
          · exact qS z
          · exact fresh (s5.free nq) z
        refine ⟨_, _, rfl, same_upd (s5.trans s6) nS, by rw [upd_ne ZS.symm]; exact s6 _ _ hz, upd_same, ?_⟩
        rw [show n + (i + 1) + 1 = n + i + 1 + 1 by omega, rowsT_succ]
        refine Paired.snoc (Paired.mapP hp0 fun v l ⟨a, e, aG, ha⟩ => ⟨a, e, aG, ?_⟩) ⟨q, rfl, qG, ?_⟩
        · rw [upd_ne (fun z => aG (by rw [z]; exact List.mem_cons_self ..))]
          exact s6 _ _ ha
        · rw [upd_ne qS]
          exact hq
    · rintro σ H2 ⟨v4, ys, rfl, s5, hz, hys, hp⟩
      rw [cut_drop, List.length_drop, vI_length, show n + (ds.length - n) + 1 = ds.length + 1 by omega] at hp
      have hm2 := s5 _ _ hm
      refine ⟨_, rfl, d, _, rfl, .inl (SqL.of (s5 _ _ hd)), fun W hW => ?_⟩
      have mW : m ≠ W := ne_of_none hm2 hW
      refine ⟨_, rfl, m, CM, dx, _, rfl, (by rw [upd_ne mW]; exact hm2), C.cl, C.measured, (by show 3 < 1000; decide), ?_⟩
      rw [mf_put_measured]
      refine ⟨_, rfl, _, rfl, m, CM, dx, _, rfl, upd_same, C.cl, C.steps, (by show 3 < 1000; decide), ?_⟩
      rw [mf_put_steps]
      have keep : ∀ b o, H2 b = some o → b ≠ m → (upd (upd (upd H2 W (.lst (vI ds))) m (.ins CM dx (mf r W st))) m (.ins CM dx (mf r W S))) b = some o := fun b o e hb => by
        rw [upd_ne hb, upd_ne hb, upd_ne (ne_of_none e hW)]
        exact e
      have nm : ∀ {v : V} {l : List Nat}, NameV H2 (S :: G) v l → NameV (upd (upd (upd H2 W (.lst (vI ds))) m (.ins CM dx (mf r W st))) m (.ins CM dx (mf r W S))) G v l := fun {v l} ⟨a, e, aG, ha⟩ => ⟨a, e, fun z => aG (List.mem_cons_of_mem _ z), keep _ _ ha (ne_of ha hm2 (by intro z; cases z))⟩
      have hp1 := hp
      rw [rowsT_succ] at hp
      obtain ⟨zs, z, rfl, ⟨b, rfl, bG, hb⟩, hzs⟩ := pair_last hp
      have hSf := keep _ _ hys (ne_of hys hm2 (by intro z; cases z))
      have hbf := keep _ _ hb (ne_of hb hm2 (by intro z; cases z))
      have eb : vI (rowT ds g ds.length 0 (g.length + 1)) = vI (rowT ds g ds.length 0 g.length) ++ [V.int ((My.T ds g ds.length g.length : Nat) : Int)] := by
        rw [rowT_snoc, vI_snoc]
      rw [eb] at hbf
      refine ⟨_, rfl, _, rfl, S, _, _, _, rfl, rfl, SqL.of hSf, atI_last _ _, _, rfl, b, _, _, _, rfl, rfl, SqL.of hbf, atI_last _ _, ?_⟩
      rw [apart_T] at k
      refine k _ (fun b o e hb => keep b o (s5 _ _ e) hb) ⟨dx, r, W, S, ds, _, upd_same, ⟨r, rfl, rG, keep _ _ (s5 _ _ hgoal) (ne_of hgoal hm (by intro z; cases z))⟩, ⟨W, rfl, fresh (s5.free hW), ?_⟩, SG, hSf, Paired.mapP hp1 fun _ _ q => nm q, hdl⟩
      rw [upd_ne mW.symm, upd_ne mW.symm]
      exact upd_same
end
end My
set_option Elab.async false
set_option maxRecDepth 100000
set_option maxHeartbeats 4000000
namespace My
open PySem PySem.Spec PyProof.Rows L2
open Ks319 (Point)
open Ks321 (Sign Abs)
/-- a pad's fields -/
def pf (lim : Nat) (ls lp lt : Addr) : List (Str × V) := [("limit", .int (lim : Int)), ("signs", .ref ls), ("points", .ref lp), ("taken", .ref lt)]
theorem pf_limit (l : Nat) (a b c : Addr) : (pf l a b c).lookup ("limit" : Str) = some (.int (l : Int)) := look_hit
theorem pf_signs (l : Nat) (a b c : Addr) : (pf l a b c).lookup ("signs" : Str) = some (.ref a) := by
  unfold pf
  rw [look_miss (by decide +kernel), look_hit]
theorem pf_points (l : Nat) (a b c : Addr) : (pf l a b c).lookup ("points" : Str) = some (.ref b) := by
  unfold pf
  rw [look_miss (by decide +kernel), look_miss (by decide +kernel), look_hit]
theorem pf_taken (l : Nat) (a b c : Addr) : (pf l a b c).lookup ("taken" : Str) = some (.ref c) := by
  unfold pf
  rw [look_miss (by decide +kernel), look_miss (by decide +kernel), look_miss (by decide +kernel), look_hit]
theorem pf_no (l : Nat) (a b c : Addr) {m : Str} (h1 : ¬ m = "limit") (h2 : ¬ m = "signs") (h3 : ¬ m = "points") (h4 : ¬ m = "taken") : (pf l a b c).lookup m = Option.none := by
  unfold pf
  rw [look_miss h1, look_miss h2, look_miss h3, look_miss h4, look_nil]
theorem pf_put_limit (l l' : Nat) (a b c : Addr) : putF "limit" (.int (l' : Int)) (pf l a b c) = pf l' a b c := put_hit
theorem pf_put_signs (l : Nat) (a a' b c : Addr) : putF "signs" (.ref a') (pf l a b c) = pf l a' b c := by
  unfold pf
  rw [put_miss (by decide +kernel), put_hit]
theorem pf_put_points (l : Nat) (a b b' c : Addr) : putF "points" (.ref b') (pf l a b c) = pf l a b' c := by
  unfold pf
  rw [put_miss (by decide +kernel), put_miss (by decide +kernel), put_hit]
theorem pf_put_taken (l : Nat) (a b c c' : Addr) : putF "taken" (.ref c') (pf l a b c) = pf l a b c' := by
  unfold pf
  rw [put_miss (by decide +kernel), put_miss (by decide +kernel), put_miss (by decide +kernel), put_hit]
/-- a sign's fields -/
def sf (n r m : Addr) : List (Str × V) := [("name", .ref n), ("directions", .ref r), ("measure", .ref m)]
theorem sf_name (n r m : Addr) : (sf n r m).lookup ("name" : Str) = some (.ref n) := look_hit
theorem sf_meas (n r m : Addr) : (sf n r m).lookup ("measure" : Str) = some (.ref m) := by
  unfold sf
  rw [look_miss (by decide +kernel), look_miss (by decide +kernel), look_hit]
/-! ### what stands in the heap -/
/-- what a pad may write to: itself, its lists, the measures of its signs -/
abbrev foot (p ls lp lt : Addr) (ms : List (Addr × List Nat)) : List Addr := p :: ls :: lp :: lt :: ms.map Prod.fst
abbrev SignV (CS : Addr) (ms : List (Addr × List Nat)) (H : Hp) (F : List Addr) : V → Sign → Prop := fun v s => ∃ a dx n r m, v = .ref a ∧ a ∉ F ∧ H a = some (.ins CS dx (sf n r m)) ∧ NameV H F (.ref n) s.name ∧ NameV H F (.ref r) s.row ∧ (m, s.row) ∈ ms
/-- the pad at p: its lists at ls, lp, lt, the measures ms; X: addresses of others' things -/
structure PadAt (CP CS CM : Addr) (H : Hp) (p ls lp lt : Addr) (ms : List (Addr × List Nat)) (X : List Addr) (a : Abs) : Prop where
  pad : ∃ dx, H p = some (.ins CP dx (pf a.limit ls lp lt))
  sp : ls ≠ lp
  st : ls ≠ lt
  pt : lp ≠ lt
  signs : ∃ vs, H ls = some (.lst vs) ∧ Paired (SignV CS ms H (foot p ls lp lt ms ++ X)) vs a.signs
  points : ∃ vs, H lp = some (.lst vs) ∧ PtsV H vs a.points
  taken : ∃ vs, H lt = some (.lst vs) ∧ Paired (NameV H (foot p ls lp lt ms ++ X)) vs a.text
  lenS : a.signs.length ≤ 40
  lenP : a.points.length ≤ 64
  lenT : a.text.length ≤ 100
  okS : ∀ s ∈ a.signs, s.name.length ≤ 8 ∧ s.row.length ≤ 64 ∧ ∀ d ∈ s.row, d < 8
  okT : ∀ n ∈ a.text, n.length ≤ 8
  thX : ∀ b, b ∈ X → (∃ o, H b = some o) ∧ b ∉ foot p ls lp lt ms
  meas : ∀ x ∈ ms, MeasAt CM H (foot p ls lp lt ms ++ X) x.1 x.2
  mp : ∀ x ∈ ms, x.1 ≠ p
/-- .. its addresses are F -/
def PadIs (CP CS CM : Addr) (H : Hp) (p : Addr) (F X : List Addr) (a : Abs) : Prop := ∃ ls lp lt ms, F = foot p ls lp lt ms ∧ PadAt CP CS CM H p ls lp lt ms X a
theorem MeasAt.move {CM m : Addr} {H H' : Hp} {G G' : List Addr} {g : List Nat} (k : ∀ b o, b ∉ G → H b = some o → b ∉ G' ∧ H' b = some o) (e : ∀ o, H m = some o → H' m = some o) (h : MeasAt CM H G m g) : MeasAt CM H' G' m g := by
  obtain ⟨dx, r, w, st, wl, vs, hm, ⟨r', e1, rG, hr⟩, ⟨w', e2, wG, hw⟩, sG, hst, hvs, hl⟩ := h
  refine ⟨dx, r, w, st, wl, vs, e _ hm, ⟨r', e1, (k _ _ rG hr).1, (k _ _ rG hr).2⟩, ⟨w', e2, (k _ _ wG hw).1, (k _ _ wG hw).2⟩, (k _ _ sG hst).1, (k _ _ sG hst).2, Paired.mapP hvs fun v n ⟨c, e3, cG, hc⟩ => ⟨c, e3, (k _ _ cG hc).1, (k _ _ cG hc).2⟩, hl⟩
theorem MeasAt.there {CM m : Addr} {H : Hp} {G : List Addr} {g : List Nat} (h : MeasAt CM H G m g) : ∃ dx fs, H m = some (.ins CM dx fs) := by
  obtain ⟨dx, r, w, st, wl, vs, hm, _⟩ := h
  exact ⟨dx, _, hm⟩
theorem MeasAt.ne {CM m b : Addr} {H : Hp} {G : List Addr} {g : List Nat} {l : List V} (h : MeasAt CM H G m g) (hb : H b = some (.lst l)) : m ≠ b := by
  obtain ⟨dx, fs, hm⟩ := h.there
  exact ne_of hm hb (by intro z; cases z)
theorem MeasAt.neN {CM m b : Addr} {H : Hp} {G : List Addr} {g : List Nat} (h : MeasAt CM H G m g) (hb : H b = Option.none) : m ≠ b := by
  obtain ⟨dx, fs, hm⟩ := h.there
  exact ne_of_none hm hb
/-- a new measure stands -/
theorem MeasNew.at {CM m r : Addr} {H H' : Hp} {G : List Addr} {g : List Nat} (M : MeasNew CM H H' m r g) (hG : ∀ b, b ∈ G → b ≠ m → ∃ o, H b = some o) (hr : NameV H' G (.ref r) g) : MeasAt CM H' G m g := by
  obtain ⟨dx, w, st, c, m1, m2, m3, m4, m5, m6, m7⟩ := M
  have out : ∀ {b : Addr} {l : List V}, H b = Option.none → H' b = some (.lst l) → b ∉ G := fun {b l} e1 e2 z => by
    obtain ⟨o, e⟩ := hG b z (ne_of e2 m1 (by intro z; cases z))
    rw [e1] at e
    cases e
  exact ⟨dx, r, w, st, [], _, m1, hr, ⟨w, rfl, out m2 m3, m3⟩, out m4 m5, m5, .cons ⟨c, rfl, out m6 m7, m7⟩ .nil, Nat.zero_le _⟩
/-- a measure is of one row -/
theorem MeasAt.inj {CM m : Addr} {H : Hp} {G : List Addr} {g g' : List Nat} (h : MeasAt CM H G m g) (h' : MeasAt CM H G m g') : g = g' := by
  obtain ⟨dx, r, w, st, wl, vs, hm, ⟨_, e1, _, hr⟩, _⟩ := h
  obtain ⟨dx', r', w', st', wl', vs', hm', ⟨_, e1', _, hr'⟩, _⟩ := h'
  cases e1
  cases e1'
  rw [hm] at hm'
  cases hm'
  rw [hr] at hr'
  have e := HO.lst.inj (Option.some.inj hr')
  exact vI_inj e
/-- what stands outside F stays; what is new in F' is new -/
structure Step (H H' : Hp) (F F' : List Addr) : Prop where
  keep : ∀ b o, H b = some o → b ∉ F → H' b = some o
  foot : ∀ b, b ∈ F' → b ∈ F ∨ H b = Option.none
theorem Step.same {H H' : Hp} (s : Same H H') (F : List Addr) : Step H H' F F := ⟨fun b o e _ => s b o e, fun _ h => .inl h⟩
theorem Step.out {H H' : Hp} {F F' : List Addr} (s : Step H H' F F') {b : Addr} {o : HO} (h : H b = some o) (n : b ∉ F) : b ∉ F' := fun m => by
  rcases s.foot b m with q | q
  · exact n q
  · rw [h] at q
    cases q
theorem Step.trans {H H1 H2 : Hp} {F F1 F2 : List Addr} (s : Step H H1 F F1) (t : Step H1 H2 F1 F2) : Step H H2 F F2 := ⟨fun b o e n => t.keep b o (s.keep b o e n) (s.out e n), fun b m => by
  rcases t.foot b m with q | q
  · exact s.foot b q
  · by_cases hb : b ∈ F
    · exact .inl hb
    · cases e : H b with
      | none => exact .inr rfl
      | some o =>
        rw [s.keep b o e hb] at q
        cases q⟩
theorem Step.outX {H H' : Hp} {F F' X : List Addr} (s : Step H H' F F') {b : Addr} {o : HO} (h : H b = some o) (n : b ∉ F ++ X) : b ∉ F' ++ X := fun m => by
  rcases List.mem_append.mp m with q | q
  · exact s.out h (fun z => n (List.mem_append_left _ z)) q
  · exact n (List.mem_append_right _ q)
theorem Step.keepX {H H' : Hp} {F F' X : List Addr} (s : Step H H' F F') {b : Addr} {o : HO} (h : H b = some o) (n : b ∉ F ++ X) : H' b = some o := s.keep b o h fun z => n (List.mem_append_left _ z)
theorem NameV.step {H H' : Hp} {F F' X : List Addr} (s : Step H H' F F') {v : V} {n : List Nat} (h : NameV H (F ++ X) v n) : NameV H' (F' ++ X) v n := by
  obtain ⟨a, e, h1, h2⟩ := h
  exact ⟨a, e, s.outX h2 h1, s.keepX h2 h1⟩
theorem SignV.step {CS : Addr} {ms : List (Addr × List Nat)} {H H' : Hp} {F F' X : List Addr} (s : Step H H' F F') {v : V} {g : Sign} (h : SignV CS ms H (F ++ X) v g) : SignV CS ms H' (F' ++ X) v g := by
  obtain ⟨a, dx, n, r, m, e, h1, h2, h3, h4, h5⟩ := h
  exact ⟨a, dx, n, r, m, e, s.outX h2 h1, s.keepX h2 h1, NameV.step s h3, NameV.step s h4, h5⟩
theorem MeasAt.step {CM m : Addr} {H H' : Hp} {F F' X : List Addr} {g : List Nat} (s : Step H H' F F') (e : ∀ o, H m = some o → H' m = some o) (h : MeasAt CM H (F ++ X) m g) : MeasAt CM H' (F' ++ X) m g :=
  h.move (fun _ _ n q => ⟨s.outX q n, s.keepX q n⟩) e
theorem Step.thX {H H' : Hp} {F F' X : List Addr} (s : Step H H' F F') (h : ∀ b, b ∈ X → (∃ o, H b = some o) ∧ b ∉ F) : ∀ b, b ∈ X → (∃ o, H' b = some o) ∧ b ∉ F' := fun b hb => by
  obtain ⟨⟨o, e⟩, n⟩ := h b hb
  exact ⟨⟨o, s.keep b o e n⟩, s.out e n⟩
theorem PadAt.same {CP CS CM : Addr} {H H' : Hp} {p ls lp lt : Addr} {ms : List (Addr × List Nat)} {X : List Addr} {a : Abs} (s : Same H H') (B : PadAt CP CS CM H p ls lp lt ms X a) : PadAt CP CS CM H' p ls lp lt ms X a where
  pad := let ⟨dx, h⟩ := B.pad; ⟨dx, s _ _ h⟩
  sp := B.sp
  st := B.st
  pt := B.pt
  signs := let ⟨vs, h1, h2⟩ := B.signs; ⟨vs, s _ _ h1, Paired.mapP h2 fun _ _ q => SignV.step (Step.same s _) q⟩
  points := let ⟨vs, h1, h2⟩ := B.points; ⟨vs, s _ _ h1, h2.mono s⟩
  taken := let ⟨vs, h1, h2⟩ := B.taken; ⟨vs, s _ _ h1, Paired.mapP h2 fun _ _ q => NameV.step (Step.same s _) q⟩
  lenS := B.lenS
  lenP := B.lenP
  lenT := B.lenT
  okS := B.okS
  okT := B.okT
  thX := (Step.same s _).thX B.thX
  meas := fun x hx => (B.meas x hx).step (Step.same s _) (fun o h => s _ _ h)
  mp := B.mp
theorem PadIs.same {CP CS CM : Addr} {H H' : Hp} {p : Addr} {F X : List Addr} {a : Abs} (s : Same H H') (B : PadIs CP CS CM H p F X a) : PadIs CP CS CM H' p F X a := by
  obtain ⟨ls, lp, lt, ms, e, B⟩ := B
  exact ⟨ls, lp, lt, ms, e, B.same s⟩
/-- the pad's own addresses hold something, and those of X do -/
theorem PadIs.held {CP CS CM : Addr} {H : Hp} {p : Addr} {F X : List Addr} {a : Abs} (B : PadIs CP CS CM H p F X a) : ∀ b, b ∈ F ++ X → ∃ o, H b = some o := by
  obtain ⟨ls, lp, lt, ms, rfl, B⟩ := B
  intro b m
  rcases List.mem_append.mp m with m | m
  · obtain ⟨dx, e1⟩ := B.pad
    obtain ⟨_, e2, _⟩ := B.signs
    obtain ⟨_, e3, _⟩ := B.points
    obtain ⟨_, e4, _⟩ := B.taken
    rcases List.mem_cons.mp m with rfl | m
    · exact ⟨_, e1⟩
    · rcases List.mem_cons.mp m with rfl | m
      · exact ⟨_, e2⟩
      · rcases List.mem_cons.mp m with rfl | m
        · exact ⟨_, e3⟩
        · rcases List.mem_cons.mp m with rfl | m
          · exact ⟨_, e4⟩
          · obtain ⟨x, hx, rfl⟩ := List.mem_map.mp m
            obtain ⟨dx, fs, e⟩ := (B.meas x hx).there
            exact ⟨_, e⟩
  · exact (B.thX b m).1
theorem PadIs.there {CP CS CM : Addr} {H : Hp} {p : Addr} {F X : List Addr} {a : Abs} (B : PadIs CP CS CM H p F X a) {b : Addr} (h : H b = Option.none) : b ∉ F ++ X := by
  intro m
  obtain ⟨o, e⟩ := B.held b m
  rw [h] at e
  cases e
/-- others' things changed: the pad is as it was -/
theorem PadIs.other {CP CS CM : Addr} {H H' : Hp} {p : Addr} {F X : List Addr} {a : Abs} (B : PadIs CP CS CM H p F X a) (k : ∀ b, b ∉ X → H' b = H b) (hx : ∀ b, b ∈ X → ∃ o, H' b = some o) (ht : ∀ b, b ∈ X → ∀ xs, H b ≠ some (.tup xs)) : PadIs CP CS CM H' p F X a := by
  obtain ⟨ls, lp, lt, ms, rfl, B⟩ := B
  have out : ∀ b, b ∈ foot p ls lp lt ms → H' b = H b := fun b hb => k b fun z => (B.thX b z).2 hb
  have outX : ∀ {b : Addr}, b ∉ foot p ls lp lt ms ++ X → H' b = H b := fun hb => k _ fun z => hb (List.mem_append_right _ z)
  have nm : ∀ {v : V} {n : List Nat}, NameV H (foot p ls lp lt ms ++ X) v n → NameV H' (foot p ls lp lt ms ++ X) v n := fun {v n} ⟨b, e, h1, h2⟩ => ⟨b, e, h1, by rw [outX h1]; exact h2⟩
  refine ⟨ls, lp, lt, ms, rfl, ?_, B.sp, B.st, B.pt, ?_, ?_, ?_, B.lenS, B.lenP, B.lenT, B.okS, B.okT, fun b hb => ⟨hx b hb, (B.thX b hb).2⟩, fun x hx => (B.meas x hx).move (fun b o n q => ⟨n, by rw [outX n]; exact q⟩) (fun o q => ?_), B.mp⟩
  · obtain ⟨dx, h⟩ := B.pad
    exact ⟨dx, by rw [out p (by simp)]; exact h⟩
  · obtain ⟨vs, h1, h2⟩ := B.signs
    refine ⟨vs, by rw [out ls (by simp)]; exact h1, Paired.mapP h2 fun v s ⟨b, dx, n, r', m, e, z1, z2, z3, z4, z5⟩ => ⟨b, dx, n, r', m, e, z1, ?_, nm z3, nm z4, z5⟩⟩
    rw [outX z1]
    exact z2
  · obtain ⟨vs, h1, h2⟩ := B.points
    refine ⟨vs, by rw [out lp (by simp)]; exact h1, Paired.mapP h2 fun v s ⟨b, e, z⟩ => ⟨b, e, ?_⟩⟩
    show H' b = _
    rw [k b fun y => ht b y _ z]
    exact z
  · obtain ⟨vs, h1, h2⟩ := B.taken
    exact ⟨vs, by rw [out lt (by simp)]; exact h1, Paired.mapP h2 fun v s z => nm z⟩
  · rw [out x.1 (List.mem_cons_of_mem _ (List.mem_cons_of_mem _ (List.mem_cons_of_mem _ (List.mem_cons_of_mem _ (List.mem_map_of_mem hx)))))]
    exact q
/-- one thing more that is another's -/
theorem PadAt.add {CP CS CM : Addr} {H H' : Hp} {p b ls lp lt : Addr} {ms : List (Addr × List Nat)} {X : List Addr} {a : Abs} {o : HO} (B : PadAt CP CS CM H p ls lp lt ms X a) (s : Same H H') (hb : H b = Option.none) (hb' : H' b = some o) : PadAt CP CS CM H' p ls lp lt ms (b :: X) a := by
  have nb := (show PadIs CP CS CM H p (foot p ls lp lt ms) X a from ⟨ls, lp, lt, ms, rfl, B⟩).there hb
  have up : ∀ {c : Addr} {u : HO}, H c = some u → c ∉ foot p ls lp lt ms ++ X → c ∉ foot p ls lp lt ms ++ b :: X := fun {c u} e n m => by
    rcases List.mem_append.mp m with m | m
    · exact n (List.mem_append_left _ m)
    · rcases List.mem_cons.mp m with m | m
      · rw [m, hb] at e
        cases e
      · exact n (List.mem_append_right _ m)
  have nm : ∀ {v : V} {n : List Nat}, NameV H (foot p ls lp lt ms ++ X) v n → NameV H' (foot p ls lp lt ms ++ b :: X) v n := fun {v n} ⟨c, e, h1, h2⟩ => ⟨c, e, up h2 h1, s _ _ h2⟩
  refine ⟨?_, B.sp, B.st, B.pt, ?_, ?_, ?_, B.lenS, B.lenP, B.lenT, B.okS, B.okT, fun c hc => ?_, fun x hx => (B.meas x hx).move (fun c o n q => ⟨up q n, s _ _ q⟩) (fun o q => s _ _ q), B.mp⟩
  · obtain ⟨dx, h⟩ := B.pad
    exact ⟨dx, s _ _ h⟩
  · obtain ⟨vs, h1, h2⟩ := B.signs
    exact ⟨vs, s _ _ h1, Paired.mapP h2 fun v g ⟨c, dx, n, r', m, e, z1, z2, z3, z4, z5⟩ => ⟨c, dx, n, r', m, e, up z2 z1, s _ _ z2, nm z3, nm z4, z5⟩⟩
  · obtain ⟨vs, h1, h2⟩ := B.points
    exact ⟨vs, s _ _ h1, h2.mono s⟩
  · obtain ⟨vs, h1, h2⟩ := B.taken
    exact ⟨vs, s _ _ h1, Paired.mapP h2 fun v g z => nm z⟩
  · rcases List.mem_cons.mp hc with rfl | hc
    · exact ⟨⟨o, hb'⟩, fun z => nb (List.mem_append_left _ z)⟩
    · obtain ⟨⟨u, e⟩, n⟩ := B.thX c hc
      exact ⟨⟨u, s _ _ e⟩, n⟩
theorem PadIs.add {CP CS CM : Addr} {H H' : Hp} {p b : Addr} {F X : List Addr} {a : Abs} {o : HO} (B : PadIs CP CS CM H p F X a) (s : Same H H') (hb : H b = Option.none) (hb' : H' b = some o) : PadIs CP CS CM H' p F (b :: X) a := by
  obtain ⟨ls, lp, lt, ms, rfl, B⟩ := B
  exact ⟨ls, lp, lt, ms, rfl, B.add s hb hb'⟩
theorem in4 {b p x y z : Addr} {ms : List (Addr × List Nat)} (h : b ∉ foot p x y z ms) : b ≠ p ∧ b ≠ x ∧ b ≠ y ∧ b ≠ z := by
  refine ⟨fun e => h ?_, fun e => h ?_, fun e => h ?_, fun e => h ?_⟩
  · rw [e]; exact List.mem_cons_self ..
  · rw [e]; exact List.mem_cons_of_mem _ (List.mem_cons_self ..)
  · rw [e]; exact List.mem_cons_of_mem _ (List.mem_cons_of_mem _ (List.mem_cons_self ..))
  · rw [e]; exact List.mem_cons_of_mem _ (List.mem_cons_of_mem _ (List.mem_cons_of_mem _ (List.mem_cons_self ..)))
/-- the pad's lists may have become new ones -/
theorem step_foot {H H' : Hp} {p x y z x' y' z' : Addr} {ms : List (Addr × List Nat)} (k : ∀ b o, H b = some o → b ∉ foot p x y z ms → H' b = some o) (h1 : x' = x ∨ H x' = Option.none) (h2 : y' = y ∨ H y' = Option.none) (h3 : z' = z ∨ H z' = Option.none) : Step H H' (foot p x y z ms) (foot p x' y' z' ms) := by
  refine ⟨k, fun b hb => ?_⟩
  rcases List.mem_cons.mp hb with rfl | hb
  · exact .inl (List.mem_cons_self ..)
  · rcases List.mem_cons.mp hb with rfl | hb
    · rcases h1 with rfl | h1
      · exact .inl (List.mem_cons_of_mem _ (List.mem_cons_self ..))
      · exact .inr h1
    · rcases List.mem_cons.mp hb with rfl | hb
      · rcases h2 with rfl | h2
        · exact .inl (List.mem_cons_of_mem _ (List.mem_cons_of_mem _ (List.mem_cons_self ..)))
        · exact .inr h2
      · rcases List.mem_cons.mp hb with rfl | hb
        · rcases h3 with rfl | h3
          · exact .inl (List.mem_cons_of_mem _ (List.mem_cons_of_mem _ (List.mem_cons_of_mem _ (List.mem_cons_self ..))))
          · exact .inr h3
        · exact .inl (List.mem_cons_of_mem _ (List.mem_cons_of_mem _ (List.mem_cons_of_mem _ (List.mem_cons_of_mem _ hb))))
/-- the facts of a class that are asked for -/
structure ClsP (K : PySem.W.Frag) (CP : Addr) : Prop where
  cl : Cls K CP
  limit : NoAttr K CP "limit"
  signs : NoAttr K CP "signs"
  points : NoAttr K CP "points"
  taken : NoAttr K CP "taken"
structure ClsS (K : PySem.W.Frag) (CS : Addr) : Prop where
  cl : Cls K CS
  name : NoAttr K CS "name"
  dirs : NoAttr K CS "directions"
  meas : NoAttr K CS "measure"
/-! ### the promises -/
def spSignInit (CS CM : Addr) : Sp := fun vs H Q _ => ∃ (p dx n r : Addr) (g : List Nat), vs = [.ref p, .ref n, .ref r] ∧ H p = some (.ins CS dx []) ∧ H r = some (.lst (vI g)) ∧ g.length ≤ 64 ∧ ∀ (H' : Hp) (m : Addr), H' p = some (.ins CS dx (sf n r m)) → H m = Option.none → MeasNew CM H H' m r g → But p H H' → Q .non H'
def spPadInit (CP CS CM : Addr) : Sp := fun vs H Q _ => ∃ (p dx : Addr), vs = [.ref p] ∧ H p = some (.ins CP dx []) ∧ ∀ (H' : Hp) (F' : List Addr), Step H H' [p] F' → PadIs CP CS CM H' p F' [] {} → Q .non H'
def spBegin (CP CS CM : Addr) : Sp := fun vs H Q _ => ∃ (p : Addr) (F X : List Addr) (a : Abs) (lim : Nat), vs = [.ref p, .int (lim : Int)] ∧ PadIs CP CS CM H p F X a ∧ ∀ (H' : Hp) (F' : List Addr), Step H H' F F' → PadIs CP CS CM H' p F' X (Ks321.act a (.begin lim)).1 → Q (.int (Ks321.act a (.begin lim)).2.ret) H'
def spMove (CP CS CM : Addr) : Sp := fun vs H Q _ => ∃ (p : Addr) (F X : List Addr) (a : Abs) (x y : Nat), vs = [.ref p, .int (x : Int), .int (y : Int)] ∧ PadIs CP CS CM H p F X a ∧ ∀ (H' : Hp) (F' : List Addr), Step H H' F F' → PadIs CP CS CM H' p F' X (Ks321.act a (.move x y)).1 → Q (.int (Ks321.act a (.move x y)).2.ret) H'
def spClear (CP CS CM : Addr) : Sp := fun vs H Q _ => ∃ (p : Addr) (F X : List Addr) (a : Abs), vs = [.ref p] ∧ PadIs CP CS CM H p F X a ∧ ∀ (H' : Hp) (F' : List Addr), Step H H' F F' → PadIs CP CS CM H' p F' X (Ks321.act a .clear).1 → Q (.int (Ks321.act a .clear).2.ret) H'
def spRowM (CP CS CM : Addr) : Sp := fun vs H Q _ => ∃ (p : Addr) (F X : List Addr) (a : Abs), vs = [.ref p] ∧ PadIs CP CS CM H p F X a ∧ ∀ (H' : Hp) (r : Addr), Same H H' → H r = Option.none → H' r = some (.lst (vI (Ks321.drawn a))) → Q (.ref r) H'
def spTeach (CP CS CM : Addr) : Sp := fun vs H Q _ => ∃ (p : Addr) (F X : List Addr) (a : Abs) (c : Addr) (n : List Nat), vs = [.ref p, .ref c] ∧ PadIs CP CS CM H p F X a ∧ NameV H (F ++ X) (.ref c) n ∧ n.length ≤ 1000000 ∧ ∀ (H' : Hp) (F' : List Addr), Step H H' F F' → PadIs CP CS CM H' p F' X (Ks321.act a (.teach n)).1 → Q (.int (Ks321.act a (.teach n)).2.ret) H'
def spForget (CP CS CM : Addr) : Sp := fun vs H Q _ => ∃ (p : Addr) (F X : List Addr) (a : Abs) (c : Addr) (n : List Nat), vs = [.ref p, .ref c] ∧ PadIs CP CS CM H p F X a ∧ NameV H (F ++ X) (.ref c) n ∧ n.length ≤ 1000000 ∧ ∀ (H' : Hp) (F' : List Addr), Step H H' F F' → PadIs CP CS CM H' p F' X (Ks321.act a (.forget n)).1 → Q (.int (Ks321.act a (.forget n)).2.ret) H'
section
variable {P : Program} {w : World} {K : PySem.W.Frag} {mg : Str → Option Value} {base : Heap} {CP CS CM : Addr}
/-! ### Sign.__init__ -/
theorem scSignInit : FnScope ["self", "name", "directions"] ["self", "name", "directions"] (defScope sSign_Init) := ⟨rfl, rfl, rfl, by decide +kernel, rfl, by decide +kernel, by decide +kernel⟩
theorem ok_signInit {f : Addr} {fd : FuncData} (F : Fun K "__init__" "Sign.__init__" sSign_Init f fd) (C : ClsS K CS) (hMeas : MkAt P w K mg base 2 "Measure" CM ["self", "goal"] (spMeasInit CM)) : FnOk P w K mg base CX0 4 f fd ["self", "name", "directions"] (spSignInit CS CM) := by
  obtain ⟨fM, fdM, GM, MM, mM, bM⟩ := hMeas
  refine F.ok scSignInit (fun vs H Q E h => ?_) (fun cdv A outer s H vs Q E hr h => ?_)
  · obtain ⟨p, dx, n, r, g, rfl, _⟩ := h
    rfl
  · obtain ⟨p, dx, n, r, g, rfl, hp, hr', hg, k⟩ := h
    have rp : r ≠ p := ne_of hr' hp (by intro z; cases z)
    refine ⟨_, pss_cons (ps_fld (pv 0) (pv 1) rfl) (pss_cons (ps_fld (pv 0) (pv 2) rfl) (pss_one (ps_fld (pv 0) (pe_make MM GM hr rfl mM bM .nil pass0 (pa_cons (pv 2) pa_nil)) rfl))), ?_⟩
    refine ⟨_, rfl, _, rfl, p, CS, dx, [], rfl, hp, C.cl, C.name, (by show 0 < 1000; decide), _, rfl, _, rfl, p, CS, dx, _, rfl, upd_same, C.cl, C.dirs, (by show 1 < 1000; decide), ?_⟩
    refine ⟨_, rfl, fun m dxm nm ndm nem => ⟨m, dxm, r, g, rfl, upd_same, ?_, hg, fun H4 mn kp => ⟨rfl, ?_⟩⟩⟩
    · have e : (upd (upd H p (.ins CS dx (putF "name" (.ref n) []))) p (.ins CS dx (putF "directions" (.ref r) (putF "name" (.ref n) [])))) r = some (.lst (vI g)) := by
        rw [upd_ne rp, upd_ne rp]
        exact hr'
      rw [upd_ne (ne_of_none e nm), upd_ne (ne_of_none e ndm)]
      exact e
    · have pm : p ≠ m := ne_of_none upd_same nm
      have pd : p ≠ dxm := ne_of_none upd_same ndm
      have hp4 : H4 p = some (.ins CS dx (putF "directions" (.ref r) (putF "name" (.ref n) []))) := kp p _ (by rw [upd_ne pm, upd_ne pd]; exact upd_same) pm
      refine ⟨_, rfl, p, CS, dx, _, rfl, hp4, C.cl, C.meas, (by show 2 < 1000; decide), ?_⟩
      have b1 : But p H (upd (upd (upd (upd H p (.ins CS dx (putF "name" (.ref n) []))) p (.ins CS dx (putF "directions" (.ref r) (putF "name" (.ref n) [])))) dxm (.own m)) m (.ins CM dxm [])) := fun b o e hb => by
        have e1 : (upd (upd H p (.ins CS dx (putF "name" (.ref n) []))) p (.ins CS dx (putF "directions" (.ref r) (putF "name" (.ref n) [])))) b = some o := by
          rw [upd_ne hb, upd_ne hb]
          exact e
        rw [upd_ne (ne_of_none e1 nm), upd_ne (ne_of_none e1 ndm)]
        exact e1
      have hpc : (upd (upd (upd (upd H p (.ins CS dx (putF "name" (.ref n) []))) p (.ins CS dx (putF "directions" (.ref r) (putF "name" (.ref n) [])))) dxm (.own m)) m (.ins CM dxm [])) p = some (.ins CS dx (putF "directions" (.ref r) (putF "name" (.ref n) []))) := by
        rw [upd_ne pm, upd_ne pd]
        exact upd_same
      have nm0 : H m = Option.none := by
        rw [upd_ne pm.symm, upd_ne pm.symm] at nm
        exact nm
      obtain ⟨dx', w0, st, c, m1, m2, m3, m4, m5, m6, m7⟩ := mn
      have lp : ∀ {b : Addr} {l : List V}, H4 b = some (.lst l) → b ≠ p := fun e => ne_of e hp4 (by intro z; cases z)
      refine k _ m ?_ nm0 ⟨dx', w0, st, c, ?_, b1.free hpc m2, ?_, b1.free hpc m4, ?_, b1.free hpc m6, ?_⟩ fun b o e hb => ?_
      · rw [upd_same]
        have e1 : putF "directions" (.ref r) ([("name", .ref n)] : List (Str × V)) = ([("name", .ref n), ("directions", .ref r)] : List (Str × V)) := by
          rw [put_miss (by decide +kernel)]
          rfl
        have e2 : putF "measure" (.ref m) ([("name", .ref n), ("directions", .ref r)] : List (Str × V)) = sf n r m := by
          rw [put_miss (by decide +kernel), put_miss (by decide +kernel)]
          rfl
        show some (HO.ins CS dx (putF "measure" (.ref m) (putF "directions" (.ref r) ([("name", .ref n)] : List (Str × V))))) = _
        rw [e1, e2]
      · rw [upd_ne pm.symm]
        exact m1
      · rw [upd_ne (lp m3)]
        exact m3
      · rw [upd_ne (lp m5)]
        exact m5
      · rw [upd_ne (lp m7)]
        exact m7
      · rw [upd_ne hb]
        refine kp b o (b1 b o e hb) fun z => ?_
        rw [z, nm0] at e
        cases e
/-! ### Pad.__init__ -/
theorem scPadInit : FnScope ["self"] ["self"] (defScope sPad_Init) := ⟨rfl, rfl, rfl, by decide +kernel, rfl, by decide +kernel, by decide +kernel⟩
theorem ok_padInit {f : Addr} {fd : FuncData} (F : Fun K "__init__" "Pad.__init__" sPad_Init f fd) (C : ClsP K CP) : FnOk P w K mg base CX0 1 f fd ["self"] (spPadInit CP CS CM) := by
  refine F.ok scPadInit (fun vs H Q E h => ?_) (fun cdv A outer s H vs Q E hr h => ?_)
  · obtain ⟨p, dx, rfl, _⟩ := h
    rfl
  · obtain ⟨p, dx, rfl, hp, k⟩ := h
    refine ⟨_, pss_cons (ps_fld (pv 0) pe_int rfl) (pss_cons (ps_fld (pv 0) (pe_lst pa_nil) rfl) (pss_cons (ps_fld (pv 0) (pe_lst pa_nil) rfl) (pss_one (ps_fld (pv 0) (pe_lst pa_nil) rfl)))), ?_⟩
    refine ⟨_, rfl, p, CP, dx, [], rfl, hp, C.cl, C.limit, (by show 0 < 1000; decide), Nat.zero_le _, fun l1 n1 => ?_⟩
    have p1 : p ≠ l1 := ne_of_none upd_same n1
    refine ⟨_, rfl, p, CP, dx, _, rfl, (by rw [upd_ne p1]; exact upd_same), C.cl, C.signs, (by show 1 < 1000; decide), Nat.zero_le _, fun l2 n2 => ?_⟩
    have p2 : p ≠ l2 := ne_of_none upd_same n2
    have l12 : l1 ≠ l2 := ne_of_none (by rw [upd_ne p1.symm]; exact upd_same) n2
    refine ⟨_, rfl, p, CP, dx, _, rfl, (by rw [upd_ne p2]; exact upd_same), C.cl, C.points, (by show 2 < 1000; decide), Nat.zero_le _, fun l3 n3 => ?_⟩
    have p3 : p ≠ l3 := ne_of_none upd_same n3
    have l13 : l1 ≠ l3 := ne_of_none (by rw [upd_ne p1.symm, upd_ne l12, upd_ne p1.symm]; exact upd_same) n3
    have l23 : l2 ≠ l3 := ne_of_none (by rw [upd_ne p2.symm]; exact upd_same) n3
    refine ⟨_, rfl, p, CP, dx, _, rfl, (by rw [upd_ne p3]; exact upd_same), C.cl, C.taken, (by show 3 < 1000; decide), ?_⟩
    have f1 : H l1 = Option.none := by rw [upd_ne p1.symm] at n1; exact n1
    have f2 : H l2 = Option.none := by rw [upd_ne p2.symm, upd_ne l12.symm, upd_ne p2.symm] at n2; exact n2
    have f3 : H l3 = Option.none := by rw [upd_ne p3.symm, upd_ne l23.symm, upd_ne p3.symm, upd_ne l13.symm, upd_ne p3.symm] at n3; exact n3
    refine k _ [p, l1, l2, l3] ⟨fun b o e hb => ?_, fun b hb => ?_⟩ ⟨l1, l2, l3, [], rfl, ?_⟩
    · have q0 : b ≠ p := fun z => hb (by rw [z]; exact List.mem_singleton.mpr rfl)
      rw [upd_ne q0, upd_ne (ne_of_none e f3), upd_ne q0, upd_ne (ne_of_none e f2), upd_ne q0, upd_ne (ne_of_none e f1), upd_ne q0]
      exact e
    · rcases List.mem_cons.mp hb with rfl | hb
      · exact .inl (List.mem_singleton.mpr rfl)
      · rcases List.mem_cons.mp hb with rfl | hb
        · exact .inr f1
        · rcases List.mem_cons.mp hb with rfl | hb
          · exact .inr f2
          · rcases List.mem_cons.mp hb with rfl | hb
            · exact .inr f3
            · cases hb
    · refine ⟨⟨dx, ?_⟩, l12, l13, l23, ⟨[], ?_, .nil⟩, ⟨[], ?_, .nil⟩, ⟨[], ?_, .nil⟩, Nat.zero_le _, Nat.zero_le _, Nat.zero_le _, fun s hs => ?_, fun n hn => ?_, fun b hb => ?_, fun x hx => ?_, fun x hx => ?_⟩
      · rw [upd_same]
        have e1 : putF "signs" (.ref l1) ([("limit", .int 0)] : List (Str × V)) = ([("limit", .int 0), ("signs", .ref l1)] : List (Str × V)) := by
          rw [put_miss (by decide +kernel)]
          rfl
        have e2 : putF "points" (.ref l2) ([("limit", .int 0), ("signs", .ref l1)] : List (Str × V)) = ([("limit", .int 0), ("signs", .ref l1), ("points", .ref l2)] : List (Str × V)) := by
          rw [put_miss (by decide +kernel), put_miss (by decide +kernel)]
          rfl
        have e3 : putF "taken" (.ref l3) ([("limit", .int 0), ("signs", .ref l1), ("points", .ref l2)] : List (Str × V)) = ([("limit", .int 0), ("signs", .ref l1), ("points", .ref l2), ("taken", .ref l3)] : List (Str × V)) := by
          rw [put_miss (by decide +kernel), put_miss (by decide +kernel), put_miss (by decide +kernel)]
          rfl
        show some (HO.ins CP dx (putF "taken" (.ref l3) (putF "points" (.ref l2) (putF "signs" (.ref l1) ([("limit", .int 0)] : List (Str × V)))))) = _
        rw [e1, e2, e3]
        rfl
      · rw [upd_ne p1.symm, upd_ne l13, upd_ne p1.symm, upd_ne l12, upd_ne p1.symm]
        exact upd_same
      · rw [upd_ne p2.symm, upd_ne l23, upd_ne p2.symm]
        exact upd_same
      · rw [upd_ne p3.symm]
        exact upd_same
      · cases hs
      · cases hn
      · cases hb
      · cases hx
      · cases hx
end
end My
set_option Elab.async false
set_option maxRecDepth 100000
set_option maxHeartbeats 4000000
namespace My
open PySem PySem.Spec PyProof.Rows L2
open Ks319 (Point)
open Ks321 (Sign Abs)
section
variable {P : Program} {w : World} {K : PySem.W.Frag} {mg : Str → Option Value} {base : Heap} {CP CS CM : Addr}
/-! ### Pad.begin -/
theorem scBegin : FnScope ["self", "limit"] ["self", "limit"] (defScope sPad_Begin) := ⟨rfl, rfl, rfl, by decide +kernel, rfl, by decide +kernel, by decide +kernel⟩
theorem ok_begin {f : Addr} {fd : FuncData} (F : Fun K "begin" "Pad.begin" sPad_Begin f fd) (T : Txt mg) (C : ClsP K CP) : FnOk P w K mg base CX0 1 f fd ["self", "limit"] (spBegin CP CS CM) := by
  refine F.ok scBegin (fun vs H Q E h => ?_) (fun cdv A outer s H vs Q E hr h => ?_)
  · obtain ⟨p, F, X, a, lim, rfl, _⟩ := h
    rfl
  · obtain ⟨p, F, X, a, lim, rfl, hB, k⟩ := h
    obtain ⟨ls, lp, lt, ms, rfl, B⟩ := hB
    obtain ⟨dx, hp⟩ := B.pad
    refine ⟨_, pss_cons (ps_if (pt_cmpR op_gt (pv 1) (pe_gint (by rfl) T.HIGHEST_LIMIT) (nomark _)) (pss_one (ps_ret (pe_gint (by rfl) T.OUT_OF_RANGE))) pss_nil)
      (pss_cons (ps_fld (pv 0) (pv 1) rfl) (pss_cons (ps_fld (pv 0) (pe_lst pa_nil) rfl) (pss_cons (ps_fld (pv 0) (pe_lst pa_nil) rfl) (pss_cons (ps_fld (pv 0) (pe_lst pa_nil) rfl) (pss_one (ps_ret pe_int)))))), ?_⟩
    refine ⟨_, rfl, _, _, rfl, rfl, _, rfl, ite2 (fun h1 => ?_) (fun h1 => ?_)⟩
    · have h1 := of_decide_eq_true h1
      have e : Ks321.act a (.begin lim) = (a, Ks321.no (-22)) := by
        show (if 1000 < lim then _ else _) = _
        rw [if_pos (by omega)]
      rw [e] at k
      exact k H _ (Step.same (Same.refl H) _) ⟨ls, lp, lt, ms, rfl, B⟩
    · have h1 : ¬ _ := fun z => h1 (decide_eq_true z)
      have e : Ks321.act a (.begin lim) = ({ limit := lim }, Ks321.no 0) := by
        show (if 1000 < lim then _ else _) = _
        rw [if_neg (by omega)]
      rw [e] at k
      refine ⟨_, rfl, _, rfl, p, CP, dx, _, rfl, hp, C.cl, C.limit, (by show 4 < 1000; decide), ?_⟩
      rw [pf_put_limit]
      refine ⟨Nat.zero_le _, fun l1 n1 => ?_⟩
      have p1 : p ≠ l1 := ne_of_none upd_same n1
      refine ⟨_, rfl, p, CP, dx, _, rfl, (by rw [upd_ne p1]; exact upd_same), C.cl, C.signs, (by show 4 < 1000; decide), ?_⟩
      rw [pf_put_signs]
      refine ⟨Nat.zero_le _, fun l2 n2 => ?_⟩
      have p2 : p ≠ l2 := ne_of_none upd_same n2
      have l12 : l1 ≠ l2 := ne_of_none (by rw [upd_ne p1.symm]; exact upd_same) n2
      refine ⟨_, rfl, p, CP, dx, _, rfl, (by rw [upd_ne p2]; exact upd_same), C.cl, C.points, (by show 4 < 1000; decide), ?_⟩
      rw [pf_put_points]
      refine ⟨Nat.zero_le _, fun l3 n3 => ?_⟩
      have p3 : p ≠ l3 := ne_of_none upd_same n3
      have l13 : l1 ≠ l3 := ne_of_none (by rw [upd_ne p1.symm, upd_ne l12, upd_ne p1.symm]; exact upd_same) n3
      have l23 : l2 ≠ l3 := ne_of_none (by rw [upd_ne p2.symm]; exact upd_same) n3
      refine ⟨_, rfl, p, CP, dx, _, rfl, (by rw [upd_ne p3]; exact upd_same), C.cl, C.taken, (by show 4 < 1000; decide), ?_⟩
      rw [pf_put_taken]
      have f1 : H l1 = Option.none := by rw [upd_ne p1.symm] at n1; exact n1
      have f2 : H l2 = Option.none := by rw [upd_ne p2.symm, upd_ne l12.symm, upd_ne p2.symm] at n2; exact n2
      have f3 : H l3 = Option.none := by rw [upd_ne p3.symm, upd_ne l23.symm, upd_ne p3.symm, upd_ne l13.symm, upd_ne p3.symm] at n3; exact n3
      have kk : ∀ H' : Hp, Step H H' (foot p ls lp lt ms) (foot p l1 l2 l3 ms) → (Step H H' (foot p ls lp lt ms) (foot p l1 l2 l3 ms) → PadAt CP CS CM H' p l1 l2 l3 ms X { limit := lim }) → Q (V.int 0) H' := fun H' st g => k H' _ st ⟨l1, l2, l3, ms, rfl, g st⟩
      refine kk _ (step_foot (fun b o e hb => ?_) (.inr f1) (.inr f2) (.inr f3)) (fun st0 => ?_)
      · obtain ⟨q0, _, _, _⟩ := in4 hb
        rw [upd_ne q0, upd_ne (ne_of_none e f3), upd_ne q0, upd_ne (ne_of_none e f2), upd_ne q0, upd_ne (ne_of_none e f1), upd_ne q0]
        exact e
      · refine ⟨⟨dx, upd_same⟩, l12, l13, l23, ⟨[], ?_, .nil⟩, ⟨[], ?_, .nil⟩, ⟨[], ?_, .nil⟩, Nat.zero_le _, Nat.zero_le _, Nat.zero_le _, fun s hs => ?_, fun n hn => ?_, ?_, fun x hx => (B.meas x hx).step st0 (fun o e => ?_), B.mp⟩
        · rw [upd_ne p1.symm, upd_ne l13, upd_ne p1.symm, upd_ne l12, upd_ne p1.symm]
          exact upd_same
        · rw [upd_ne p2.symm, upd_ne l23, upd_ne p2.symm]
          exact upd_same
        · rw [upd_ne p3.symm]
          exact upd_same
        · cases hs
        · cases hn
        · exact st0.thX B.thX
        · have q0 := B.mp x hx
          rw [upd_ne q0, upd_ne (ne_of_none e f3), upd_ne q0, upd_ne (ne_of_none e f2), upd_ne q0, upd_ne (ne_of_none e f1), upd_ne q0]
          exact e
/-! ### Pad.move -/
theorem scMove : FnScope ["self", "x", "y"] ["self", "x", "y"] (defScope sPad_Move) := ⟨rfl, rfl, rfl, by decide +kernel, rfl, by decide +kernel, by decide +kernel⟩
theorem ok_move {f : Addr} {fd : FuncData} (F : Fun K "move" "Pad.move" sPad_Move f fd) (T : Txt mg) (C : ClsP K CP) : FnOk P w K mg base CX0 1 f fd ["self", "x", "y"] (spMove CP CS CM) := by
  refine F.ok scMove (fun vs H Q E h => ?_) (fun cdv A outer s H vs Q E hr h => ?_)
  · obtain ⟨p, F, X, a, x, y, rfl, _⟩ := h
    rfl
  · obtain ⟨p, F, X, a, x, y, rfl, hB, k⟩ := h
    obtain ⟨ls, lp, lt, ms, rfl, B⟩ := hB
    obtain ⟨dx, hp⟩ := B.pad
    obtain ⟨vp, hlp, hpts⟩ := B.points
    have hlen := hpts.length
    have h64 := B.lenP
    refine ⟨_, pss_cons (ps_if (pw_or (pt_cmpR op_gt (pv 1) (pe_gint (by rfl) T.HIGHEST_PLACE) (nomark _)) (pw_or1 (pt_cmpR op_gt (pv 2) (pe_gint (by rfl) T.HIGHEST_PLACE) (nomark _)))).pt (pss_one (ps_ret (pe_gint (by rfl) T.OUT_OF_RANGE))) pss_nil)
      (pss_cons (ps_if (pt_cmpR op_ge (pe_callB call_len_seq (by rfl) T.len PySem.boot_len (pa_cons (pe_fld (pv 0) rfl) pa_nil)) (pe_gint (by rfl) T.MOST_POINTS) (nomark _)) (pss_one (ps_ret (pe_gint (by rfl) T.FULL))) pss_nil)
      (pss_cons (ps_expr (pe_bm PySem.F.plainAttrs_list PySem.F.slot_list_append PySem.F.type_list_append mt_append (pe_fld (pv 0) rfl) (pa_cons (pe_tup (pa_cons (pv 1) (pa_cons (pv 2) pa_nil))) pa_nil)))
      (pss_one (ps_ret (pe_callB call_len_seq (by rfl) T.len PySem.boot_len (pa_cons (pe_fld (pv 0) rfl) pa_nil)))))), ?_⟩
    have refused : Ks319.PLACE < x ∨ Ks319.PLACE < y → Q (.int (-22)) H := fun h => by
      have e : Ks321.act a (.move x y) = (a, Ks321.no (-22)) := by
        show (if Ks319.PLACE < x ∨ Ks319.PLACE < y then _ else _) = _
        rw [if_pos h]
      rw [e] at k
      exact k H _ (Step.same (Same.refl H) _) ⟨ls, lp, lt, ms, rfl, B⟩
    have pl : (Ks319.PLACE : Nat) = 1023 := rfl
    refine ⟨_, rfl, _, _, rfl, rfl, _, rfl, ite2 (fun h1 => ?_) (fun h1 => ?_)⟩
    · have h1 := of_decide_eq_true h1
      exact iteT (refused (.inl (by omega)))
    · have h1 : ¬ _ := fun z => h1 (decide_eq_true z)
      refine ⟨_, rfl, _, _, rfl, rfl, _, rfl, ite2 (fun h2 => ?_) (fun h2 => ?_)⟩
      · have h2 := of_decide_eq_true h2
        exact refused (.inr (by omega))
      · have h2 : ¬ _ := fun z => h2 (decide_eq_true z)
        have hn : ¬ (Ks319.PLACE < x ∨ Ks319.PLACE < y) := by omega
        refine ⟨_, rfl, p, CP, dx, _, _, rfl, hp, C.cl, C.points, pf_points _ _ _ _, lp, _, rfl, .inl (SqL.of hlp), _, _, rfl, rfl, _, rfl, ite2 (fun h3 => ?_) (fun h3 => ?_)⟩
        · have h3 := of_decide_eq_true h3
          have e : Ks321.act a (.move x y) = (a, Ks321.no (-12)) := by
            show (if Ks319.PLACE < x ∨ Ks319.PLACE < y then _ else if Ks319.POINTS ≤ a.points.length then _ else _) = _
            rw [if_neg hn, if_pos (by show 64 ≤ _; omega)]
          rw [e] at k
          exact k H _ (Step.same (Same.refl H) _) ⟨ls, lp, lt, ms, rfl, B⟩
        · have h3 : ¬ _ := fun z => h3 (decide_eq_true z)
          have e : Ks321.act a (.move x y) = ({ a with points := a.points ++ [(x, y)] }, Ks321.no (a.points.length + 1 : Nat)) := by
            show (if Ks319.PLACE < x ∨ Ks319.PLACE < y then _ else if Ks319.POINTS ≤ a.points.length then _ else _) = _
            rw [if_neg hn, if_neg (by show ¬ 64 ≤ _; omega)]
          rw [e] at k
          refine ⟨_, rfl, p, CP, dx, _, _, rfl, hp, C.cl, C.points, pf_points _ _ _ _, .inl ⟨rfl, _, SqL.of hlp⟩, _, rfl, _, rfl, (by show 2 ≤ sizeLine; decide), fun t ht => ?_⟩
          have s1 : Same H (upd H t (.tup [.int (x : Int), .int (y : Int)])) := same_new ht
          have tp : t ≠ lp := fun z => by rw [z, hlp] at ht; cases ht
          have pp : p ≠ lp := ne_of hp hlp (by intro z; cases z)
          refine ⟨lp, _, _, rfl, rfl, s1 _ _ hlp, small_size (by omega), ?_⟩
          have hp2 : upd (upd H t (.tup [.int (x : Int), .int (y : Int)])) lp (.lst (vp ++ [.ref t])) p = some (.ins CP dx (pf a.limit ls lp lt)) := by
            rw [upd_ne pp]
            exact s1 _ _ hp
          refine ⟨_, rfl, p, CP, dx, _, _, rfl, hp2, C.cl, C.points, pf_points _ _ _ _, lp, _, rfl, .inl (SqL.of upd_same), ?_⟩
          have st : Step H (upd (upd H t (.tup [.int (x : Int), .int (y : Int)])) lp (.lst (vp ++ [.ref t]))) (foot p ls lp lt ms) (foot p ls lp lt ms) := ⟨fun b o e hb => by
            rw [upd_ne (in4 hb).2.2.1]
            exact s1 _ _ e, fun _ h => .inl h⟩
          have kk := k _ (foot p ls lp lt ms) st ⟨ls, lp, lt, ms, rfl, ?_⟩
          · rw [List.length_append, hlen]
            exact kk
          · obtain ⟨vs, hls, hsg⟩ := B.signs
            obtain ⟨vt, hlt, htk⟩ := B.taken
            refine ⟨⟨dx, hp2⟩, B.sp, B.st, B.pt, ⟨vs, ?_, Paired.mapP hsg fun _ _ q => SignV.step st q⟩, ⟨_, upd_same, ?_⟩, ⟨vt, ?_, Paired.mapP htk fun _ _ q => NameV.step st q⟩, B.lenS, ?_, B.lenT, B.okS, B.okT, st.thX B.thX, fun x hx => (B.meas x hx).step st (fun o e => by rw [upd_ne ((B.meas x hx).ne hlp)]; exact s1 _ _ e), B.mp⟩
            · rw [upd_ne B.sp]
              exact s1 _ _ hls
            · refine Paired.snoc (Paired.mapP hpts fun v q ⟨c, e, hc⟩ => ⟨c, e, ?_⟩) ⟨t, rfl, ?_⟩
              · show upd _ lp _ c = _
                rw [upd_ne (ne_of hc hlp (by intro z; cases z))]
                exact s1 _ _ hc
              · show upd _ lp _ t = _
                rw [upd_ne tp]
                exact upd_same
            · rw [upd_ne B.pt.symm]
              exact s1 _ _ hlt
            · show (a.points ++ [(x, y)]).length ≤ 64
              rw [List.length_append]
              simp only [List.length_cons, List.length_nil]
              omega
/-! ### the points are gone: a new list stands in their place -/
theorem PadAt.cleared {H : Hp} {p ls lp lt dx l : Addr} {ms : List (Addr × List Nat)} {X : List Addr} {a : Abs} (B : PadAt CP CS CM H p ls lp lt ms X a) (hp : H p = some (.ins CP dx (pf a.limit ls lp lt))) (hl : H l = Option.none) :
    Step H (upd (upd H l (.lst [])) p (.ins CP dx (pf a.limit ls l lt))) (foot p ls lp lt ms) (foot p ls l lt ms) ∧ PadAt CP CS CM (upd (upd H l (.lst [])) p (.ins CP dx (pf a.limit ls l lt))) p ls l lt ms X { a with points := [] } := by
  obtain ⟨vs, hls, hsg⟩ := B.signs
  obtain ⟨vt, hlt, htk⟩ := B.taken
  have pl : p ≠ l := ne_of_none hp hl
  have sl : ls ≠ l := ne_of_none hls hl
  have tl : lt ≠ l := ne_of_none hlt hl
  have sp : ls ≠ p := ne_of hls hp (by intro z; cases z)
  have tp : lt ≠ p := ne_of hlt hp (by intro z; cases z)
  have st : Step H (upd (upd H l (.lst [])) p (.ins CP dx (pf a.limit ls l lt))) (foot p ls lp lt ms) (foot p ls l lt ms) := by
    refine step_foot (fun b o e hb => ?_) (.inl rfl) (.inr hl) (.inl rfl)
    rw [upd_ne (in4 hb).1, upd_ne (ne_of_none e hl)]
    exact e
  refine ⟨st, ⟨dx, upd_same⟩, sl, B.st, tl.symm, ⟨vs, ?_, Paired.mapP hsg fun _ _ q => SignV.step st q⟩, ⟨[], ?_, .nil⟩, ⟨vt, ?_, Paired.mapP htk fun _ _ q => NameV.step st q⟩, B.lenS, Nat.zero_le _, B.lenT, B.okS, B.okT, st.thX B.thX, fun x hx => (B.meas x hx).step st (fun o e => by rw [upd_ne (B.mp x hx), upd_ne (ne_of_none e hl)]; exact e), B.mp⟩
  · rw [upd_ne sp, upd_ne sl]
    exact hls
  · rw [upd_ne pl.symm]
    exact upd_same
  · rw [upd_ne tp, upd_ne tl]
    exact hlt
/-! ### Pad.clear -/
theorem scClear : FnScope ["self", "drawn"] ["self"] (defScope sPad_Clear) := ⟨rfl, rfl, rfl, by decide +kernel, rfl, by decide +kernel, by decide +kernel⟩
theorem ok_clear {f : Addr} {fd : FuncData} (F : Fun K "clear" "Pad.clear" sPad_Clear f fd) (T : Txt mg) (C : ClsP K CP) : FnOk P w K mg base CX0 1 f fd ["self"] (spClear CP CS CM) := by
  refine F.ok scClear (fun vs H Q E h => ?_) (fun cdv A outer s H vs Q E hr h => ?_)
  · obtain ⟨p, F, X, a, rfl, _⟩ := h
    rfl
  · obtain ⟨p, F, X, a, rfl, hB, k⟩ := h
    obtain ⟨ls, lp, lt, ms, rfl, B⟩ := hB
    obtain ⟨dx, hp⟩ := B.pad
    obtain ⟨vp, hlp, hpts⟩ := B.points
    have hlen := hpts.length
    refine ⟨_, pss_cons (ps_set (i := 1) scClear.nd rfl (Or.inl rfl) (pe_callB call_len_seq (by rfl) T.len PySem.boot_len (pa_cons (pe_fld (pv 0) rfl) pa_nil)))
      (pss_cons (ps_fld (pv 0) (pe_lst pa_nil) rfl) (pss_one (ps_ret (pv 1)))), ?_⟩
    refine ⟨_, rfl, p, CP, dx, _, _, rfl, hp, C.cl, C.points, pf_points _ _ _ _, lp, _, rfl, .inl (SqL.of hlp), Nat.zero_le _, fun l hl => ?_⟩
    have pl : p ≠ l := ne_of_none hp hl
    refine ⟨_, rfl, p, CP, dx, _, rfl, (by rw [upd_ne pl]; exact hp), C.cl, C.points, (by show 4 < 1000; decide), ?_⟩
    rw [pf_put_points]
    obtain ⟨st, B'⟩ := B.cleared hp hl
    have kk := k _ _ st ⟨ls, l, lt, ms, rfl, B'⟩
    refine ⟨_, rfl, ?_⟩
    rw [hlen]
    exact kk
/-! ### Pad.row -/
theorem scRowM : FnScope ["self"] ["self"] (defScope sPad_Row) := ⟨rfl, rfl, rfl, by decide +kernel, rfl, by decide +kernel, by decide +kernel⟩
theorem ok_rowM {f : Addr} {fd : FuncData} (F : Fun K "row" "Pad.row" sPad_Row f fd) (C : ClsP K CP) (hRow : FnAt P w K mg base 3 "row_of" ["points"] spRow) : FnOk P w K mg base CX0 4 f fd ["self"] (spRowM CP CS CM) := by
  obtain ⟨fR, fdR, GR, mR, kR, bR⟩ := hRow
  refine F.ok scRowM (fun vs H Q E h => ?_) (fun cdv A outer s H vs Q E hr h => ?_)
  · obtain ⟨p, F, X, a, rfl, _⟩ := h
    rfl
  · obtain ⟨p, F, X, a, rfl, hB, k⟩ := h
    obtain ⟨ls, lp, lt, ms, rfl, B⟩ := hB
    obtain ⟨dx, hp⟩ := B.pad
    obtain ⟨vp, hlp, hpts⟩ := B.points
    refine ⟨_, pss_one (ps_ret (pe_call GR hr rfl mR kR bR .nil pass0 (pa_cons (pe_fld (pv 0) rfl) pa_nil))), ?_⟩
    exact ⟨_, rfl, p, CP, dx, _, _, rfl, hp, C.cl, C.points, pf_points _ _ _ _, lp, vp, a.points, rfl, hlp, hpts, B.lenP, fun H' r s1 nr hr' => k H' r s1 nr hr'⟩
/-! ### Pad.teach -/
theorem scTeach : FnScope ["self", "name", "directions"] ["self", "name"] (defScope sPad_Teach) := ⟨rfl, rfl, rfl, by decide +kernel, rfl, by decide +kernel, by decide +kernel⟩
theorem okName_len {n : List Nat} (h : Ks321.okName n = true) : n.length ≤ 8 := by
  rw [okName_is, Bool.and_eq_true, Bool.and_eq_true] at h
  exact of_decide_eq_true h.1.2
theorem ok_teach {f : Addr} {fd : FuncData} (F : Fun K "teach" "Pad.teach" sPad_Teach f fd) (T : Txt mg) (C : ClsP K CP) (hRow : FnAt P w K mg base 3 "row_of" ["points"] spRow) (hName : FnAt P w K mg base 1 "is_name" ["name"] spName) (hSign : MkAt P w K mg base 4 "Sign" CS ["self", "name", "directions"] (spSignInit CS CM)) : FnOk P w K mg base CX0 6 f fd ["self", "name"] (spTeach CP CS CM) := by
  obtain ⟨fR, fdR, GR, mR, kR, bR⟩ := hRow
  obtain ⟨fN, fdN, GN, mN, kN, bN⟩ := hName
  obtain ⟨fS, fdS, GS, MS, mS, bS⟩ := hSign
  refine F.ok scTeach (fun vs H Q E h => ?_) (fun cdv A outer s H vs Q E hr h => ?_)
  · obtain ⟨p, F, X, a, c, n, rfl, _⟩ := h
    rfl
  · obtain ⟨p, F, X, a, c, n, rfl, hB, hNm, hnl, k⟩ := h
    obtain ⟨ls, lp, lt, ms, rfl, B⟩ := hB
    obtain ⟨dx, hp⟩ := B.pad
    obtain ⟨vp, hlp, hpts⟩ := B.points
    obtain ⟨vs, hls, hsg⟩ := B.signs
    obtain ⟨_, e, hcF, hc⟩ := hNm
    cases e
    have hr1 : Room 1 _ := hr.mono (by decide)
    have hr3 : Room 3 _ := hr.mono (by decide)
    refine ⟨_, pss_cons (ps_if (pt_not (pt_val (pe_call GN hr1 rfl mN kN bN .nil pass0 (pa_cons (pv 1) pa_nil)))) (pss_one (ps_ret (pe_gint (by rfl) T.OUT_OF_RANGE))) pss_nil)
      (pss_cons (ps_set (i := 2) scTeach.nd rfl (Or.inl rfl) (pe_call GR hr3 rfl mR kR bR .nil pass0 (pa_cons (pe_fld (pv 0) rfl) pa_nil)))
      (pss_cons (ps_if (pt_cmpR op_eq (pe_callB call_len_seq (by rfl) T.len PySem.boot_len (pa_cons (pv 2) pa_nil)) pe_int (nomark _)) (pss_one (ps_ret (pe_gint (by rfl) T.NO_DIRECTIONS))) pss_nil)
      (pss_cons (ps_if (pt_cmpR op_ge (pe_callB call_len_seq (by rfl) T.len PySem.boot_len (pa_cons (pe_fld (pv 0) rfl) pa_nil)) (pe_gint (by rfl) T.MOST_SIGNS) (nomark _)) (pss_one (ps_ret (pe_gint (by rfl) T.FULL))) pss_nil)
      (pss_cons (ps_expr (pe_bm PySem.F.plainAttrs_list PySem.F.slot_list_append PySem.F.type_list_append mt_append (pe_fld (pv 0) rfl) (pa_cons (pe_make MS GS hr rfl mS bS .nil pass0 (pa_cons (pv 1) (pa_cons (pv 2) pa_nil))) pa_nil)))
      (pss_cons (ps_fld (pv 0) (pe_lst pa_nil) rfl)
      (pss_one (ps_ret (pe_callB call_len_seq (by rfl) T.len PySem.boot_len (pa_cons (pe_fld (pv 0) rfl) pa_nil))))))))), ?_⟩
    refine ⟨_, rfl, c, n, rfl, hc, hnl, fun H1 s1 => ⟨_, rfl, ite2 (fun h1 => ?_) (fun h1 => ?_)⟩⟩
    · have e : Ks321.act a (.teach n) = (a, Ks321.no (-22)) := by
        show (if Ks321.okName n = false then _ else _) = _
        rw [if_pos (by simpa using h1)]
      rw [e] at k
      exact k H1 _ (Step.same s1 _) ⟨ls, lp, lt, ms, rfl, B.same s1⟩
    · have h1 : Ks321.okName n = true := by simpa using h1
      refine ⟨_, rfl, p, CP, dx, _, _, rfl, s1 _ _ hp, C.cl, C.points, pf_points _ _ _ _, lp, vp, a.points, rfl, s1 _ _ hlp, hpts.mono s1, B.lenP, fun H2 r s2 nr hr' => ?_⟩
      have s12 := s1.trans s2
      have B2 := B.same s12
      refine ⟨_, rfl, r, _, rfl, .inl (SqL.of hr'), rfl, _, rfl, ite2 (fun h2 => ?_) (fun h2 => ?_)⟩
      · have h2 := V.int.inj (of_decide_eq_true h2)
        rw [vI_length] at h2
        have e0 : Ks321.drawn a = [] := List.eq_nil_of_length_eq_zero (by show (Ks319.row a.points).length = 0; omega)
        have e : Ks321.act a (.teach n) = (a, Ks321.no (-61)) := by
          show (if Ks321.okName n = false then _ else if Ks321.drawn a = [] then _ else _) = _
          rw [if_neg (by rw [h1]; decide), if_pos e0]
        rw [e] at k
        exact k H2 _ (Step.same s12 _) ⟨ls, lp, lt, ms, rfl, B2⟩
      · have e0 : ¬ Ks321.drawn a = [] := fun z => h2 (by
          rw [show Ks319.row a.points = [] from z]
          rfl)
        have slen := hsg.length
        have hdl : (Ks321.drawn a).length ≤ 64 := Nat.le_trans (row_length a.points) B.lenP
        refine ⟨_, rfl, p, CP, dx, _, _, rfl, s12 _ _ hp, C.cl, C.signs, pf_signs _ _ _ _, ls, _, rfl, .inl (SqL.of (s12 _ _ hls)), _, _, rfl, rfl, _, rfl, ite2 (fun h3 => ?_) (fun h3 => ?_)⟩
        · have h3 := of_decide_eq_true h3
          have e : Ks321.act a (.teach n) = (a, Ks321.no (-12)) := by
            show (if Ks321.okName n = false then _ else if Ks321.drawn a = [] then _ else if Ks321.SIGNS ≤ a.signs.length then _ else _) = _
            rw [if_neg (by rw [h1]; decide), if_neg e0, if_pos (by show 40 ≤ _; omega)]
          rw [e] at k
          exact k H2 _ (Step.same s12 _) ⟨ls, lp, lt, ms, rfl, B2⟩
        · have h3 : ¬ _ := fun z => h3 (decide_eq_true z)
          have e : Ks321.act a (.teach n) = ({ a with signs := a.signs ++ [⟨n, Ks321.drawn a⟩], points := [] }, Ks321.no (a.signs.length + 1 : Nat)) := by
            show (if Ks321.okName n = false then _ else if Ks321.drawn a = [] then _ else if Ks321.SIGNS ≤ a.signs.length then _ else _) = _
            rw [if_neg (by rw [h1]; decide), if_neg e0, if_neg (by show ¬ 40 ≤ _; omega)]
          rw [e] at k
          refine ⟨_, rfl, p, CP, dx, _, _, rfl, s12 _ _ hp, C.cl, C.signs, pf_signs _ _ _ _, .inl ⟨rfl, _, SqL.of (s12 _ _ hls)⟩, _, rfl, _, rfl, fun x dxx nx ndx nex => ?_⟩
          have er : (upd (upd H2 dxx (.own x)) x (.ins CS dxx [])) r = some (.lst (vI (Ks321.drawn a))) := by
            rw [upd_ne (ne_of_none hr' nx), upd_ne (ne_of_none hr' ndx)]
            exact hr'
          refine ⟨x, dxx, c, r, Ks321.drawn a, rfl, upd_same, er, hdl, fun H3 m hx nm mn kp => ⟨rfl, ?_⟩⟩
          have s3 : Same H2 H3 := fun b o e => by
            have q1 : b ≠ x := ne_of_none e nx
            refine kp b o ?_ q1
            rw [upd_ne q1, upd_ne (ne_of_none e ndx)]
            exact e
          have free2 : ∀ {b : Addr}, (upd (upd H2 dxx (.own x)) x (.ins CS dxx [])) b = Option.none → H2 b = Option.none := fun {b} e => by
            have q1 : b ≠ x := fun z => by rw [z, upd_same] at e; cases e
            rw [upd_ne q1] at e
            have q2 : b ≠ dxx := fun z => by rw [z, upd_same] at e; cases e
            rw [upd_ne q2] at e
            exact e
          have s13 := s12.trans s3
          refine ⟨ls, _, _, rfl, rfl, s13 _ _ hls, small_size (by have := B.lenS; omega), ?_⟩
          -- self.points = []
          generalize hH4 : upd H3 ls (.lst (vs ++ [.ref x])) = H4
          generalize hms : (m, Ks321.drawn a) :: ms = ms'
          have pls : p ≠ ls := ne_of hp hls (by intro z; cases z)
          have hp4 : H4 p = some (.ins CP dx (pf a.limit ls lp lt)) := by
            rw [← hH4, upd_ne pls]
            exact s13 _ _ hp
          have F2 := (show PadIs CP CS CM H2 p (foot p ls lp lt ms) X a from ⟨ls, lp, lt, ms, rfl, B2⟩)
          have nm2 := free2 nm
          have mF : m ∉ foot p ls lp lt ms ++ X := F2.there nm2
          have F1 := (show PadIs CP CS CM H1 p (foot p ls lp lt ms) X a from ⟨ls, lp, lt, ms, rfl, B.same s1⟩)
          have mx : m ≠ x := fun z => by rw [z, upd_same] at nm; cases nm
          have inF : ∀ b, b ∈ foot p ls lp lt ms' ↔ (b = m ∨ b ∈ foot p ls lp lt ms) := fun b => by
            rw [← hms]
            show b ∈ p :: ls :: lp :: lt :: m :: ms.map Prod.fst ↔ (b = m ∨ b ∈ p :: ls :: lp :: lt :: ms.map Prod.fst)
            simp only [List.mem_cons]
            constructor
            · rintro (z | z | z | z | z | z)
              · exact .inr (.inl z)
              · exact .inr (.inr (.inl z))
              · exact .inr (.inr (.inr (.inl z)))
              · exact .inr (.inr (.inr (.inr (.inl z))))
              · exact .inl z
              · exact .inr (.inr (.inr (.inr (.inr z))))
            · rintro (z | z | z | z | z | z)
              · exact .inr (.inr (.inr (.inr (.inl z))))
              · exact .inl z
              · exact .inr (.inl z)
              · exact .inr (.inr (.inl z))
              · exact .inr (.inr (.inr (.inl z)))
              · exact .inr (.inr (.inr (.inr (.inr z))))
          have outF : ∀ {b : Addr}, b ≠ m → b ∉ foot p ls lp lt ms ++ X → b ∉ foot p ls lp lt ms' ++ X := fun {b} h1 h2 z => by
            rcases List.mem_append.mp z with z | z
            · rcases (inF b).mp z with z | z
              · exact h1 z
              · exact h2 (List.mem_append_left _ z)
            · exact h2 (List.mem_append_right _ z)
          have nls : ∀ {b : Addr}, b ∉ foot p ls lp lt ms ++ X → b ≠ ls := fun h => (in4 (fun z => h (List.mem_append_left _ z))).2.1
          have xF : x ∉ foot p ls lp lt ms ++ X := F2.there nx
          have rF : r ∉ foot p ls lp lt ms ++ X := F1.there nr
          have nm1 : H m = Option.none := s12.free nm2
          have st4 : Step H H4 (foot p ls lp lt ms) (foot p ls lp lt ms') := ⟨fun b o e hb => by
            rw [← hH4, upd_ne (in4 hb).2.1]
            exact s13 _ _ e, fun b h => by
            rcases (inF b).mp h with z | z
            · exact .inr (by rw [z]; exact nm1)
            · exact .inl z⟩
          have hr4 : NameV H4 (foot p ls lp lt ms' ++ X) (.ref r) (Ks321.drawn a) := ⟨r, rfl, outF (ne_of_none hr' nm2) rF, by rw [← hH4, upd_ne (nls rF)]; exact s3 _ _ hr'⟩
          have mn4 : MeasNew CM H2 H4 m r (Ks321.drawn a) := by
            obtain ⟨dx', w0, st0, c0, m1, m2, m3, m4, m5, m6, m7⟩ := mn
            have ne0 : ∀ {b : Addr}, H2 b = Option.none → b ≠ ls := fun e => nls (F2.there e)
            refine ⟨dx', w0, st0, c0, ?_, free2 m2, ?_, free2 m4, ?_, free2 m6, ?_⟩
            · rw [← hH4, upd_ne (ne0 nm2)]
              exact m1
            · rw [← hH4, upd_ne (ne0 (free2 m2))]
              exact m3
            · rw [← hH4, upd_ne (ne0 (free2 m4))]
              exact m5
            · rw [← hH4, upd_ne (ne0 (free2 m6))]
              exact m7
          have B4 : PadAt CP CS CM H4 p ls lp lt ms' X { a with signs := a.signs ++ [⟨n, Ks321.drawn a⟩] } := by
            obtain ⟨vt, hlt, htk⟩ := B.taken
            have hm' : (m, Ks321.drawn a) ∈ ms' := by rw [← hms]; exact List.mem_cons_self ..
            have hsub : ∀ y, y ∈ ms → y ∈ ms' := fun y hy => by rw [← hms]; exact List.mem_cons_of_mem _ hy
            refine ⟨⟨dx, hp4⟩, B.sp, B.st, B.pt, ⟨vs ++ [.ref x], ?_, Paired.snoc (Paired.mapP hsg fun _ _ q => ?_) ⟨x, dxx, c, r, m, rfl, outF mx.symm xF, ?_, ⟨c, rfl, st4.outX hc hcF, st4.keepX hc hcF⟩, hr4, hm'⟩⟩, ⟨vp, ?_, Paired.mapP hpts fun v q ⟨b, e, hb⟩ => ⟨b, e, ?_⟩⟩, ⟨vt, ?_, Paired.mapP htk fun _ _ q => NameV.step st4 q⟩, ?_, B.lenP, B.lenT, fun g hg => ?_, B.okT, st4.thX B.thX, fun y hy => ?_, fun y hy => ?_⟩
            · rw [← hH4]
              exact upd_same
            · obtain ⟨b1, b2, b3, b4, b5, e, z1, z2, z3, z4, z5⟩ := SignV.step st4 q
              exact ⟨b1, b2, b3, b4, b5, e, z1, z2, z3, z4, hsub _ z5⟩
            · rw [← hH4, upd_ne (nls xF)]
              exact hx
            · rw [← hH4, upd_ne B.sp.symm]
              exact s13 _ _ hlp
            · show H4 b = _
              rw [← hH4, upd_ne (ne_of hb hls (by intro z; cases z))]
              exact s13 _ _ hb
            · rw [← hH4, upd_ne B.st.symm]
              exact s13 _ _ hlt
            · show (a.signs ++ [_]).length ≤ 40
              rw [List.length_append]
              simp only [List.length_cons, List.length_nil]
              omega
            · rcases List.mem_append.mp hg with q | q
              · exact B.okS g q
              · rw [List.mem_singleton.mp q]
                exact ⟨okName_len h1, hdl, row_lt a.points⟩
            · rw [← hms] at hy
              rcases List.mem_cons.mp hy with rfl | hy
              · refine mn4.at (fun b hb nb => ?_) hr4
                rcases List.mem_append.mp hb with z | z
                · rcases (inF b).mp z with z | z
                  · exact absurd z nb
                  · exact F2.held b (List.mem_append_left _ z)
                · exact F2.held b (List.mem_append_right _ z)
              · refine (B.meas y hy).step st4 fun o e => ?_
                rw [← hH4, upd_ne ((B.meas y hy).ne hls)]
                exact s13 _ _ e
            · rw [← hms] at hy
              rcases List.mem_cons.mp hy with rfl | hy
              · exact fun z => mF (List.mem_append_left _ (by rw [show m = p from z]; exact List.mem_cons_self ..))
              · exact B.mp y hy
          refine ⟨Nat.zero_le _, fun l hl => ?_⟩
          have pl : p ≠ l := ne_of_none hp4 hl
          refine ⟨_, rfl, p, CP, dx, _, rfl, (by rw [upd_ne pl]; exact hp4), C.cl, C.points, (by show 4 < 1000; decide), ?_⟩
          rw [pf_put_points]
          obtain ⟨st5, B5⟩ := B4.cleared hp4 hl
          have hls5 : ∃ vs', upd (upd H4 l (.lst [])) p (.ins CP dx (pf a.limit ls l lt)) ls = some (.lst vs') ∧ vs'.length = a.signs.length + 1 := by
            obtain ⟨vs', q1, q2⟩ := B5.signs
            refine ⟨vs', q1, ?_⟩
            rw [q2.length]
            show (a.signs ++ [_]).length = _
            rw [List.length_append]
            rfl
          obtain ⟨vs', q1, q2⟩ := hls5
          refine ⟨_, rfl, p, CP, dx, _, _, rfl, upd_same, C.cl, C.signs, pf_signs _ _ _ _, ls, _, rfl, .inl (SqL.of q1), ?_⟩
          have kk := k _ _ (st4.trans st5) ⟨ls, l, lt, ms', rfl, B5⟩
          rw [q2]
          exact kk
end
end My
set_option Elab.async false
set_option maxRecDepth 100000
set_option maxHeartbeats 4000000
namespace My
open PySem PySem.Spec PyProof.Rows L2
open Ks319 (Point)
open Ks321 (Sign Abs)
section
variable {P : Program} {w : World} {K : PySem.W.Frag} {mg : Str → Option Value} {base : Heap} {CP CS CM : Addr}
/-! ### names compared -/
theorem dp_all (H : Hp) : ∀ ns : List Int, DpAll K H (ns.map V.int) (ns.map PyData.int)
  | [] => .nil
  | n :: r => .cons (.int n) (dp_all H r)
theorem dp_name {H : Hp} {a : Addr} {n : List Nat} (h : H a = some (.lst (vI n))) : Dp K H (.ref a) (.list ((ofN n).map PyData.int)) := .lst (SqL.of h) (dp_all H _)
theorem ofN_inj : ∀ {n m : List Nat}, ofN n = ofN m → n = m
  | [], [], _ => rfl
  | [], _ :: _, h => by cases h
  | _ :: _, [], h => by cases h
  | a :: n, b :: m, h => by
    obtain ⟨h1, h2⟩ := List.cons.inj h
    have h1 : (a : Int) = (b : Int) := h1
    rw [ofN_inj h2, show a = b by omega]
theorem eqv_name (n m : List Nat) : PyData.eqv (.list ((ofN n).map PyData.int)) (.list ((ofN m).map PyData.int)) = (n == m) := by
  show PyData.eqvAll _ _ = _
  rw [PySem.W.ked_eqvAll]
  by_cases h : n = m
  · subst h
    rw [decide_eq_true rfl, beq_self_eq_true]
  · rw [decide_eq_false (fun z => h (ofN_inj z)), beq_eq_false_iff_ne.mpr h]
/-! ### Pad.forget -/
theorem scForget : FnScope ["self", "name", "left", "gone", "sign"] ["self", "name"] (defScope sPad_Forget) := ⟨rfl, rfl, rfl, by decide +kernel, rfl, by decide +kernel, by decide +kernel⟩
theorem ok_forget {f : Addr} {fd : FuncData} (F : Fun K "forget" "Pad.forget" sPad_Forget f fd) (T : Txt mg) (C : ClsP K CP) (CSg : ClsS K CS) : FnOk P w K mg base CX0 1 f fd ["self", "name"] (spForget CP CS CM) := by
  refine F.ok scForget (fun vs H Q E h => ?_) (fun cdv A outer s H vs Q E hr h => ?_)
  · obtain ⟨p, F, X, a, c, n, rfl, _⟩ := h
    rfl
  · obtain ⟨p, F, X, a, c, n, rfl, hB, hNm, hnl, k⟩ := h
    obtain ⟨ls, lp, lt, ms, rfl, B⟩ := hB
    obtain ⟨dx, hp⟩ := B.pad
    obtain ⟨vp, hlp, hpts⟩ := B.points
    obtain ⟨vs, hls, hsg⟩ := B.signs
    obtain ⟨vt, hlt, htk⟩ := B.taken
    obtain ⟨_, e, hcF, hc⟩ := hNm
    cases e
    have slen := hsg.length
    have h40 := B.lenS
    refine ⟨_, pss_cons (ps_setLc (i := 2) (own := [("sign", 4)]) (tt := tTest (tOp (rNeD K) (tFld K (tVar 4) "name") (tVar 1))) (te := tVar 4) rfl scForget.nd rfl rfl (sw_true rfl rfl rfl rfl) (pi_list (pe_fld (pv 0) rfl)) (blkOk_by (by change blkC ["self", "name", "left", "gone", "sign"] (defScope sPad_Forget) _ _ = true; decide +kernel)) (fun _ _ _ _ _ => pg_name (i := 4) scForget.nd rfl (Or.inl rfl))
        (fun _ _ _ _ _ => pts_one (pt_cmpR (op_neD hr.units) (pe_fld (pv 4) rfl) (pv 1) (nomark _))) (fun _ _ _ _ _ => pv 4))
      (pss_cons (ps_set (i := 3) scForget.nd rfl (Or.inl rfl) (pe_op op_sub (pe_callB call_len_seq (by rfl) T.len PySem.boot_len (pa_cons (pe_fld (pv 0) rfl) pa_nil)) (pe_callB call_len_seq (by rfl) T.len PySem.boot_len (pa_cons (pv 2) pa_nil))))
      (pss_cons (ps_if (pt_cmpR op_eq (pv 3) pe_int (nomark _)) (pss_one (ps_ret (pe_gint (by rfl) T.NOT_THERE))) pss_nil)
      (pss_cons (ps_fld (pv 0) (pv 2) rfl)
      (pss_one (ps_ret (pv 3)))))), ?_⟩
    refine ⟨_, rfl, p, CP, dx, _, _, rfl, hp, C.cl, C.signs, pf_signs _ _ _ _, ls, rfl, ⟨_, SqL.of hls⟩, fun D hD => ?_⟩
    refine lc_list (K := K) (a := ls) (xs := vs) (fun i H' => Same H H' ∧ ∃ acc, H' D = some (.lst acc) ∧ acc.length ≤ i ∧ Paired (SignV CS ms H (foot p ls lp lt ms ++ X)) acc ((a.signs.take i).filter fun s => s.name != n)) ⟨same_new hD, [], upd_same, Nat.le_refl _, .nil⟩ (fun i H' _ ⟨s5, _⟩ => SqL.of (s5 _ _ hls)) ?_ ?_
    · rintro i x H' hi ⟨s5, acc, h5, hal, hacc⟩
      obtain ⟨g, hg, hv⟩ := paired_get hsg hi
      have hv' := hv
      obtain ⟨ga, gdx, gn, gr, gm, rfl, gF, hga, ⟨_, e, nF, hgn⟩, _⟩ := hv'
      cases e
      have il : i < vs.length := (List.getElem?_eq_some_iff.mp hi).1
      refine ⟨rfl, _, rfl, ga, CS, gdx, _, _, rfl, s5 _ _ hga, CSg.cl, CSg.name, sf_name _ _ _, _, rfl, _, _, dp_name (s5 _ _ hgn), dp_name (s5 _ _ hc), PySem.W.ke_shaped_ints _, PySem.W.ke_shaped_ints _, _, rfl, ite2 (fun h1 => ?_) (fun h1 => ?_)⟩
      · rw [eqv_name] at h1
        refine ⟨_, rfl, acc, h5, small_size (by omega), same_upd s5 hD, acc ++ [.ref ga], upd_same, ?_, ?_⟩
        · rw [List.length_append]
          simp only [List.length_cons, List.length_nil]
          omega
        · rw [take_snoc hg, List.filter_append, List.filter_cons, if_pos (show (g.name != n) = true from h1), List.filter_nil]
          exact Paired.snoc hacc hv
      · rw [eqv_name] at h1
        refine ⟨s5, acc, h5, by omega, ?_⟩
        rw [take_snoc hg, List.filter_append, List.filter_cons, if_neg (show ¬ (g.name != n) = true from h1), List.filter_nil, List.append_nil]
        exact hacc
    · rintro H1 ⟨s1, acc, h5, hal, hacc⟩
      rw [slen, List.take_length] at hacc
      have alen := hacc.length
      have cnt := filter_count a.signs n
      refine ⟨_, rfl, p, CP, dx, _, _, rfl, s1 _ _ hp, C.cl, C.signs, pf_signs _ _ _ _, ls, _, rfl, .inl (SqL.of (s1 _ _ hls)), _, rfl, D, _, rfl, .inl (SqL.of h5), _, _, rfl, rfl, ?_⟩
      refine ⟨_, rfl, rfl, _, rfl, ite2 (fun h2 => ?_) (fun h2 => ?_)⟩
      · have h2 := V.int.inj (of_decide_eq_true h2)
        have e0 : a.signs.any (fun s => s.name == n) = false := any_none.mpr (by omega)
        have e : Ks321.act a (.forget n) = (a, Ks321.no (-2)) := by
          show (if a.signs.any (fun s => s.name == n) = false then _ else _) = _
          rw [if_pos e0]
        rw [e] at k
        exact k H1 _ (Step.same s1 _) ⟨ls, lp, lt, ms, rfl, B.same s1⟩
      · have h2 : ¬ ((vs.length : Int) - (acc.length : Int) = 0) := fun z => h2 (decide_eq_true (by show V.int ((vs.length : Int) - (acc.length : Int)) = V.int 0; rw [z]))
        have e0 : ¬ a.signs.any (fun s => s.name == n) = false := fun z => by
          have := any_none.mp z
          omega
        have e : Ks321.act a (.forget n) = ({ a with signs := a.signs.filter fun s => s.name != n }, Ks321.no ((a.signs.filter fun s => s.name == n).length : Nat)) := by
          show (if a.signs.any (fun s => s.name == n) = false then _ else _) = _
          rw [if_neg e0]
        rw [e] at k
        refine ⟨_, rfl, _, rfl, p, CP, dx, _, rfl, s1 _ _ hp, C.cl, C.signs, (by show 4 < 1000; decide), ?_⟩
        rw [pf_put_signs]
        have pD : p ≠ D := ne_of_none hp hD
        have st : Step H (upd H1 p (.ins CP dx (pf a.limit D lp lt))) (foot p ls lp lt ms) (foot p D lp lt ms) := by
          refine step_foot (fun b o e hb => ?_) (.inr hD) (.inl rfl) (.inl rfl)
          rw [upd_ne (in4 hb).1]
          exact s1 _ _ e
        have kk := k _ _ st ⟨D, lp, lt, ms, rfl, ?_⟩
        · refine ⟨_, rfl, ?_⟩
          have e3 : ((vs.length : Int) - (acc.length : Int)) = (((a.signs.filter fun s => s.name == n).length : Nat) : Int) := by omega
          show Q (V.int ((vs.length : Int) - (acc.length : Int))) _
          rw [e3]
          exact kk
        · refine ⟨⟨dx, upd_same⟩, (ne_of_none hlp hD).symm, (ne_of_none hlt hD).symm, B.pt, ⟨acc, ?_, Paired.mapP hacc fun _ _ q => SignV.step st q⟩, ⟨vp, ?_, Paired.mapP hpts fun v q ⟨b, e, hb⟩ => ⟨b, e, ?_⟩⟩, ⟨vt, ?_, Paired.mapP htk fun _ _ q => NameV.step st q⟩, ?_, B.lenP, B.lenT, fun g hg => B.okS g (List.mem_filter.mp hg).1, B.okT, st.thX B.thX, fun x hx => (B.meas x hx).step st (fun o e => by rw [upd_ne (B.mp x hx)]; exact s1 _ _ e), B.mp⟩
          · rw [upd_ne pD.symm]
            exact h5
          · rw [upd_ne (ne_of hlp hp (by intro z; cases z))]
            exact s1 _ _ hlp
          · show upd H1 p _ b = _
            rw [upd_ne (ne_of hb hp (by intro z; cases z))]
            exact s1 _ _ hb
          · rw [upd_ne (ne_of hlt hp (by intro z; cases z))]
            exact s1 _ _ hlt
          · show (a.signs.filter fun s => s.name != n).length ≤ 40
            omega
end
end My
set_option Elab.async false
set_option maxRecDepth 100000
set_option maxHeartbeats 4000000
namespace My
open PySem PySem.Spec PyProof.Rows L2
open Ks319 (Point)
open Ks321 (Sign Abs)
/-! ### what is due -/
theorem know_err {a : Abs} {e : Int} (h : Ks321.known a = .error e) : (Ks321Neutral.sa (Ks321.act a .know)).2 = [e] := by
  unfold Ks321.act
  simp only []
  rw [h]
  rfl
theorem know_ok {a : Abs} {d : Nat} {n : List Nat} (h : Ks321.known a = .ok (d, n)) : (Ks321Neutral.sa (Ks321.act a .know)).2 = (d : Int) :: ofN n := by
  unfold Ks321.act
  simp only []
  rw [h]
  rfl
theorem know_same (a : Abs) : (Ks321.act a .know).1 = a := by
  unfold Ks321.act
  simp only []
  split <;> rfl
theorem known_neg {a : Abs} {e : Int} (h : Ks321.known a = .error e) : e < 0 := by
  unfold Ks321.known at h
  split at h
  · cases h
    decide
  · split at h
    · cases h
      decide
    · split at h
      · cases h
        decide
      · split at h
        · cases h
          decide
        · cases h
theorem take_err {a : Abs} {e : Int} (h : Ks321.known a = .error e) : Ks321.act a .take = (a, Ks321.no e) := by
  unfold Ks321.act
  simp only []
  rw [h]
theorem take_full {a : Abs} {x : Nat × List Nat} (h : Ks321.known a = .ok x) (l : 100 ≤ a.text.length) : Ks321.act a .take = (a, Ks321.no (-12)) := by
  unfold Ks321.act
  simp only []
  rw [h]
  show (if 100 ≤ a.text.length then _ else _) = _
  rw [if_pos l]
theorem take_ok {a : Abs} {x : Nat × List Nat} (h : Ks321.known a = .ok x) (l : ¬ 100 ≤ a.text.length) : Ks321.act a .take = ({ a with points := [], text := a.text ++ [x.2] }, { ret := x.1, out := x.2 }) := by
  unfold Ks321.act
  simp only []
  rw [h]
  show (if 100 ≤ a.text.length then _ else _) = _
  rw [if_neg l]
theorem known_name {a : Abs} {d : Nat} {n : List Nat} (h : Ks321.known a = .ok (d, n)) : ∃ s ∈ a.signs, s.name = n := by
  unfold Ks321.known at h
  split at h
  · cases h
  · split at h
    · cases h
    · next s e =>
      split at h
      · cases h
      · split at h
        · cases h
        · rcases nearest_cases a with ⟨_, z⟩ | ⟨t, z, ht, _⟩
          · rw [z] at e
            cases e
          · rw [z] at e
            cases e
            cases h
            exact ⟨_, ht, rfl⟩
/-! ### the pad, seen from aside -/
section
variable {CP CS CM : Addr} {H H' : Hp} {p ls lp lt : Addr} {ms : List (Addr × List Nat)} {X : List Addr} {a : Abs}
theorem foot_meas {m : Addr} {g : List Nat} (h : (m, g) ∈ ms) : m ∈ foot p ls lp lt ms :=
  List.mem_cons_of_mem _ (List.mem_cons_of_mem _ (List.mem_cons_of_mem _ (List.mem_cons_of_mem _ (List.mem_map.mpr ⟨(m, g), h, rfl⟩))))
/-- a measure was asked -/
theorem PadAt.measured {m : Addr} {g : List Nat} (B : PadAt CP CS CM H p ls lp lt ms X a) (hm : (m, g) ∈ ms) (k : But m H H') (M : MeasAt CM H' (foot p ls lp lt ms ++ X) m g) : PadAt CP CS CM H' p ls lp lt ms X a := by
  have hmF : m ∈ foot p ls lp lt ms := foot_meas hm
  have M0 := B.meas _ hm
  have ne : ∀ {b : Addr}, b ∉ foot p ls lp lt ms ++ X → b ≠ m := fun h z => h (List.mem_append_left _ (by rw [z]; exact hmF))
  have nm : ∀ {v : V} {n : List Nat}, NameV H (foot p ls lp lt ms ++ X) v n → NameV H' (foot p ls lp lt ms ++ X) v n := fun {v n} ⟨b, e, h1, h2⟩ => ⟨b, e, h1, k _ _ h2 (ne h1)⟩
  refine ⟨?_, B.sp, B.st, B.pt, ?_, ?_, ?_, B.lenS, B.lenP, B.lenT, B.okS, B.okT, fun b hb => ?_, fun x hx => ?_, B.mp⟩
  · obtain ⟨dx, h⟩ := B.pad
    exact ⟨dx, k _ _ h (B.mp _ hm).symm⟩
  · obtain ⟨vs, h1, h2⟩ := B.signs
    exact ⟨vs, k _ _ h1 (M0.ne h1).symm, Paired.mapP h2 fun v s ⟨b, dx, n, r', m', e, z1, z2, z3, z4, z5⟩ => ⟨b, dx, n, r', m', e, z1, k _ _ z2 (ne z1), nm z3, nm z4, z5⟩⟩
  · obtain ⟨vs, h1, h2⟩ := B.points
    obtain ⟨dx, fs, e0⟩ := M0.there
    exact ⟨vs, k _ _ h1 (M0.ne h1).symm, Paired.mapP h2 fun v s ⟨b, e, z⟩ => ⟨b, e, k _ _ z (ne_of z e0 (by intro y; cases y))⟩⟩
  · obtain ⟨vs, h1, h2⟩ := B.taken
    exact ⟨vs, k _ _ h1 (M0.ne h1).symm, Paired.mapP h2 fun v s z => nm z⟩
  · obtain ⟨⟨o, e⟩, n⟩ := B.thX b hb
    exact ⟨⟨o, k _ _ e fun z => n (by rw [z]; exact hmF)⟩, n⟩
  · by_cases z : x.1 = m
    · have M1 := B.meas x hx
      rw [z] at M1
      rw [z, M1.inj M0]
      exact M
    · exact (B.meas x hx).move (fun b o n q => ⟨n, k _ _ q (ne n)⟩) (fun o q => k _ _ q z)
theorem step_measured {m : Addr} {g : List Nat} (hm : (m, g) ∈ ms) (k : But m H H') : Step H H' (foot p ls lp lt ms) (foot p ls lp lt ms) :=
  ⟨fun b o e hb => k b o e fun z => hb (by rw [z]; exact foot_meas hm), fun _ h => .inl h⟩
/-- another's list was written -/
theorem PadAt.write {b : Addr} {l : List V} {o : HO} (B : PadAt CP CS CM H p ls lp lt ms X a) (hb : b ∈ X) (hb0 : H b = some (.lst l)) : PadAt CP CS CM (upd H b o) p ls lp lt ms X a := by
  have nF : b ∉ foot p ls lp lt ms := (B.thX b hb).2
  have out : ∀ {c : Addr}, c ∈ foot p ls lp lt ms → upd H b o c = H c := fun h => upd_ne fun z => nF (by rw [← z]; exact h)
  have ne : ∀ {c : Addr}, c ∉ foot p ls lp lt ms ++ X → upd H b o c = H c := fun h => upd_ne fun z => h (List.mem_append_right _ (by rw [z]; exact hb))
  have nm : ∀ {v : V} {n : List Nat}, NameV H (foot p ls lp lt ms ++ X) v n → NameV (upd H b o) (foot p ls lp lt ms ++ X) v n := fun {v n} ⟨c, e, h1, h2⟩ => ⟨c, e, h1, by rw [ne h1]; exact h2⟩
  refine ⟨?_, B.sp, B.st, B.pt, ?_, ?_, ?_, B.lenS, B.lenP, B.lenT, B.okS, B.okT, fun c hc => ?_, fun x hx => (B.meas x hx).move (fun c u n q => ⟨n, by rw [ne n]; exact q⟩) (fun u q => ?_), B.mp⟩
  · obtain ⟨dx, h⟩ := B.pad
    exact ⟨dx, by rw [out (by simp)]; exact h⟩
  · obtain ⟨vs, h1, h2⟩ := B.signs
    refine ⟨vs, by rw [out (by simp)]; exact h1, Paired.mapP h2 fun v s ⟨c, dx, n, r', m', e, z1, z2, z3, z4, z5⟩ => ⟨c, dx, n, r', m', e, z1, by rw [ne z1]; exact z2, nm z3, nm z4, z5⟩⟩
  · obtain ⟨vs, h1, h2⟩ := B.points
    refine ⟨vs, by rw [out (by simp)]; exact h1, Paired.mapP h2 fun v s ⟨c, e, z⟩ => ⟨c, e, ?_⟩⟩
    show upd H b o c = _
    rw [upd_ne (ne_of z hb0 (by intro y; cases y))]
    exact z
  · obtain ⟨vs, h1, h2⟩ := B.taken
    exact ⟨vs, by rw [out (by simp)]; exact h1, Paired.mapP h2 fun v s z => nm z⟩
  · obtain ⟨⟨u, e⟩, n⟩ := B.thX c hc
    refine ⟨?_, n⟩
    by_cases z : c = b
    · exact ⟨o, by rw [z]; exact upd_same⟩
    · exact ⟨u, by rw [upd_ne z]; exact e⟩
  · rw [out (foot_meas (g := x.2) hx)]
    exact q
/-- one that was another's is let go -/
theorem PadAt.drop {b : Addr} (B : PadAt CP CS CM H p ls lp lt ms (b :: X) a) : PadAt CP CS CM H p ls lp lt ms X a := by
  have sub : ∀ {c : Addr}, c ∉ foot p ls lp lt ms ++ b :: X → c ∉ foot p ls lp lt ms ++ X := fun h z => h (by
    rcases List.mem_append.mp z with z | z
    · exact List.mem_append_left _ z
    · exact List.mem_append_right _ (List.mem_cons_of_mem _ z))
  have nm : ∀ {v : V} {n : List Nat}, NameV H (foot p ls lp lt ms ++ b :: X) v n → NameV H (foot p ls lp lt ms ++ X) v n := fun {v n} ⟨c, e, h1, h2⟩ => ⟨c, e, sub h1, h2⟩
  refine ⟨B.pad, B.sp, B.st, B.pt, ?_, B.points, ?_, B.lenS, B.lenP, B.lenT, B.okS, B.okT, fun c hc => B.thX c (List.mem_cons_of_mem _ hc), fun x hx => (B.meas x hx).move (fun c u n q => ⟨sub n, q⟩) (fun u q => q), B.mp⟩
  · obtain ⟨vs, h1, h2⟩ := B.signs
    exact ⟨vs, h1, Paired.mapP h2 fun v s ⟨c, dx, n, r', m', e, z1, z2, z3, z4, z5⟩ => ⟨c, dx, n, r', m', e, sub z1, z2, nm z3, nm z4, z5⟩⟩
  · obtain ⟨vs, h1, h2⟩ := B.taken
    exact ⟨vs, h1, Paired.mapP h2 fun v s z => nm z⟩
end
/-! ### the promises -/
def spKnow (CP CS CM : Addr) : Sp := fun vs H Q _ => ∃ (p : Addr) (F X : List Addr) (a : Abs), vs = [.ref p] ∧ PadIs CP CS CM H p F X a ∧ ∀ (H' : Hp) (q : Addr), Step H H' F F → PadIs CP CS CM H' p F X a → H q = Option.none → H' q = some (.lst ((Ks321Neutral.sa (Ks321.act a .know)).2.map V.int)) → Q (.ref q) H'
def spTake (CP CS CM : Addr) : Sp := fun vs H Q _ => ∃ (p : Addr) (F X : List Addr) (a : Abs), vs = [.ref p] ∧ PadIs CP CS CM H p F X a ∧ ∀ (H' : Hp) (F' : List Addr) (q : Addr), Step H H' F F' → PadIs CP CS CM H' p F' X (Ks321.act a .take).1 → q ∉ F' ++ X → H' q = some (.lst ((Ks321Neutral.sa (Ks321.act a .take)).2.map V.int)) → Q (.ref q) H'
def spBack (CP CS CM : Addr) : Sp := fun vs H Q _ => ∃ (p : Addr) (F X : List Addr) (a : Abs), vs = [.ref p] ∧ PadIs CP CS CM H p F X a ∧ ∀ (H' : Hp) (F' : List Addr), Step H H' F F' → PadIs CP CS CM H' p F' X (Ks321.act a .back).1 → Q (.int (Ks321.act a .back).2.ret) H'
def spText (CP CS CM : Addr) : Sp := fun vs H Q _ => ∃ (p : Addr) (F X : List Addr) (a : Abs), vs = [.ref p] ∧ PadIs CP CS CM H p F X a ∧ ∀ (H' : Hp) (q : Addr), Same H H' → H q = Option.none → H' q = some (.lst (vI (a.text.flatMap fun n => n ++ [32]))) → Q (.ref q) H'
def spCount (CP CS CM : Addr) : Sp := fun vs H Q _ => ∃ (p : Addr) (F X : List Addr) (a : Abs), vs = [.ref p] ∧ PadIs CP CS CM H p F X a ∧ ∀ (H' : Hp) (q : Addr), Same H H' → H q = Option.none → H' q = some (.lst (vI [a.signs.length, a.points.length, a.text.length])) → Q (.ref q) H'
def spCounted : Sp := fun vs H Q _ => ∃ (d : Addr) (l : List Nat), vs = [.ref d] ∧ H d = some (.lst (vI l)) ∧ l.length ≤ 1000000 ∧ ∀ (H' : Hp) (q : Addr), Same H H' → H q = Option.none → H' q = some (.lst (vI (l.length :: l))) → Q (.ref q) H'
section
variable {P : Program} {w : World} {K : PySem.W.Frag} {mg : Str → Option Value} {base : Heap} {CP CS CM : Addr}
/-! ### counted -/
theorem scCounted : FnScope ["numbers"] ["numbers"] (defScope sCounted) := ⟨rfl, rfl, rfl, by decide +kernel, rfl, by decide +kernel, by decide +kernel⟩
theorem ok_counted {f : Addr} {fd : FuncData} (F : Fun K "counted" "counted" sCounted f fd) (T : Txt mg) : FnOk P w K mg base CX0 1 f fd ["numbers"] spCounted := by
  refine F.ok scCounted (fun vs H Q E h => ?_) (fun cdv A outer s H vs Q E hr h => ?_)
  · obtain ⟨d, l, rfl, _⟩ := h
    rfl
  · obtain ⟨d, l, rfl, hd, hl, k⟩ := h
    refine ⟨_, pss_one (ps_ret (pe_op op_cat (pe_lst (pa_cons (pe_callB call_len_seq (by rfl) T.len PySem.boot_len (pa_cons (pv 0) pa_nil)) pa_nil)) (pv 0))), ?_⟩
    refine ⟨_, rfl, d, _, rfl, .inl (SqL.of hd), (by show 1 ≤ sizeLine; decide), fun q hq => ?_⟩
    have s3 : Same H (upd H q (.lst [.int ((vI l).length : Nat)])) := same_new hq
    refine ⟨_, rfl, q, d, _, _, rfl, rfl, upd_same, s3 _ _ hd, small_le (by rw [vI_length]; simp only [List.length_cons, List.length_nil]; omega), fun q2 hq2 => ?_⟩
    refine k _ q2 (s3.trans (same_new hq2)) (s3.free hq2) ?_
    rw [upd_same, vI_length]
    rfl
/-! ### Pad.count -/
theorem scCount : FnScope ["self"] ["self"] (defScope sPad_Count) := ⟨rfl, rfl, rfl, by decide +kernel, rfl, by decide +kernel, by decide +kernel⟩
theorem ok_count {f : Addr} {fd : FuncData} (F : Fun K "count" "Pad.count" sPad_Count f fd) (T : Txt mg) (C : ClsP K CP) : FnOk P w K mg base CX0 1 f fd ["self"] (spCount CP CS CM) := by
  refine F.ok scCount (fun vs H Q E h => ?_) (fun cdv A outer s H vs Q E hr h => ?_)
  · obtain ⟨p, F, X, a, rfl, _⟩ := h
    rfl
  · obtain ⟨p, F, X, a, rfl, hB, k⟩ := h
    obtain ⟨ls, lp, lt, ms, rfl, B⟩ := hB
    obtain ⟨dx, hp⟩ := B.pad
    obtain ⟨vp, hlp, hpts⟩ := B.points
    obtain ⟨vs, hls, hsg⟩ := B.signs
    obtain ⟨vt, hlt, htk⟩ := B.taken
    have l1 := hpts.length
    have l2 := hsg.length
    have l3 := htk.length
    refine ⟨_, pss_one (ps_ret (pe_lst (pa_cons (pe_callB call_len_seq (by rfl) T.len PySem.boot_len (pa_cons (pe_fld (pv 0) rfl) pa_nil)) (pa_cons (pe_callB call_len_seq (by rfl) T.len PySem.boot_len (pa_cons (pe_fld (pv 0) rfl) pa_nil)) (pa_cons (pe_callB call_len_seq (by rfl) T.len PySem.boot_len (pa_cons (pe_fld (pv 0) rfl) pa_nil)) pa_nil))))), ?_⟩
    refine ⟨_, rfl, p, CP, dx, _, _, rfl, hp, C.cl, C.signs, pf_signs _ _ _ _, ls, _, rfl, .inl (SqL.of hls), _, rfl, p, CP, dx, _, _, rfl, hp, C.cl, C.points, pf_points _ _ _ _, lp, _, rfl, .inl (SqL.of hlp), _, rfl, p, CP, dx, _, _, rfl, hp, C.cl, C.taken, pf_taken _ _ _ _, lt, _, rfl, .inl (SqL.of hlt), (by show 3 ≤ sizeLine; decide), fun q hq => ?_⟩
    refine k _ q (same_new hq) hq ?_
    rw [upd_same, l1, l2, l3]
    rfl
/-! ### Pad.text -/
theorem scText : FnScope ["self", "written", "name"] ["self"] (defScope sPad_Text) := ⟨rfl, rfl, rfl, by decide +kernel, rfl, by decide +kernel, by decide +kernel⟩
theorem text_len : ∀ {l : List (List Nat)}, (∀ n ∈ l, n.length ≤ 8) → (l.flatMap fun n => n ++ [32]).length ≤ 9 * l.length
  | [], _ => Nat.zero_le _
  | n :: l, h => by
    have ih := text_len (l := l) fun m hm => h m (List.mem_cons_of_mem _ hm)
    have h1 := h n (List.mem_cons_self ..)
    rw [List.flatMap_cons, List.length_append, List.length_append, List.length_cons]
    simp only [List.length_cons, List.length_nil]
    omega
theorem ok_text {f : Addr} {fd : FuncData} (F : Fun K "text" "Pad.text" sPad_Text f fd) (T : Txt mg) (C : ClsP K CP) : FnOk P w K mg base CX0 1 f fd ["self"] (spText CP CS CM) := by
  refine F.ok scText (fun vs H Q E h => ?_) (fun cdv A outer s H vs Q E hr h => ?_)
  · obtain ⟨p, F, X, a, rfl, _⟩ := h
    rfl
  · obtain ⟨p, F, X, a, rfl, hB, k⟩ := h
    obtain ⟨ls, lp, lt, ms, rfl, B⟩ := hB
    obtain ⟨dx, hp⟩ := B.pad
    obtain ⟨vt, hlt, htk⟩ := B.taken
    have l3 := htk.length
    have hT := B.lenT
    refine ⟨_, pss_cons (ps_set (i := 1) scText.nd rfl (Or.inl rfl) (pe_lst pa_nil))
      (pss_cons (ps_for PassesOwn.never rfl (pi_list (pe_fld (pv 0) rfl)) (pg_name (i := 2) scText.nd rfl (Or.inl rfl))
        (pss_cons (ps_expr (pe_bm PySem.F.plainAttrs_list PySem.F.slot_list_extend PySem.F.type_list_extend mt_extend (pv 1) (pa_cons (pv 2) pa_nil)))
        (pss_one (ps_expr (pe_bm PySem.F.plainAttrs_list PySem.F.slot_list_append PySem.F.type_list_append mt_append (pv 1) (pa_cons (pe_gint (by rfl) T.BLANK) pa_nil))))))
      (pss_one (ps_ret (pv 1)))), ?_⟩
    refine ⟨Nat.zero_le _, fun D hD => ?_⟩
    have s1 : Same H (upd H D (.lst [])) := same_new hD
    refine ⟨_, rfl, p, CP, dx, _, _, rfl, s1 _ _ hp, C.cl, C.taken, pf_taken _ _ _ _, lt, rfl, ⟨_, SqL.of (s1 _ _ hlt)⟩, ?_⟩
    refine for_list (K := K) (a := lt) (xs := vt) (fun i σ H' => ∃ v2 : Option V, σ = [some (.ref p), some (.ref D), v2] ∧ Same H H' ∧ H' D = some (.lst (vI ((a.text.take i).flatMap fun n => n ++ [32]))))
      ⟨none, rfl, s1, upd_same⟩ (fun i σ H' _ ⟨_, _, s5, _⟩ => SqL.of (s5 _ _ hlt)) ?_ ?_
    · rintro i y σ H' hi ⟨v2, rfl, s5, hD5⟩
      obtain ⟨n, hn, b, rfl, bF, hb⟩ := paired_get htk hi
      have il : i < a.text.length := (List.getElem?_eq_some_iff.mp hn).1
      have bD : b ≠ D := ne_of_none hb hD
      have n8 := B.okT n (List.mem_of_getElem? hn)
      have tl := text_len (l := a.text.take i) fun m hm => B.okT m (List.mem_of_mem_take hm)
      rw [List.length_take] at tl
      have hz : (vI ((a.text.take i).flatMap fun n => n ++ [32])).length ≤ 900 := by
        rw [vI_length]
        exact Nat.le_trans tl (by omega)
      refine ⟨_, rfl, .inl ⟨rfl, _, SqL.of hD5⟩, _, rfl, D, b, _, _, rfl, rfl, hD5, s5 _ _ hb, small_le (by rw [vI_length n]; omega), ?_⟩
      refine ⟨_, rfl, .inl ⟨rfl, _, SqL.of upd_same⟩, D, _, _, rfl, rfl, upd_same, small_size (by rw [List.length_append, vI_length n]; omega), ?_⟩
      refine ⟨_, rfl, same_upd (same_upd s5 hD) hD, ?_⟩
      rw [upd_same, take_snoc hn, List.flatMap_append, List.flatMap_cons, List.flatMap_nil, List.append_nil]
      unfold vI ofN
      rw [List.map_append, List.map_append, List.map_append, List.map_append, List.append_assoc]
      rfl
    · rintro σ H2 ⟨v2, rfl, s5, hD5⟩
      rw [l3, List.take_length] at hD5
      exact ⟨_, rfl, k H2 D s5 hD hD5⟩
/-! ### the names taken become others -/
theorem PadAt.texted {H : Hp} {p ls lp lt : Addr} {ms : List (Addr × List Nat)} {X : List Addr} {a : Abs} {vt' : List V} {t' : List (List Nat)} (B : PadAt CP CS CM H p ls lp lt ms X a) (hT : Paired (NameV H (foot p ls lp lt ms ++ X)) vt' t') (h1 : t'.length ≤ 100) (h2 : ∀ n ∈ t', n.length ≤ 8) :
    Step H (upd H lt (.lst vt')) (foot p ls lp lt ms) (foot p ls lp lt ms) ∧ PadAt CP CS CM (upd H lt (.lst vt')) p ls lp lt ms X { a with text := t' } := by
  obtain ⟨dx, hp⟩ := B.pad
  obtain ⟨vp, hlp, hpts⟩ := B.points
  obtain ⟨vs, hls, hsg⟩ := B.signs
  obtain ⟨vt, hlt, htk⟩ := B.taken
  have st : Step H (upd H lt (.lst vt')) (foot p ls lp lt ms) (foot p ls lp lt ms) := by
    refine step_foot (fun b o e hb => ?_) (.inl rfl) (.inl rfl) (.inl rfl)
    rw [upd_ne (in4 hb).2.2.2]
    exact e
  refine ⟨st, ⟨dx, ?_⟩, B.sp, B.st, B.pt, ⟨vs, ?_, Paired.mapP hsg fun _ _ q => SignV.step st q⟩, ⟨vp, ?_, Paired.mapP hpts fun v q ⟨c, e, hc⟩ => ⟨c, e, ?_⟩⟩, ⟨vt', upd_same, Paired.mapP hT fun _ _ q => NameV.step st q⟩, B.lenS, B.lenP, h1, B.okS, h2, st.thX B.thX, fun x hx => (B.meas x hx).step st (fun o e => by rw [upd_ne ((B.meas x hx).ne hlt)]; exact e), B.mp⟩
  · rw [upd_ne (ne_of hp hlt (by intro z; cases z))]
    exact hp
  · rw [upd_ne B.st]
    exact hls
  · rw [upd_ne B.pt]
    exact hlp
  · show upd H lt _ c = _
    rw [upd_ne (ne_of hc hlt (by intro z; cases z))]
    exact hc
theorem pair_dropLast {α β : Type} {G : α → β → Prop} : ∀ {l₁ : List α} {l₂ : List β}, Paired G l₁ l₂ → Paired G l₁.dropLast l₂.dropLast
  | _, _, .nil => .nil
  | _, _, .cons r .nil => .nil
  | _, _, .cons r (.cons r2 t) => .cons r (pair_dropLast (.cons r2 t))
/-! ### Pad.back -/
theorem scBack : FnScope ["self"] ["self"] (defScope sPad_Back) := ⟨rfl, rfl, rfl, by decide +kernel, rfl, by decide +kernel, by decide +kernel⟩
theorem ok_back {f : Addr} {fd : FuncData} (F : Fun K "back" "Pad.back" sPad_Back f fd) (T : Txt mg) (C : ClsP K CP) : FnOk P w K mg base CX0 1 f fd ["self"] (spBack CP CS CM) := by
  refine F.ok scBack (fun vs H Q E h => ?_) (fun cdv A outer s H vs Q E hr h => ?_)
  · obtain ⟨p, F, X, a, rfl, _⟩ := h
    rfl
  · obtain ⟨p, F, X, a, rfl, hB, k⟩ := h
    obtain ⟨ls, lp, lt, ms, rfl, B⟩ := hB
    obtain ⟨dx, hp⟩ := B.pad
    obtain ⟨vt, hlt, htk⟩ := B.taken
    have l3 := htk.length
    refine ⟨_, pss_cons (ps_if (pt_cmpR op_eq (pe_callB call_len_seq (by rfl) T.len PySem.boot_len (pa_cons (pe_fld (pv 0) rfl) pa_nil)) pe_int (nomark _)) (pss_one (ps_ret (pe_gint (by rfl) T.NOT_THERE))) pss_nil)
      (pss_cons (ps_expr (pe_bm0 PySem.F.plainAttrs_list PySem.F.slot_list_pop PySem.F.type_list_pop mt_pop (pe_fld (pv 0) rfl)))
      (pss_one (ps_ret (pe_callB call_len_seq (by rfl) T.len PySem.boot_len (pa_cons (pe_fld (pv 0) rfl) pa_nil))))), ?_⟩
    refine ⟨_, rfl, p, CP, dx, _, _, rfl, hp, C.cl, C.taken, pf_taken _ _ _ _, lt, _, rfl, .inl (SqL.of hlt), rfl, _, rfl, ite2 (fun h1 => ?_) (fun h1 => ?_)⟩
    · have h1 := V.int.inj (of_decide_eq_true h1)
      have e0 : a.text = [] := List.eq_nil_of_length_eq_zero (by omega)
      have e : Ks321.act a .back = (a, Ks321.no (-2)) := by
        unfold Ks321.act
        simp only []
        rw [e0]
      rw [e] at k
      exact k H _ (Step.same (Same.refl H) _) ⟨ls, lp, lt, ms, rfl, B⟩
    · have e0 : ¬ a.text = [] := fun z => h1 (by
        rw [l3, z]
        rfl)
      have hpos : 0 < a.text.length := List.length_pos_iff.mpr e0
      have e : Ks321.act a .back = ({ a with text := a.text.dropLast }, Ks321.no (a.text.length - 1 : Nat)) := by
        unfold Ks321.act
        simp only []
        cases z : a.text with
        | nil => exact absurd z e0
        | cons n l => rfl
      rw [e] at k
      have hy : vt[vt.length - 1]? = some vt[vt.length - 1] := List.getElem?_eq_getElem (by omega)
      refine ⟨_, rfl, p, CP, dx, _, _, rfl, hp, C.cl, C.taken, pf_taken _ _ _ _, .inl ⟨rfl, _, SqL.of hlt⟩, lt, _, _, rfl, rfl, hlt, hy, ?_⟩
      obtain ⟨st, B'⟩ := B.texted (pair_dropLast htk) (by rw [List.length_dropLast]; have := B.lenT; omega) (fun n hn => B.okT n (List.dropLast_subset _ hn))
      refine ⟨_, rfl, p, CP, dx, _, _, rfl, (by rw [upd_ne (ne_of hp hlt (by intro z; cases z))]; exact hp), C.cl, C.taken, pf_taken _ _ _ _, lt, _, rfl, .inl (SqL.of upd_same), ?_⟩
      have kk := k _ _ st ⟨ls, lp, lt, ms, rfl, B'⟩
      rw [List.length_dropLast, l3]
      exact kk
end
end My
set_option Elab.async false
set_option maxRecDepth 100000
set_option maxHeartbeats 4000000
namespace My
open PySem PySem.Spec PyProof.Rows L2
open Ks319 (Point)
open Ks321 (Sign Abs)
/-! ### the signs that are as near as the nearest -/
theorem names_first {a : Abs} {s : Sign} (hs : s ∈ a.signs) {n0 : List Nat} {r : List (List Nat)} (h : ((a.signs.filter fun t => Ks321.far a t == Ks321.far a s).map Sign.name) = n0 :: r) : ∃ t ∈ a.signs, Ks321.far a t = Ks321.far a s ∧ t.name = n0 := by
  have m : n0 ∈ ((a.signs.filter fun t => Ks321.far a t == Ks321.far a s).map Sign.name) := by
    rw [h]
    exact List.mem_cons_self ..
  obtain ⟨t, ht, e⟩ := List.mem_map.mp m
  obtain ⟨h1, h2⟩ := List.mem_filter.mp ht
  exact ⟨t, h1, eq_of_beq h2, e⟩
theorem names_ne {a : Abs} {s : Sign} (hs : s ∈ a.signs) : ((a.signs.filter fun t => Ks321.far a t == Ks321.far a s).map Sign.name) ≠ [] := fun h => by
  have m : s.name ∈ ((a.signs.filter fun t => Ks321.far a t == Ks321.far a s).map Sign.name) := List.mem_map.mpr ⟨s, List.mem_filter.mpr ⟨hs, beq_self_eq_true _⟩, rfl⟩
  rw [h] at m
  cases m
section
variable {P : Program} {w : World} {K : PySem.W.Frag} {mg : Str → Option Value} {base : Heap} {CP CS CM : Addr}
/-! ### Pad.know -/
abbrev nKnow : List Str := ["self", "directions", "distances", "least", "names", "sign", "distance", "name"]
theorem scKnow : FnScope nKnow ["self"] (defScope sPad_Know) := ⟨rfl, rfl, rfl, by decide +kernel, rfl, by decide +kernel, by decide +kernel⟩
theorem ok_know {f : Addr} {fd : FuncData} (F : Fun K "know" "Pad.know" sPad_Know f fd) (T : Txt mg) (C : ClsP K CP) (CSg : ClsS K CS) (CMs : ClsM K CM) (hRow : FnAt P w K mg base 3 "row_of" ["points"] spRow) (hDist : MeAt P w K mg base 3 CM "distance_from" ["self", "directions"] (spDist CM)) : FnOk P w K mg base CX0 4 f fd ["self"] (spKnow CP CS CM) := by
  obtain ⟨fR, fdR, GR, mR, kR, bR⟩ := hRow
  obtain ⟨fD, fdD, GD, MD, bD⟩ := hDist
  refine F.ok scKnow (fun vs H Q E h => ?_) (fun cdv A outer s H vs Q E hr h => ?_)
  · obtain ⟨p, F, X, a, rfl, _⟩ := h
    rfl
  · obtain ⟨p, F, X, a, rfl, hB, k⟩ := h
    obtain ⟨ls, lp, lt, ms, rfl, B⟩ := hB
    obtain ⟨dx, hp⟩ := B.pad
    obtain ⟨vp, hlp, hpts⟩ := B.points
    obtain ⟨vs, hls, hsg⟩ := B.signs
    have slen := hsg.length
    have h40 := B.lenS
    refine ⟨_, pss_cons (ps_set (i := 1) scKnow.nd rfl (Or.inr rfl) (pe_call GR hr rfl mR kR bR .nil pass0 (pa_cons (pe_fld (pv 0) rfl) pa_nil)))
      (pss_cons (ps_if (pt_cmpR op_eq (pe_callB call_len_seq (by rfl) T.len PySem.boot_len (pa_cons (pv 1) pa_nil)) pe_int (nomark _)) (pss_one (ps_ret (pe_lst (pa_cons (pe_gint (by rfl) T.NO_DIRECTIONS) pa_nil)))) pss_nil)
      (pss_cons (ps_setLc (i := 2) (own := [("sign", 5)]) (te := tMeth CM "distance_from" (spDist CM) [] E0 (tFld K (tVar 5) "measure") (tCons (tVar 1) tNil)) rfl scKnow.nd rfl rfl (sw_true rfl rfl rfl rfl) (pi_list (pe_fld (pv 0) rfl)) (blkOk_by (by change blkC nKnow (defScope sPad_Know) _ _ = true; decide +kernel)) (fun _ _ _ _ _ => pg_name (i := 5) scKnow.nd rfl (Or.inl rfl)) (fun _ _ _ _ _ => pts_nil)
        (fun _ _ _ _ _ => pe_meth (pe_fld (pv 5) rfl) CMs.cl MD GD hr bD .nil pass0 (pa_cons (pv 1) pa_nil)))
      (pss_cons (ps_set (i := 3) scKnow.nd rfl (Or.inr rfl) (pe_minD rfl (by rfl) T.min (pv 2) (pe_op op_add (pe_fld (pv 0) rfl) pe_int)))
      (pss_cons (ps_if (pt_cmpR op_gt (pv 3) (pe_fld (pv 0) rfl) (nomark _)) (pss_one (ps_ret (pe_lst (pa_cons (pe_gint (by rfl) T.NONE_NEAR) pa_nil)))) pss_nil)
      (pss_cons (ps_set (i := 4) scKnow.nd rfl (Or.inr rfl) (pe_lc (own := [("sign", 5), ("distance", 6)]) (g := gTup K 2 (gCons (gName 5) (gCons (gName 6) gNil))) (tt := tTest (tOp rEq (tVar 6) (tVar 3))) (te := tFld K (tVar 5) "name") rfl scKnow.nd (pi_zip (by rfl) T.zip (pa_cons (pe_fld (pv 0) rfl) (pa_cons (pv 2) pa_nil))) (blkOk_by (by change blkC nKnow (defScope sPad_Know) _ _ = true; decide +kernel))
        (fun _ _ _ _ _ => pg_tup rfl (pgs_cons (pg_name (i := 5) scKnow.nd rfl (Or.inl rfl)) (pgs_cons (pg_name (i := 6) scKnow.nd rfl (Or.inl rfl)) pgs_nil))) (fun _ _ _ _ _ => pts_one (pt_cmpR op_eq (pv 6) (pv 3) (nomark _))) (fun _ _ _ _ _ => pe_fld (pv 5) rfl)))
      (pss_cons (ps_if (pt_val (pe_callB (cr_any rfl) (by rfl) T.any boot_any (pa_cons (pe_lc (own := [("name", 7)]) (te := tOp (rNeD K) (tVar 7) (tOp (rIxL K) (tVar 4) (tC (.int 0)))) rfl scKnow.nd (pi_list (pv 4)) (blkOk_by (by change blkC nKnow (defScope sPad_Know) _ _ = true; decide +kernel)) (fun _ _ _ _ _ => pg_name (i := 7) scKnow.nd rfl (Or.inl rfl)) (fun _ _ _ _ _ => pts_nil)
        (fun _ _ _ _ _ => pe_cmpR (op_neD hr.units) (pv 7) (pe_ix ix_list (pv 4) pe_int (fun _ _ => rfl)) (nomark _))) pa_nil))) (pss_one (ps_ret (pe_lst (pa_cons (pe_gint (by rfl) T.NOT_ONE_NAME) pa_nil)))) pss_nil)
      (pss_one (ps_ret (pe_op op_cat (pe_lst (pa_cons (pv 3) pa_nil)) (pe_ix ix_list (pv 4) pe_int (fun _ _ => rfl))))))))))), ?_⟩
    -- directions
    refine ⟨_, rfl, p, CP, dx, _, _, rfl, hp, C.cl, C.points, pf_points _ _ _ _, lp, vp, a.points, rfl, hlp, hpts, B.lenP, fun H1 r s1 nr hr' => ?_⟩
    have B1 := B.same s1
    refine ⟨_, rfl, r, _, rfl, .inl (SqL.of hr'), rfl, _, rfl, ite2 (fun h2 => ?_) (fun h2 => ?_)⟩
    · have h2 := V.int.inj (of_decide_eq_true h2)
      rw [vI_length] at h2
      have e0 : Ks321.drawn a = [] := List.eq_nil_of_length_eq_zero (by show (Ks319.row a.points).length = 0; omega)
      refine ⟨(by show 1 ≤ sizeLine; decide), fun q hq => ?_⟩
      have s2 := s1.trans (same_new (o := HO.lst [V.int (-61)]) hq)
      refine k _ q (Step.same s2 _) ⟨ls, lp, lt, ms, rfl, B.same s2⟩ (s1.free hq) ?_
      rw [upd_same, know_err (known_61 e0)]
      rfl
    · have e0 : ¬ Ks321.drawn a = [] := fun z => h2 (by
        rw [show Ks319.row a.points = [] from z]
        rfl)
      have hdl : (Ks321.drawn a).length ≤ 64 := Nat.le_trans (row_length a.points) B.lenP
      -- distances
      refine ⟨_, rfl, p, CP, dx, _, _, rfl, s1 _ _ hp, C.cl, C.signs, pf_signs _ _ _ _, ls, rfl, ⟨_, SqL.of (s1 _ _ hls)⟩, fun D hD => ?_⟩
      have sD : Same H1 (upd H1 D (.lst [])) := same_new hD
      have BD : PadAt CP CS CM (upd H1 D (.lst [])) p ls lp lt ms (D :: X) a := B1.add sD hD upd_same
      refine lc_list (K := K) (a := ls) (xs := vs) (fun i H' => PadAt CP CS CM H' p ls lp lt ms (D :: X) a ∧ Step H H' (foot p ls lp lt ms) (foot p ls lp lt ms) ∧ H' ls = some (.lst vs) ∧ H' r = some (.lst (vI (Ks321.drawn a))) ∧ H' D = some (.lst (vI ((a.signs.take i).map (Ks321.far a)))))
        ⟨BD, Step.same (s1.trans sD) _, sD _ _ (s1 _ _ hls), sD _ _ hr', upd_same⟩ (fun i H' _ ⟨_, _, e, _⟩ => SqL.of e) ?_ ?_
      · rintro i x H' hi ⟨B', st', hls', hr1, hD'⟩
        obtain ⟨vs', e, hsg'⟩ := B'.signs
        rw [hls'] at e
        cases e
        obtain ⟨g, hg, ga, gdx, gn, gr, gm, rfl, gF, hga, hgn, hgr, hgm⟩ := paired_get hsg' hi
        have il : i < a.signs.length := (List.getElem?_eq_some_iff.mp hg).1
        obtain ⟨g1, g2, g3⟩ := B'.okS g (List.mem_of_getElem? hg)
        have M := B'.meas _ hgm
        obtain ⟨mdx, mr, mw, mst, mwl, mvs, hm, _⟩ := M
        refine ⟨rfl, _, rfl, ga, CS, gdx, _, _, rfl, hga, CSg.cl, CSg.meas, sf_meas _ _ _, gm, mdx, _, rfl, hm, mf_no _ _ _ (by decide +kernel) (by decide +kernel) (by decide +kernel), _, rfl, ?_⟩
        refine ⟨gm, r, foot p ls lp lt ms ++ D :: X, g.row, Ks321.drawn a, rfl, B'.meas _ hgm, fun b hb => (show PadIs CP CS CM H' p (foot p ls lp lt ms) (D :: X) a from ⟨ls, lp, lt, ms, rfl, B'⟩).held b hb, hr1, g2, hdl, g3, row_lt a.points, fun H5 but M5 => ?_⟩
        have neM : ∀ {b : Addr} {l : List V}, H' b = some (.lst l) → H5 b = some (.lst l) := fun e => but _ _ e (ne_of e hm (by intro z; cases z))
        have B5 := B'.measured hgm but M5
        refine ⟨_, neM hD', ?_, B5.write (List.mem_cons_self ..) (neM hD'), ?_, ?_, ?_, ?_⟩
        · rw [vI_length, List.length_map, List.length_take]
          exact small_size (by omega)
        · have st5 := st'.trans (step_measured (p := p) (ls := ls) (lp := lp) (lt := lt) hgm but)
          refine ⟨fun b o e hb => ?_, st5.foot⟩
          rw [upd_ne (fun z => by rw [z] at e; rw [s1 _ _ e] at hD; cases hD)]
          exact st5.keep b o e hb
        · rw [upd_ne (fun z => (B'.thX D (List.mem_cons_self ..)).2 (by rw [← z]; exact List.mem_cons_of_mem _ (List.mem_cons_self ..)))]
          exact neM hls'
        · rw [upd_ne (ne_of_none hr' hD)]
          exact neM hr1
        · rw [upd_same, take_snoc hg, List.map_append, List.map_cons, List.map_nil, vI_snoc]
          rfl
      · rintro H2 ⟨B2, st2, hls2, hr2, hD2⟩
        rw [slen, List.take_length] at hD2
        obtain ⟨dx2, hp2⟩ := B2.pad
        obtain ⟨vs', e, hsg2⟩ := B2.signs
        rw [hls2] at e
        cases e
        have B2' := B2.drop
        have fD : H D = Option.none := s1.free hD
        have refuse : ∀ {e : Int} {H3 : Hp} {q : Addr}, Same H2 H3 → H3 q = Option.none → Ks321.known a = .error e → Q (.ref q) (upd H3 q (.lst [.int e])) := fun {e H3 q} s3 hq hk => by
          have s4 := s3.trans (same_new (o := HO.lst [V.int e]) hq)
          refine k _ q (st2.trans (Step.same s4 _)) ⟨ls, lp, lt, ms, rfl, B2'.same s4⟩ ?_ ?_
          · cases eq : H q with
            | none => rfl
            | some o =>
              by_cases z : q ∈ foot p ls lp lt ms
              · obtain ⟨o2, e2⟩ := (show PadIs CP CS CM H2 p (foot p ls lp lt ms) X a from ⟨ls, lp, lt, ms, rfl, B2'⟩).held q (List.mem_append_left _ z)
                rw [s3 _ _ e2] at hq
                cases hq
              · rw [s3 _ _ (st2.keep q o eq z)] at hq
                cases hq
          · rw [upd_same, know_err hk]
            rfl
        have near : ∀ t ∈ a.signs, ((Ks321.far a t : Nat) : Int) ∈ ofN (a.signs.map (Ks321.far a)) := fun t ht => List.mem_map.mpr ⟨_, List.mem_map.mpr ⟨t, ht, rfl⟩, rfl⟩
        -- least
        refine ⟨_, rfl, _, rfl, p, CP, dx2, _, _, rfl, hp2, C.cl, C.limit, pf_limit _ _ _ _, _, _, rfl, rfl, D, ofN (a.signs.map (Ks321.far a)), _, rfl, rfl, SqL.of hD2, fun ez => ?_, fun m hm hmin => ?_⟩
        · have es : a.signs = [] := by
            cases z : a.signs with
            | nil => rfl
            | cons t l =>
              rw [z] at ez
              cases ez
          refine ⟨_, rfl, _, rfl, p, CP, dx2, _, _, rfl, hp2, C.cl, C.limit, pf_limit _ _ _ _, _, _, rfl, rfl, _, rfl, ?_⟩
          rw [decide_eq_true (show (a.limit : Int) < (a.limit : Int) + 1 by omega)]
          refine iteT ⟨(by show 1 ≤ sizeLine; decide), fun q hq => refuse (Same.refl _) hq (known_33 e0 fun t ht => ?_)⟩
          rw [es] at ht
          cases ht
        · obtain ⟨_, hm1, rfl⟩ := List.mem_map.mp hm
          obtain ⟨sg, hsgm, rfl⟩ := List.mem_map.mp hm1
          have hmin' : ∀ t ∈ a.signs, Ks321.far a sg ≤ Ks321.far a t := fun t ht => by
            have := hmin _ (near t ht)
            omega
          refine ⟨_, rfl, _, rfl, p, CP, dx2, _, _, rfl, hp2, C.cl, C.limit, pf_limit _ _ _ _, _, _, rfl, rfl, _, rfl, ite2 (fun h3 => ?_) (fun h3 => ?_)⟩
          · have h3 := of_decide_eq_true h3
            refine ⟨(by show 1 ≤ sizeLine; decide), fun q hq => refuse (Same.refl _) hq (known_33 e0 fun t ht => ?_)⟩
            have := hmin' t ht
            omega
          · have h3 : ¬ _ := fun z => h3 (decide_eq_true z)
            -- names
            refine ⟨_, rfl, p, CP, dx2, _, _, rfl, hp2, C.cl, C.signs, pf_signs _ _ _ _, _, rfl, ls, D, _, _, rfl, SqL.of hls2, SqL.of hD2, fun N hN => ?_⟩
            refine lc_zip (K := K) (a := ls) (b := D) (xs := vs) (ys := vI (a.signs.map (Ks321.far a))) (fun i H' => Same H2 H' ∧ ∃ acc, H' N = some (.lst acc) ∧ acc.length ≤ i ∧ Paired (NameV H2 (foot p ls lp lt ms ++ D :: X)) acc (((a.signs.take i).filter fun t => Ks321.far a t == Ks321.far a sg).map Sign.name))
              ⟨same_new hN, [], upd_same, Nat.le_refl _, .nil⟩ (fun i H' ⟨s5, _⟩ => ⟨SqL.of (s5 _ _ hls2), SqL.of (s5 _ _ hD2)⟩) ?_ ?_
            · rintro i x y H' q hx hy ⟨s5, acc, h5, hal, hacc⟩ hq
              obtain ⟨g, hg, ga, gdx, gn, gr, gm, rfl, gF, hga, hgn, hgr, hgm⟩ := paired_get hsg2 hx
              obtain ⟨fy, hfy, rfl⟩ := vI_get hy
              rw [List.getElem?_map, hg] at hfy
              have hfy : Ks321.far a g = fy := Option.some.inj hfy
              subst hfy
              have il : i < a.signs.length := (List.getElem?_eq_some_iff.mp hg).1
              have s6 : Same H2 (upd H' q (.tup [.ref ga, .int ((Ks321.far a g : Nat) : Int)])) := s5.trans (same_new hq)
              have h6 := same_new (o := HO.tup [.ref ga, .int ((Ks321.far a g : Nat) : Int)]) hq _ _ h5
              refine ⟨q, _, rfl, SqT.of upd_same, rfl, _, _, rfl, _, _, rfl, rfl, rfl, _, rfl, _, rfl, rfl, _, rfl, ite2 (fun h4 => ?_) (fun h4 => ?_)⟩
              · have h4 := V.int.inj (of_decide_eq_true h4)
                refine ⟨_, rfl, ga, CS, gdx, _, _, rfl, s6 _ _ hga, CSg.cl, CSg.name, sf_name _ _ _, acc, h6, small_size (by omega), same_upd s6 hN, acc ++ [.ref gn], upd_same, ?_, ?_⟩
                · rw [List.length_append]
                  simp only [List.length_cons, List.length_nil]
                  omega
                · rw [take_snoc hg, List.filter_append, List.filter_cons, if_pos (beq_iff_eq.mpr (by omega)), List.filter_nil, List.map_append]
                  exact Paired.snoc hacc hgn
              · have h4 : ¬ Ks321.far a g = Ks321.far a sg := fun z => h4 (decide_eq_true (by rw [z]))
                refine ⟨s6, acc, h6, by omega, ?_⟩
                rw [take_snoc hg, List.filter_append, List.filter_cons, if_neg (fun z => h4 (eq_of_beq z)), List.filter_nil, List.append_nil]
                exact hacc
            · rintro H3 ⟨s3, acc, hN3, hal, hacc⟩
              rw [vI_length, List.length_map, ← slen, Nat.min_self, slen, List.take_length] at hacc
              have alen := hacc.length
              cases hnm : ((a.signs.filter fun t => Ks321.far a t == Ks321.far a sg).map Sign.name) with
              | nil => exact absurd hnm (names_ne hsgm)
              | cons n0 nr0 =>
                rw [hnm] at hacc alen
                obtain ⟨t0, ht0, hf0, hn0⟩ := names_first hsgm hnm
                have hmin0 : ∀ u ∈ a.signs, Ks321.far a t0 ≤ Ks321.far a u := fun u hu => by
                  rw [hf0]
                  exact hmin' u hu
                have acc0 := hacc
                obtain ⟨v0, hv0, b0, rfl, b0F, hb0⟩ := pair_get' hacc (i := 0) (b := n0) rfl
                have nlen : (n0 :: nr0).length ≤ 40 := by
                  rw [← hnm, List.length_map]
                  exact Nat.le_trans (List.length_filter_le _ _) h40
                -- any
                refine ⟨_, rfl, N, rfl, ⟨_, SqL.of hN3⟩, fun W hW => ?_⟩
                refine lc_list (K := K) (a := N) (xs := acc) (fun i H' => Same H3 H' ∧ H' W = some (.lst ((((n0 :: nr0).map fun n => n != n0).take i).map V.bl))) ⟨same_new hW, upd_same⟩ (fun i H' _ ⟨s5, _⟩ => SqL.of (s5 _ _ hN3)) ?_ ?_
                · rintro i x H' hi ⟨s5, h5⟩
                  obtain ⟨n, hn, b, rfl, bF, hb⟩ := paired_get hacc hi
                  have hnm' : ((n0 :: nr0).map fun n => n != n0)[i]? = some (n != n0) := by
                    rw [List.getElem?_map, hn]
                    rfl
                  refine ⟨rfl, _, rfl, _, rfl, N, _, _, _, rfl, rfl, SqL.of (s5 _ _ hN3), atI_nat (j := 0) hv0, _, _, dp_name (s5 _ _ (s3 _ _ hb)), dp_name (s5 _ _ (s3 _ _ hb0)), PySem.W.ke_shaped_ints _, PySem.W.ke_shaped_ints _, _, h5, ?_, same_upd s5 hW, ?_⟩
                  · rw [List.length_map, List.length_take, List.length_map]
                    exact small_size (by omega)
                  · rw [upd_same, take_snoc hnm', List.map_append, eqv_name]
                    rfl
                · rintro H4 ⟨s4, h4⟩
                  rw [alen, ← List.length_map (f := fun n => n != n0), List.take_length] at h4
                  refine ⟨W, _, rfl, SqL.of h4, _, rfl, ite2 (fun h6 => ?_) (fun h6 => ?_)⟩
                  · obtain ⟨b, hb1, hb2⟩ := List.any_eq_true.mp h6
                    obtain ⟨n, hn1, rfl⟩ := List.mem_map.mp hb1
                    have hne : n ≠ n0 := bne_iff_ne.mp hb2
                    rw [← hnm] at hn1
                    obtain ⟨t, ht, rfl⟩ := List.mem_map.mp hn1
                    obtain ⟨ht1, ht2⟩ := List.mem_filter.mp ht
                    refine ⟨(by show 1 ≤ sizeLine; decide), fun q hq => refuse (s3.trans s4) hq (known_41 e0 ht0 hmin0 (by omega) ht1 ?_ ?_)⟩
                    · rw [hf0]
                      exact eq_of_beq ht2
                    · rw [hn0]
                      exact hne
                  · have all : ∀ t ∈ a.signs, Ks321.far a t = Ks321.far a t0 → t.name = t0.name := fun t ht ef => by
                      apply Decidable.byContradiction
                      intro hne
                      apply h6
                      rw [List.any_eq_true]
                      refine ⟨_, List.mem_map.mpr ⟨t.name, ?_, rfl⟩, bne_iff_ne.mpr (by rw [← hn0]; exact hne)⟩
                      rw [← hnm]
                      exact List.mem_map.mpr ⟨t, List.mem_filter.mpr ⟨ht, beq_iff_eq.mpr (ef.trans hf0)⟩, rfl⟩
                    have hk := known_ok e0 ht0 hmin0 (by omega) all
                    rw [hf0, hn0] at hk
                    have n08 : n0.length ≤ 8 := by
                      rw [← hn0]
                      exact (B.okS t0 ht0).1
                    refine ⟨_, rfl, (by show 1 ≤ sizeLine; decide), fun q hq => ?_⟩
                    have s34 := s3.trans s4
                    have s5 : Same H2 (upd H4 q (.lst [.int ((Ks321.far a sg : Nat) : Int)])) := s34.trans (same_new hq)
                    have s5' : Same H4 (upd H4 q (.lst [.int ((Ks321.far a sg : Nat) : Int)])) := same_new hq
                    refine ⟨_, rfl, N, _, _, _, rfl, rfl, SqL.of (s5' _ _ (s4 _ _ hN3)), atI_nat (j := 0) hv0, q, b0, _, _, rfl, rfl, upd_same, s5 _ _ hb0, small_le (by rw [vI_length]; simp only [List.length_cons, List.length_nil]; omega), fun q2 hq2 => ?_⟩
                    have s6 := s5.trans (same_new (o := HO.lst ([.int ((Ks321.far a sg : Nat) : Int)] ++ vI n0)) hq2)
                    refine k _ q2 (st2.trans (Step.same s6 _)) ⟨ls, lp, lt, ms, rfl, B2'.same s6⟩ ?_ ?_
                    · cases eq : H q2 with
                      | none => rfl
                      | some o =>
                        by_cases z : q2 ∈ foot p ls lp lt ms
                        · obtain ⟨o2, e2⟩ := (show PadIs CP CS CM H2 p (foot p ls lp lt ms) X a from ⟨ls, lp, lt, ms, rfl, B2'⟩).held q2 (List.mem_append_left _ z)
                          rw [s5 _ _ e2] at hq2
                          cases hq2
                        · rw [s5 _ _ (st2.keep q2 o eq z)] at hq2
                          cases hq2
                    · rw [upd_same, know_ok hk]
                      rfl
/-! ### Pad.take -/
theorem scTake : FnScope ["self", "answer"] ["self"] (defScope sPad_Take) := ⟨rfl, rfl, rfl, by decide +kernel, rfl, by decide +kernel, by decide +kernel⟩
theorem ok_take {f : Addr} {fd : FuncData} (F : Fun K "take" "Pad.take" sPad_Take f fd) (T : Txt mg) (C : ClsP K CP) (hKnow : MeAt P w K mg base 4 CP "know" ["self"] (spKnow CP CS CM)) : FnOk P w K mg base CX0 5 f fd ["self"] (spTake CP CS CM) := by
  obtain ⟨fK, fdK, GK, MK, bK⟩ := hKnow
  refine F.ok scTake (fun vs H Q E h => ?_) (fun cdv A outer s H vs Q E hr h => ?_)
  · obtain ⟨p, F, X, a, rfl, _⟩ := h
    rfl
  · obtain ⟨p, F, X, a, rfl, hB, k⟩ := h
    obtain ⟨ls, lp, lt, ms, rfl, B⟩ := hB
    obtain ⟨dx, hp⟩ := B.pad
    have PB : PadIs CP CS CM H p (foot p ls lp lt ms) X a := ⟨ls, lp, lt, ms, rfl, B⟩
    refine ⟨_, pss_cons (ps_set (i := 1) scTake.nd rfl (Or.inl rfl) (pe_meth0 (pv 0) C.cl MK GK hr bK .nil pass0))
      (pss_cons (ps_if (pt_cmpR op_lt (pe_ix ix_list (pv 1) pe_int (fun _ _ => rfl)) pe_int (nomark _)) (pss_one (ps_ret (pv 1))) pss_nil)
      (pss_cons (ps_if (pt_cmpR op_ge (pe_callB call_len_seq (by rfl) T.len PySem.boot_len (pa_cons (pe_fld (pv 0) rfl) pa_nil)) (pe_gint (by rfl) T.MOST_TAKEN) (nomark _)) (pss_one (ps_ret (pe_lst (pa_cons (pe_gint (by rfl) T.FULL) pa_nil)))) pss_nil)
      (pss_cons (ps_expr (pe_bm PySem.F.plainAttrs_list PySem.F.slot_list_append PySem.F.type_list_append mt_append (pe_fld (pv 0) rfl) (pa_cons (pe_slice sl_list (pv 1) (po_some pe_int) po_none) pa_nil)))
      (pss_cons (ps_fld (pv 0) (pe_lst pa_nil) rfl)
      (pss_one (ps_ret (pv 1))))))), ?_⟩
    refine ⟨_, rfl, p, dx, _, rfl, hp, pf_no _ _ _ _ (by decide +kernel) (by decide +kernel) (by decide +kernel) (by decide +kernel), p, _, X, a, rfl, PB, fun H1 q st1 PB1 nq hq => ?_⟩
    have qF : q ∉ foot p ls lp lt ms ++ X := PB.there nq
    cases hk : Ks321.known a with
    | error e =>
      have en := known_neg hk
      rw [know_err hk] at hq
      rw [take_err hk] at k
      refine ⟨_, rfl, q, _, _, _, rfl, rfl, SqL.of hq, atI_nat (j := 0) rfl, _, _, rfl, rfl, _, rfl, ?_⟩
      rw [decide_eq_true en]
      exact iteT ⟨_, rfl, k H1 _ q st1 PB1 qF hq⟩
    | ok x =>
      obtain ⟨d, n⟩ := x
      rw [know_ok hk] at hq
      refine ⟨_, rfl, q, _, _, _, rfl, rfl, SqL.of hq, atI_nat (j := 0) rfl, _, _, rfl, rfl, _, rfl, ?_⟩
      rw [decide_eq_false (show ¬ ((d : Int) < 0) by omega)]
      refine iteF ?_
      obtain ⟨ls1, lp1, lt1, ms1, e1, B1⟩ := PB1
      rw [e1] at qF
      obtain ⟨dx1, hp1⟩ := B1.pad
      obtain ⟨vt, hlt, htk⟩ := B1.taken
      have l3 := htk.length
      refine ⟨_, rfl, p, CP, dx1, _, _, rfl, hp1, C.cl, C.taken, pf_taken _ _ _ _, lt1, _, rfl, .inl (SqL.of hlt), _, _, rfl, rfl, _, rfl, ite2 (fun h1 => ?_) (fun h1 => ?_)⟩
      · have h1 := of_decide_eq_true h1
        rw [take_full hk (by omega)] at k
        refine ⟨(by show 1 ≤ sizeLine; decide), fun q2 hq2 => ?_⟩
        have s2 := same_new (o := HO.lst [V.int (-12)]) hq2
        have PB1 : PadIs CP CS CM H1 p (foot p ls lp lt ms) X a := ⟨ls1, lp1, lt1, ms1, e1, B1⟩
        refine k _ _ q2 (st1.trans (Step.same s2 _)) (PB1.same s2) (PB1.there hq2) ?_
        rw [upd_same]
        rfl
      · have h1 : ¬ _ := fun z => h1 (decide_eq_true z)
        rw [take_ok hk (by omega)] at k
        obtain ⟨sg, hsg, en⟩ := known_name hk
        have n8 : n.length ≤ 8 := by
          rw [← en]
          exact (B1.okS sg hsg).1
        refine ⟨_, rfl, p, CP, dx1, _, _, rfl, hp1, C.cl, C.taken, pf_taken _ _ _ _, .inl ⟨rfl, _, SqL.of hlt⟩, _, rfl, _, rfl, q, _, rfl, SqL.of hq, fun Z hZ => ?_⟩
        have eZ : cutV (((d : Int) :: ofN n).map V.int) (some 1) Option.none = vI n := by
          rw [cut_tail]
          rfl
        rw [eZ]
        have s2 : Same H1 (upd H1 Z (.lst (vI n))) := same_new hZ
        have B2 := B1.same s2
        have nZ : Z ∉ foot p ls1 lp1 lt1 ms1 ++ X := (show PadIs CP CS CM H1 p (foot p ls1 lp1 lt1 ms1) X a from ⟨ls1, lp1, lt1, ms1, rfl, B1⟩).there hZ
        have tl := B1.lenT
        refine ⟨lt1, _, _, rfl, rfl, s2 _ _ hlt, small_size (by omega), ?_⟩
        obtain ⟨st3, B3⟩ := B2.texted (vt' := vt ++ [.ref Z]) (t' := a.text ++ [n]) (Paired.snoc (Paired.mapP htk fun _ _ q => NameV.step (Step.same s2 _) q) ⟨Z, rfl, nZ, upd_same⟩) (by rw [List.length_append]; simp only [List.length_cons, List.length_nil]; omega) (fun m hm => by
          rcases List.mem_append.mp hm with z | z
          · exact B1.okT m z
          · rw [List.mem_singleton.mp z]
            exact n8)
        refine ⟨Nat.zero_le _, fun l hl => ?_⟩
        have hp3 : upd (upd H1 Z (.lst (vI n))) lt1 (.lst (vt ++ [.ref Z])) p = some (.ins CP dx1 (pf a.limit ls1 lp1 lt1)) := by
          rw [upd_ne (ne_of hp1 hlt (by intro z; cases z))]
          exact s2 _ _ hp1
        have pl : p ≠ l := ne_of_none hp3 hl
        refine ⟨_, rfl, p, CP, dx1, _, rfl, (by rw [upd_ne pl]; exact hp3), C.cl, C.points, (by show 4 < 1000; decide), ?_⟩
        rw [pf_put_points]
        obtain ⟨st4, B4⟩ := B3.cleared hp3 hl
        have st34 := (Step.same s2 _).trans (st3.trans st4)
        refine ⟨_, rfl, k _ (foot p ls1 l lt1 ms1) q (st1.trans (by rw [e1]; exact st34)) ⟨ls1, l, lt1, ms1, rfl, B4⟩ (st34.outX hq qF) ?_⟩
        have hqf := st34.keepX hq qF
        rw [hqf]
        rfl
end
end My
set_option Elab.async false
set_option maxRecDepth 100000
set_option maxHeartbeats 4000000
namespace My
open PySem PySem.Spec PyProof.Rows L2
open Ks321 (Sign Abs)
/-! ### a reader: the list, the place -/
def rf (l : Addr) (k : Nat) : List (Str × V) := [("numbers", .ref l), ("place", .int (k : Int))]
theorem rf_numbers (l : Addr) (k : Nat) : (rf l k).lookup ("numbers" : Str) = some (.ref l) := look_hit
theorem rf_place (l : Addr) (k : Nat) : (rf l k).lookup ("place" : Str) = some (.int (k : Int)) := by
  unfold rf
  rw [look_miss (by decide +kernel), look_hit]
theorem rf_no (l : Addr) (k : Nat) {m : Str} (h1 : ¬ m = "numbers") (h2 : ¬ m = "place") : (rf l k).lookup m = Option.none := by
  unfold rf
  rw [look_miss h1, look_miss h2, look_nil]
theorem rf_put (l : Addr) (k j : Nat) : putF "place" (.int (j : Int)) (rf l k) = rf l j := by
  unfold rf
  rw [put_miss (by decide +kernel), put_hit]
def RdAt (CR : Addr) (H : Hp) (r l : Addr) (k : Nat) : Prop := ∃ dx, H r = some (.ins CR dx (rf l k))
structure ClsR (K : PySem.W.Frag) (CR : Addr) : Prop where
  cl : Cls K CR
  numbers : NoAttr K CR "numbers"
  place : NoAttr K CR "place"
/-- the list that is handed in: outside F, or an object of the module -/
def SqO (K : PySem.W.Frag) (H : Hp) (F : List Addr) (l : Addr) (xs : List V) : Prop := (Rd H l (.lst xs) ∧ l ∉ F) ∨ SqL K (fun _ => Option.none) l xs
theorem SqO.sq {K : PySem.W.Frag} {H : Hp} {F : List Addr} {l : Addr} {xs : List V} (h : SqO K H F l xs) : SqL K H l xs := by
  rcases h with ⟨h, _⟩ | h
  · exact .inl h
  · rcases h with (h | ⟨o, h⟩) | h
    · cases h
    · cases h
    · exact .inr h
theorem SqO.step {K : PySem.W.Frag} {H H' : Hp} {F F' : List Addr} {l : Addr} {xs : List V} (s : Step H H' F F') (h : SqO K H F l xs) : SqO K H' F' l xs := by
  rcases h with ⟨h | ⟨o, h⟩, n⟩ | h
  · exact .inl ⟨.inl (s.keep _ _ h n), s.out h n⟩
  · exact .inl ⟨.inr ⟨o, s.keep _ _ h n⟩, s.out h n⟩
  · exact .inr h
theorem sq_keep {K : PySem.W.Frag} {H H' : Hp} {r l C dx : Addr} {fs : List (Str × V)} {xs : List V} (hr : H r = some (.ins C dx fs)) (k : ∀ b, b ≠ r → H' b = H b) (h : SqL K H l xs) : SqL K H' l xs := by
  rcases h with (h | ⟨o, h⟩) | h
  · exact .inl (.inl (by rw [k l (ne_of h hr (by intro z; cases z))]; exact h))
  · exact .inl (.inr ⟨o, by rw [k l (ne_of h hr (by intro z; cases z))]; exact h⟩)
  · exact .inr h
/-! ### the promises -/
def spRInit (CR : Addr) : Sp := fun vs H Q _ => ∃ (r dx l : Addr), vs = [.ref r, .ref l] ∧ H r = some (.ins CR dx []) ∧ ∀ H' : Hp, RdAt CR H' r l 0 → (∀ b, b ≠ r → H' b = H b) → Q .non H'
def spAtEnd (K : PySem.W.Frag) (CR : Addr) : Sp := fun vs H Q _ => ∃ (r l : Addr) (k : Nat) (ns : List Int), vs = [.ref r] ∧ RdAt CR H r l k ∧ SqL K H l (ns.map V.int) ∧ Q (.bl (decide (ns.length ≤ k))) H
def spNum (K : PySem.W.Frag) (CR : Addr) : Sp := fun vs H Q _ => ∃ (r l : Addr) (k : Nat) (ns : List Int) (z : Int), vs = [.ref r] ∧ RdAt CR H r l k ∧ SqL K H l (ns.map V.int) ∧ ns[k]? = some z ∧ ∀ H' : Hp, RdAt CR H' r l (k + 1) → (∀ b, b ≠ r → H' b = H b) → Q (.int z) H'
def spReadName (K : PySem.W.Frag) (CR : Addr) : Sp := fun vs H Q _ => ∃ (r l : Addr) (k : Nat) (ns : List Int) (n : List Nat) (rest : List Int), vs = [.ref r] ∧ RdAt CR H r l k ∧ SqL K H l (ns.map V.int) ∧ ns.drop k = (n.length : Int) :: (ofN n ++ rest) ∧ ∀ (H' : Hp) (c : Addr), RdAt CR H' r l (k + 1 + n.length) → H c = Option.none → H' c = some (.lst (vI n)) → (∀ b, b ≠ r → b ≠ c → H' b = H b) → Q (.ref c) H'
section
variable {P : Program} {w : World} {K : PySem.W.Frag} {mg : Str → Option Value} {base : Heap} {CR : Addr}
/-! ### Reader.__init__ -/
theorem scRInit : FnScope ["self", "numbers"] ["self", "numbers"] (defScope sReader_Init) := ⟨rfl, rfl, rfl, by decide +kernel, rfl, by decide +kernel, by decide +kernel⟩
theorem ok_rInit {f : Addr} {fd : FuncData} (F : Fun K "__init__" "Reader.__init__" sReader_Init f fd) (C : ClsR K CR) : FnOk P w K mg base CX0 1 f fd ["self", "numbers"] (spRInit CR) := by
  refine F.ok scRInit (fun vs H Q E h => ?_) (fun cdv A outer s H vs Q E hr h => ?_)
  · obtain ⟨r, dx, l, rfl, _⟩ := h
    rfl
  · obtain ⟨r, dx, l, rfl, hp, k⟩ := h
    refine ⟨_, pss_cons (ps_fld (pv 0) (pv 1) rfl) (pss_one (ps_fld (pv 0) pe_int rfl)), ?_⟩
    refine ⟨_, rfl, _, rfl, r, CR, dx, [], rfl, hp, C.cl, C.numbers, (by show 0 < 1000; decide), _, rfl, r, CR, dx, _, rfl, upd_same, C.cl, C.place, (by show 1 < 1000; decide), ?_⟩
    refine k _ ⟨dx, ?_⟩ fun b hb => ?_
    · rw [upd_same]
      show some (HO.ins CR dx (putF "place" (.int 0) [(("numbers" : Str), V.ref l)])) = _
      rw [put_miss (by decide +kernel)]
      rfl
    · rw [upd_ne hb, upd_ne hb]
/-! ### Reader.at_end -/
theorem scAtEnd : FnScope ["self"] ["self"] (defScope sReader_AtEnd) := ⟨rfl, rfl, rfl, by decide +kernel, rfl, by decide +kernel, by decide +kernel⟩
theorem ok_atEnd {f : Addr} {fd : FuncData} (F : Fun K "at_end" "Reader.at_end" sReader_AtEnd f fd) (T : Txt mg) (C : ClsR K CR) : FnOk P w K mg base CX0 1 f fd ["self"] (spAtEnd K CR) := by
  refine F.ok scAtEnd (fun vs H Q E h => ?_) (fun cdv A outer s H vs Q E hr h => ?_)
  · obtain ⟨r, l, k, ns, rfl, _⟩ := h
    rfl
  · obtain ⟨r, l, j, ns, rfl, ⟨dx, hp⟩, hl, k⟩ := h
    refine ⟨_, pss_one (ps_ret (pe_cmpR op_ge (pe_fld (pv 0) rfl) (pe_callB call_len_seq (by rfl) T.len PySem.boot_len (pa_cons (pe_fld (pv 0) rfl) pa_nil)) (nomark _))), ?_⟩
    refine ⟨_, rfl, r, CR, dx, _, _, rfl, hp, C.cl, C.place, rf_place _ _, _, rfl, r, CR, dx, _, _, rfl, hp, C.cl, C.numbers, rf_numbers _ _, l, _, rfl, .inl hl, _, _, rfl, rfl, ?_⟩
    have e : decide ((((ns.map V.int).length : Nat) : Int) ≤ (j : Int)) = decide (ns.length ≤ j) := by
      apply decide_eq_decide.mpr
      rw [List.length_map]
      omega
    show Q (V.bl (decide ((((ns.map V.int).length : Nat) : Int) ≤ (j : Int)))) H
    rw [e]
    exact k
/-! ### Reader.read_number -/
theorem scNum : FnScope ["self", "number"] ["self"] (defScope sReader_ReadNumber) := ⟨rfl, rfl, rfl, by decide +kernel, rfl, by decide +kernel, by decide +kernel⟩
theorem ok_num {f : Addr} {fd : FuncData} (F : Fun K "read_number" "Reader.read_number" sReader_ReadNumber f fd) (C : ClsR K CR) : FnOk P w K mg base CX0 1 f fd ["self"] (spNum K CR) := by
  refine F.ok scNum (fun vs H Q E h => ?_) (fun cdv A outer s H vs Q E hr h => ?_)
  · obtain ⟨r, l, k, ns, z, rfl, _⟩ := h
    rfl
  · obtain ⟨r, l, j, ns, z, rfl, ⟨dx, hp⟩, hl, hz, k⟩ := h
    refine ⟨_, pss_cons (ps_set (i := 1) scNum.nd rfl (Or.inl rfl) (pe_ix ix_list (pe_fld (pv 0) rfl) (pe_fld (pv 0) rfl) (fun _ _ => rfl)))
      (pss_cons (ps_fld (pv 0) (pe_op op_add (pe_fld (pv 0) rfl) pe_int) rfl) (pss_one (ps_ret (pv 1)))), ?_⟩
    have hz' : (ns.map V.int)[j]? = some (V.int z) := by
      rw [List.getElem?_map, hz]
      rfl
    refine ⟨_, rfl, r, CR, dx, _, _, rfl, hp, C.cl, C.numbers, rf_numbers _ _, _, rfl, r, CR, dx, _, _, rfl, hp, C.cl, C.place, rf_place _ _, l, _, _, _, rfl, rfl, hl, atI_nat hz', ?_⟩
    refine ⟨_, rfl, r, CR, dx, _, _, rfl, hp, C.cl, C.place, rf_place _ _, _, _, rfl, rfl, _, rfl, r, CR, dx, _, rfl, hp, C.cl, C.place, (by show 2 < 1000; decide), ?_⟩
    refine ⟨_, rfl, k _ ⟨dx, ?_⟩ fun b hb => upd_ne hb⟩
    rw [upd_same]
    have e := rf_put l j (j + 1)
    have e' : ((j + 1 : Nat) : Int) = (j : Int) + 1 := by omega
    rw [e'] at e
    rw [e]
/-! ### Reader.read_name -/
theorem scReadName : FnScope ["self", "length", "start"] ["self"] (defScope sReader_ReadName) := ⟨rfl, rfl, rfl, by decide +kernel, rfl, by decide +kernel, by decide +kernel⟩
theorem drop_get {α : Type} {l : List α} {k : Nat} {x : α} {r : List α} (h : l.drop k = x :: r) : l[k]? = some x ∧ l.drop (k + 1) = r ∧ k < l.length := by
  have hk : k < l.length := by
    apply Nat.lt_of_not_le
    intro q
    rw [List.drop_of_length_le q] at h
    cases h
  rw [List.drop_eq_getElem_cons hk] at h
  obtain ⟨h1, h2⟩ := List.cons.inj h
  exact ⟨by rw [List.getElem?_eq_getElem hk, h1], h2, hk⟩
theorem ok_readName {f : Addr} {fd : FuncData} (F : Fun K "read_name" "Reader.read_name" sReader_ReadName f fd) (C : ClsR K CR) (hNum : MeAt P w K mg base 1 CR "read_number" ["self"] (spNum K CR)) : FnOk P w K mg base CX0 2 f fd ["self"] (spReadName K CR) := by
  obtain ⟨fN, fdN, GN, MN, bN⟩ := hNum
  refine F.ok scReadName (fun vs H Q E h => ?_) (fun cdv A outer s H vs Q E hr h => ?_)
  · obtain ⟨r, l, k, ns, n, rest, rfl, _⟩ := h
    rfl
  · obtain ⟨r, l, j, ns, n, rest, rfl, ⟨dx, hp⟩, hl, hd, k⟩ := h
    obtain ⟨hz, hd2, hj⟩ := drop_get hd
    have nlen : n.length + (j + 1) ≤ ns.length := by
      have := congrArg List.length hd2
      rw [List.length_drop, List.length_append, List.length_map] at this
      omega
    refine ⟨_, pss_cons (ps_set (i := 1) scReadName.nd rfl (Or.inl rfl) (pe_meth0 (pv 0) C.cl MN GN hr bN .nil pass0))
      (pss_cons (ps_set (i := 2) scReadName.nd rfl (Or.inl rfl) (pe_fld (pv 0) rfl))
      (pss_cons (ps_fld (pv 0) (pe_op op_add (pv 2) (pv 1)) rfl)
      (pss_one (ps_ret (pe_slice sl_list (pe_fld (pv 0) rfl) (po_some (pv 2)) (po_some (pe_op op_add (pv 2) (pv 1)))))))), ?_⟩
    refine ⟨_, rfl, r, dx, _, rfl, hp, rf_no _ _ (by decide +kernel) (by decide +kernel), r, l, j, ns, _, rfl, ⟨dx, hp⟩, hl, hz, fun H1 hR1 kp1 => ?_⟩
    obtain ⟨dx1, hp1⟩ := hR1
    have hl1 := sq_keep hp kp1 hl
    refine ⟨_, rfl, r, CR, dx1, _, _, rfl, hp1, C.cl, C.place, rf_place _ _, ?_⟩
    refine ⟨_, rfl, _, rfl, _, _, rfl, rfl, _, rfl, r, CR, dx1, _, rfl, hp1, C.cl, C.place, (by show 2 < 1000; decide), ?_⟩
    have e1 : (((j + 1 : Nat) : Int) + (n.length : Int)) = ((j + 1 + n.length : Nat) : Int) := by omega
    dsimp only
    rw [e1, rf_put]
    have kp2 : ∀ b, b ≠ r → upd H1 r (.ins CR dx1 (rf l (j + 1 + n.length))) b = H1 b := fun b hb => upd_ne hb
    have hl2 := sq_keep hp1 kp2 hl1
    refine ⟨_, rfl, r, CR, dx1, _, _, rfl, upd_same, C.cl, C.numbers, rf_numbers _ _, _, rfl, _, rfl, _, rfl, _, rfl, _, _, rfl, rfl, _, rfl, l, _, rfl, hl2, fun c hc => ?_⟩
    have cr : c ≠ r := fun z => by
      rw [z, upd_same] at hc
      cases hc
    refine k _ c ⟨dx1, ?_⟩ ?_ ?_ fun b hb hb2 => ?_
    · rw [upd_ne cr.symm]
      exact upd_same
    · rw [upd_ne cr, kp1 c cr] at hc
      exact hc
    · rw [upd_same]
      have e2 : cutV (ns.map V.int) (some (((j + 1 : Nat)) : Int)) (some (((j + 1 : Nat) : Int) + (n.length : Int))) = vI n := by
        rw [e1, cut_mid _ _ _ (by rw [List.length_map]; omega), ← List.map_drop, hd2, ← List.map_take]
        have : (ofN n ++ rest).take n.length = ofN n := by
          have h := PyFlat.take_len (ofN n) rest
          rw [List.length_map] at h
          exact h
        rw [this]
      rw [e2]
    · rw [upd_ne hb2, upd_ne hb]
      exact kp1 b hb
end
end My
set_option Elab.async false
set_option maxRecDepth 100000
set_option maxHeartbeats 4000000
namespace My
open PySem PySem.Spec PyProof.Rows L2
open Ks321 (Sign Abs)
theorem Step.cons {H H' : Hp} {F F' : List Addr} (s : Step H H' F F') (r : Addr) : Step H H' (r :: F) (r :: F') := ⟨fun b o e hb => s.keep b o e (fun z => hb (List.mem_cons_of_mem _ z)), fun b hb => by
  rcases List.mem_cons.mp hb with rfl | hb
  · exact .inl (List.mem_cons_self ..)
  · rcases s.foot b hb with q | q
    · exact .inl (List.mem_cons_of_mem _ q)
    · exact .inr q⟩
/-- the reader alone turned -/
theorem Step.reader {H H' : Hp} {r : Addr} (k : ∀ b, b ≠ r → H' b = H b) (F : List Addr) : Step H H' (r :: F) (r :: F) := ⟨fun b o e hb => by
  rw [k b (fun z => hb (by rw [z]; exact List.mem_cons_self ..))]
  exact e, fun _ h => .inl h⟩
/-- pad and reader as they stand between two calls; X: the reader and others' things -/
structure Ctx (K : PySem.W.Frag) (CP CS CM CR : Addr) (H : Hp) (p r l : Addr) (F X : List Addr) (a : Abs) (j : Nat) (ns : List Int) : Prop where
  pad : PadIs CP CS CM H p F X a
  rd : RdAt CR H r l j
  rX : r ∈ X
  tup : ∀ b, b ∈ X → ∀ xs, H b ≠ some (.tup xs)
  sq : SqO K H (F ++ X) l (ns.map V.int)
section
variable {K : PySem.W.Frag} {CP CS CM CR : Addr} {H H' : Hp} {p r l : Addr} {F F' X : List Addr} {a a' : Abs} {j j' : Nat} {ns : List Int}
theorem PadIs.thX (B : PadIs CP CS CM H p F X a) : ∀ b, b ∈ X → (∃ o, H b = some o) ∧ b ∉ F := by
  obtain ⟨ls, lp, lt, ms, rfl, B⟩ := B
  exact B.thX
theorem Ctx.rF (c : Ctx K CP CS CM CR H p r l F X a j ns) : r ∉ F := (c.pad.thX r c.rX).2
theorem Ctx.step (c : Ctx K CP CS CM CR H p r l F X a j ns) (s : Step H H' F F') (B : PadIs CP CS CM H' p F' X a') : Ctx K CP CS CM CR H' p r l F' X a' j ns where
  pad := B
  rd := let ⟨dx, h⟩ := c.rd; ⟨dx, s.keep _ _ h c.rF⟩
  rX := c.rX
  tup := fun b hb xs e => by
    obtain ⟨⟨o, h⟩, n⟩ := c.pad.thX b hb
    have h' := s.keep b o h n
    rw [e] at h'
    cases h'
    exact c.tup b hb xs h
  sq := by
    rcases c.sq with ⟨h | ⟨o, h⟩, n⟩ | h
    · exact .inl ⟨.inl (s.keepX h n), s.outX h n⟩
    · exact .inl ⟨.inr ⟨o, s.keepX h n⟩, s.outX h n⟩
    · exact .inr h
theorem Ctx.same (c : Ctx K CP CS CM CR H p r l F X a j ns) (s : Same H H') : Ctx K CP CS CM CR H' p r l F X a j ns := c.step (Step.same s F) (c.pad.same s)
/-- one of X's things changed, and is no tuple -/
theorem Ctx.other {b : Addr} (c : Ctx K CP CS CM CR H p r l F X a j ns) (hb : b ∈ X) (k : ∀ d, d ≠ b → H' d = H d) {o : HO} (e : H' b = some o) (nt : ∀ xs, o ≠ .tup xs) (hr : RdAt CR H' r l j') : Ctx K CP CS CM CR H' p r l F X a j' ns where
  pad := c.pad.other (fun d hd => k d fun z => hd (by rw [z]; exact hb)) (fun d hd => by
    by_cases z : d = b
    · exact ⟨o, by rw [z]; exact e⟩
    · obtain ⟨⟨u, h⟩, _⟩ := c.pad.thX d hd
      exact ⟨u, by rw [k d z]; exact h⟩) c.tup
  rd := hr
  rX := c.rX
  tup := fun d hd xs h => by
    by_cases z : d = b
    · rw [z, e] at h
      exact nt xs (Option.some.inj h)
    · rw [k d z] at h
      exact c.tup d hd xs h
  sq := by
    have ne : ∀ {n : l ∉ F ++ X}, l ≠ b := fun {n} z => n (List.mem_append_right _ (by rw [z]; exact hb))
    rcases c.sq with ⟨h | ⟨o, h⟩, n⟩ | h
    · exact .inl ⟨.inl (by rw [k l (ne (n := n))]; exact h), n⟩
    · exact .inl ⟨.inr ⟨o, by rw [k l (ne (n := n))]; exact h⟩, n⟩
    · exact .inr h
theorem Ctx.read (c : Ctx K CP CS CM CR H p r l F X a j ns) (hr : RdAt CR H' r l j') (k : ∀ d, d ≠ r → H' d = H d) : Ctx K CP CS CM CR H' p r l F X a j' ns := by
  have hr' := hr
  obtain ⟨dx, e⟩ := hr'
  exact c.other c.rX k e (fun xs z => by cases z) hr
/-- a name has been read: a new list stands at d -/
theorem Ctx.name (c : Ctx K CP CS CM CR H p r l F X a j ns) (hr : RdAt CR H' r l j') {d : Addr} {n : List Nat} (hd : H d = Option.none) (hd' : H' d = some (.lst (vI n))) (k : ∀ b, b ≠ r → b ≠ d → H' b = H b) :
    Ctx K CP CS CM CR H' p r l F X a j' ns ∧ NameV H' (F ++ X) (.ref d) n ∧ Step H H' (r :: F) (r :: F) := by
  obtain ⟨dx, e⟩ := hr
  obtain ⟨dr, er⟩ := c.rd
  have nd : d ∉ F ++ X := c.pad.there hd
  have dr' : r ≠ d := ne_of_none er hd
  have k1 : ∀ b, b ≠ r → (fun b => if b = r then H' r else H b : Hp) b = H b := fun b hb => if_neg hb
  have e1 : (fun b => if b = r then H' r else H b : Hp) r = some (.ins CR dx (rf l j')) := by
    show (if r = r then H' r else H r) = _
    rw [if_pos rfl]
    exact e
  have c1 := c.read (H' := fun b => if b = r then H' r else H b) ⟨dx, e1⟩ k1
  have s1 : Same (fun b => if b = r then H' r else H b) H' := fun b o h => by
    have h : (if b = r then H' r else H b) = some o := h
    by_cases z : b = r
    · rw [if_pos z] at h
      rw [z]
      exact h
    · rw [if_neg z] at h
      rw [k b z (ne_of_none h hd)]
      exact h
  refine ⟨c1.same s1, ⟨d, rfl, nd, hd'⟩, ⟨fun b o h hb => ?_, fun _ h => .inl h⟩⟩
  rw [k b (fun z => hb (by rw [z]; exact List.mem_cons_self ..)) (ne_of_none h hd)]
  exact h
end
/-- one call answered -/
def spAnswer (K : PySem.W.Frag) (CP CS CM CR : Addr) : Sp := fun vs H Q _ => ∃ (p r l : Addr) (F X : List Addr) (a : Abs) (j : Nat) (ns : List Int) (c : List (List Int)) (rest : List Int), vs = [.ref p, .ref r] ∧ Ctx K CP CS CM CR H p r l F X a j ns ∧ ns.length ≤ 31000 ∧ Good c ∧ ns.drop j = PyFlat.put1 c ++ rest ∧
  ∀ (H' : Hp) (F' : List Addr) (q : Addr), Step H H' (r :: F) (r :: F') → Ctx K CP CS CM CR H' p r l F' X (Ks321Neutral.step a c).1 (j + (PyFlat.put1 c).length) ns → q ∉ F' ++ X → H' q = some (.lst ((Ks321Neutral.step a c).2.map V.int)) → Q (.ref q) H'
theorem iteE {x y : V} {A B : Prop} (h : x = y) (a : A) : if decide (x = y) = true then A else B := by
  rw [decide_eq_true h]
  exact iteT a
theorem iteN {x y : V} {A B : Prop} (h : ¬ x = y) (b : B) : if decide (x = y) = true then A else B := by
  rw [decide_eq_false h]
  exact iteF b
/-! ### answers -/
def spAnswers (K : PySem.W.Frag) : Sp := fun vs H Q _ => ∃ (l : Addr) (ns : List Int), vs = [.ref l] ∧ SqL K H l (ns.map V.int) ∧ ns.length ≤ 31000 ∧ PyKs321.answers_asked ns = true ∧ ∀ (H' : Hp) (q : Addr), H' q = some (.lst ((PyKs321.answers ns).map V.int)) → Q (.ref q) H'
section
variable {P : Program} {w : World} {K : PySem.W.Frag} {mg : Str → Option Value} {base : Heap} {CP CS CM CR : Addr}
theorem scAnswers : FnScope ["calls", "pad", "reader", "answered", "answer"] ["calls"] (defScope sAnswers) := ⟨rfl, rfl, rfl, by decide +kernel, rfl, by decide +kernel, by decide +kernel⟩
theorem ok_answers {f : Addr} {fd : FuncData} (F : Fun K "answers" "answers" sAnswers f fd) (T : Txt mg) (CRc : ClsR K CR) (hPad : MkAt P w K mg base 1 "Pad" CP ["self"] (spPadInit CP CS CM)) (hReader : MkAt P w K mg base 1 "Reader" CR ["self", "numbers"] (spRInit CR))
    (hEnd : MeAt P w K mg base 1 CR "at_end" ["self"] (spAtEnd K CR)) (hAns : FnAt P w K mg base 7 "answer_of" ["pad", "reader"] (spAnswer K CP CS CM CR)) : FnOk P w K mg base CX0 8 f fd ["calls"] (spAnswers K) := by
  obtain ⟨fP, fdP, GP, MP, mP, bP⟩ := hPad
  obtain ⟨fR, fdR, GR, MR, mR, bR⟩ := hReader
  obtain ⟨fE, fdE, GE, ME, bE⟩ := hEnd
  obtain ⟨fA, fdA, GA, mA, kA, bA⟩ := hAns
  refine F.ok scAnswers (fun vs H Q E h => ?_) (fun cdv A outer s H vs Q E hr h => ?_)
  · obtain ⟨l, ns, rfl, _⟩ := h
    rfl
  · obtain ⟨l, ns, rfl, hl, hlen, hask, k⟩ := h
    obtain ⟨cs0, hput, hgood, h5000, hans, hbig⟩ := asked_split hask
    have hr1 : Room 1 _ := hr.mono (by decide)
    have hr2 : Room 2 _ := hr.mono (by decide)
    refine ⟨_, pss_cons (ps_set (i := 1) scAnswers.nd rfl (Or.inl rfl) (pe_make0 MP GP hr2 rfl mP bP .nil pass0))
      (pss_cons (ps_set (i := 2) scAnswers.nd rfl (Or.inl rfl) (pe_make MR GR hr2 rfl mR bR .nil pass0 (pa_cons (pv 0) pa_nil)))
      (pss_cons (ps_set (i := 3) scAnswers.nd rfl (Or.inl rfl) (pe_lst pa_nil))
      (pss_cons (ps_while PassesOwn.never (pt_not (pt_val (pe_meth0 (pv 2) CRc.cl ME GE hr1 bE .nil pass0)))
        (pss_cons (ps_set (i := 4) scAnswers.nd rfl (Or.inl rfl) (pe_call GA hr rfl mA kA bA .nil pass0 (pa_cons (pv 1) (pa_cons (pv 2) pa_nil))))
        (pss_cons (ps_expr (pe_bm PySem.F.plainAttrs_list PySem.F.slot_list_append PySem.F.type_list_append mt_append (pv 3) (pa_cons (pe_callB call_len_seq (by rfl) T.len PySem.boot_len (pa_cons (pv 4) pa_nil)) pa_nil)))
        (pss_one (ps_expr (pe_bm PySem.F.plainAttrs_list PySem.F.slot_list_extend PySem.F.type_list_extend mt_extend (pv 3) (pa_cons (pv 4) pa_nil)))))))
      (pss_one (ps_ret (pv 3)))))), ?_⟩
    -- pad = Pad()
    intro p dp np ndp nep
    refine ⟨p, dp, rfl, upd_same, fun H1 F1 st1 B1 => ⟨rfl, ?_⟩⟩
    have s1 : Same H H1 := fun b o e => st1.keep b o (by rw [upd_ne (ne_of_none e np), upd_ne (ne_of_none e ndp)]; exact e) (fun z => ne_of_none e np (List.mem_singleton.mp z))
    have fr1 : ∀ b, b ∈ F1 → H b = Option.none := fun b hb => by
      rcases st1.foot b hb with z | z
      · rw [List.mem_singleton.mp z]
        exact np
      · cases e : H b with
        | none => rfl
        | some o =>
          rw [upd_ne (ne_of_none e np), upd_ne (ne_of_none e ndp), e] at z
          cases z
    -- reader = Reader(calls)
    refine ⟨_, rfl, fun r dr nr ndr ner => ?_⟩
    refine ⟨r, dr, l, rfl, upd_same, fun H2 R2 kp2 => ⟨rfl, ?_⟩⟩
    have s2 : Same H1 H2 := fun b o e => by
      rw [kp2 b (ne_of_none e nr), upd_ne (ne_of_none e nr), upd_ne (ne_of_none e ndr)]
      exact e
    obtain ⟨dR, hR2⟩ := R2
    have B2 := B1.add s2 nr hR2
    -- answered = []
    refine ⟨Nat.zero_le _, fun q hq => ?_⟩
    have s3 : Same H2 (upd H2 q (.lst [])) := same_new hq
    have B3 := B2.add s3 hq upd_same
    have so : SqO K (upd H2 q (.lst [])) (F1 ++ [q, r]) l (ns.map V.int) := by
      have out : ∀ o, H l = some o → l ∉ F1 ++ [q, r] := fun o e z => by
        rcases List.mem_append.mp z with z | z
        · rw [fr1 l z] at e
          cases e
        · rcases List.mem_cons.mp z with z | z
          · rw [z] at e
            rw [s2 _ _ (s1 _ _ e)] at hq
            cases hq
          · rw [List.mem_singleton.mp z] at e
            rw [s1 _ _ e] at nr
            cases nr
      rcases hl with (h | ⟨o, h⟩) | h
      · exact .inl ⟨.inl (s3 _ _ (s2 _ _ (s1 _ _ h))), out _ h⟩
      · exact .inl ⟨.inr ⟨o, s3 _ _ (s2 _ _ (s1 _ _ h))⟩, out _ h⟩
      · exact .inr (.inr h)
    have c0 : Ctx K CP CS CM CR (upd H2 q (.lst [])) p r l F1 [q, r] {} 0 ns := ⟨B3, ⟨dR, s3 _ _ hR2⟩, by simp, fun b hb xs e => (by
      rcases List.mem_cons.mp hb with z | z
      · rw [z, upd_same] at e
        cases e
      · rw [List.mem_singleton.mp z, s3 _ _ hR2] at e
        cases e), so⟩
    refine ⟨fun m σ H' => ∃ (v4 : Option V) (F' : List Addr) (a : Abs) (j : Nat) (cs : List (List (List Int))) (out : List Int), σ = [some (.ref l), some (.ref p), some (.ref r), some (.ref q), v4] ∧ cs.length = m ∧ Ctx K CP CS CM CR H' p r l F' [q, r] a j ns ∧ ns.drop j = PyFlat.put cs ∧ (∀ c ∈ cs, Good c) ∧ H' q = some (.lst (out.map V.int)) ∧ PyKs321.answers ns = out ++ PyFlat.told (PyFlat.played Ks321Neutral.step a cs),
      ⟨cs0.length, none, F1, {}, 0, cs0, [], rfl, rfl, c0, hput, hgood, upd_same, hans⟩, ?_⟩
    rintro m σ H' ⟨v4, F', a, j, cs, out, rfl, rfl, C, hd, hg, hout, hall⟩
    obtain ⟨dx, hR⟩ := C.rd
    refine ⟨_, rfl, r, dx, _, rfl, hR, rf_no _ _ (by decide +kernel) (by decide +kernel), r, l, j, ns, rfl, C.rd, C.sq.sq, _, rfl, ?_⟩
    cases cs with
    | nil =>
      have hj : ns.length ≤ j := by
        have := congrArg List.length hd
        rw [List.length_drop] at this
        have e : (PyFlat.put []).length = 0 := rfl
        omega
      rw [decide_eq_true hj]
      refine iteF ⟨_, rfl, k H' q ?_⟩
      have e : PyFlat.told (PyFlat.played Ks321Neutral.step a []) = [] := rfl
      rw [e, List.append_nil] at hall
      rw [hall]
      exact hout
    | cons c cs =>
      have hc := hg c (List.mem_cons_self ..)
      have hj : ¬ ns.length ≤ j := fun z => by
        rw [List.drop_of_length_le z, put_cons] at hd
        cases hc <;> cases hd
      rw [decide_eq_false hj]
      refine iteT ⟨fun σ' H'' => ∃ (v4 : Option V) (F' : List Addr) (a : Abs) (j : Nat) (out : List Int), σ' = [some (.ref l), some (.ref p), some (.ref r), some (.ref q), v4] ∧ Ctx K CP CS CM CR H'' p r l F' [q, r] a j ns ∧ ns.drop j = PyFlat.put cs ∧ H'' q = some (.lst (out.map V.int)) ∧ PyKs321.answers ns = out ++ PyFlat.told (PyFlat.played Ks321Neutral.step a cs),
        fun σ' H'' ⟨v4, F', a, j, out, z1, z2, z3, z4, z5⟩ => ⟨cs.length, Nat.lt_succ_self _, v4, F', a, j, cs, out, z1, rfl, z2, z3, fun d hd => hg d (List.mem_cons_of_mem _ hd), z4, z5⟩, ?_⟩
      refine ⟨_, rfl, _, rfl, p, r, l, F', [q, r], a, j, ns, c, PyFlat.put cs, rfl, C, hlen, hc, hd, fun H4 F4 q4 st4 C4 qF4 hq4 => ?_⟩
      have qr : q ≠ r := ne_of hout hR (by intro z; cases z)
      have qF' : q ∉ r :: F' := fun z => by
        rcases List.mem_cons.mp z with z | z
        · exact qr z
        · exact (C.pad.thX q (by simp)).2 z
      have hout4 := st4.keep _ _ hout qF'
      have nqq : q ≠ q4 := fun z => qF4 (List.mem_append_right _ (by rw [← z]; simp))
      have e1 : PyFlat.told (PyFlat.played Ks321Neutral.step a (c :: cs)) = ((((Ks321Neutral.step a c).2.length : Nat) : Int) :: (Ks321Neutral.step a c).2) ++ PyFlat.told (PyFlat.played Ks321Neutral.step (Ks321Neutral.step a c).1 cs) := told_cons _ _
      rw [e1, ← List.append_assoc] at hall
      have big : out.length + ((Ks321Neutral.step a c).2.length + 1) ≤ 1005000 := by
        rw [hall, List.length_append, List.length_append, List.length_cons] at hbig
        omega
      refine ⟨_, rfl, .inl ⟨rfl, _, SqL.of hout4⟩, _, rfl, q4, _, rfl, .inl (SqL.of hq4), q, _, _, rfl, rfl, hout4, small_size (by rw [List.length_map]; omega), ?_⟩
      generalize hH5 : upd H4 q (.lst (out.map V.int ++ [.int ((((Ks321Neutral.step a c).2.map V.int).length : Nat) : Int)])) = H5
      have hq5 : H5 q = some (.lst (out.map V.int ++ [.int ((((Ks321Neutral.step a c).2.map V.int).length : Nat) : Int)])) := by rw [← hH5]; exact upd_same
      have hq45 : H5 q4 = some (.lst ((Ks321Neutral.step a c).2.map V.int)) := by rw [← hH5, upd_ne nqq.symm]; exact hq4
      refine ⟨_, rfl, .inl ⟨rfl, _, SqL.of hq5⟩, _, rfl, q, q4, _, _, rfl, rfl, hq5, hq45, small_le (by rw [List.length_append, List.length_map, List.length_map]; simp only [List.length_cons, List.length_nil]; omega), ?_⟩
      have k6 : ∀ d, d ≠ q → upd H5 q (.lst ((out.map V.int ++ [.int ((((Ks321Neutral.step a c).2.map V.int).length : Nat) : Int)]) ++ (Ks321Neutral.step a c).2.map V.int)) d = H4 d := fun d hd => by
        rw [upd_ne hd, ← hH5, upd_ne hd]
      obtain ⟨d4, hR4⟩ := C4.rd
      refine ⟨_, F4, (Ks321Neutral.step a c).1, j + (PyFlat.put1 c).length, out ++ ((((Ks321Neutral.step a c).2.length : Nat) : Int) :: (Ks321Neutral.step a c).2), rfl, C4.other (b := q) (by simp) k6 upd_same (fun xs z => by cases z) ⟨d4, by rw [k6 r qr.symm]; exact hR4⟩, ?_, ?_, hall⟩
      · rw [← List.drop_drop, hd, put_cons]
        exact PyFlat.drop_len _ _
      · rw [upd_same, List.map_append, List.map_cons, List.append_assoc, List.length_map]
        rfl
end
end My
set_option Elab.async false
set_option maxRecDepth 100000
set_option maxHeartbeats 4000000
namespace My
open PySem PySem.Spec PyProof.Rows L2
open Ks321 (Sign Abs)
theorem out_begin (a : Abs) (x : Nat) : (Ks321.act a (.begin x)).2.out = [] := by
  simp only [Ks321.act]
  split <;> rfl
theorem out_move (a : Abs) (x y : Nat) : (Ks321.act a (.move x y)).2.out = [] := by
  simp only [Ks321.act]
  split
  · rfl
  · split <;> rfl
theorem out_teach (a : Abs) (n : List Nat) : (Ks321.act a (.teach n)).2.out = [] := by
  simp only [Ks321.act]
  split
  · rfl
  · split
    · rfl
    · split <;> rfl
theorem out_forget (a : Abs) (n : List Nat) : (Ks321.act a (.forget n)).2.out = [] := by
  simp only [Ks321.act]
  split <;> rfl
theorem out_back (a : Abs) : (Ks321.act a .back).2.out = [] := by
  simp only [Ks321.act]
  split <;> rfl
theorem sa_one {x : Abs × Ks321.Ans} (h : x.2.out = []) : (Ks321Neutral.sa x).2 = [x.2.ret] := by
  show x.2.ret :: Ks321Neutral.ints x.2.out = _
  rw [h]
  rfl
section
variable {K : PySem.W.Frag} {CP CS CM CR : Addr} {H H2 H3 : Hp} {p r l q : Addr} {F F2 F3 X : List Addr} {a a' a2 : Abs} {j : Nat} {ns : List Int}
/-- the pad has answered, and a new list is laid -/
theorem Ctx.fin (C2 : Ctx K CP CS CM CR H2 p r l F2 X a2 j ns) (st2 : Step H H2 (r :: F) (r :: F2)) (st3 : Step H2 H3 F2 F3) (B3 : PadIs CP CS CM H3 p F3 X a') (hq : H3 q = Option.none) (o : HO) :
    Step H (upd H3 q o) (r :: F) (r :: F3) ∧ Ctx K CP CS CM CR (upd H3 q o) p r l F3 X a' j ns ∧ q ∉ F3 ++ X := by
  have C3 := C2.step st3 B3
  have s4 : Same H3 (upd H3 q o) := same_new hq
  exact ⟨(st2.trans (st3.cons r)).trans (Step.same s4 _), C3.same s4, B3.there hq⟩
end
section
variable {P : Program} {w : World} {K : PySem.W.Frag} {mg : Str → Option Value} {base : Heap} {CP CS CM CR : Addr}
theorem scAnswerOf : FnScope ["pad", "reader", "call", "x", "y"] ["pad", "reader"] (defScope sAnswerOf) := ⟨rfl, rfl, rfl, by decide +kernel, rfl, by decide +kernel, by decide +kernel⟩
/-- the pad's instance, for a call of a method -/
theorem PadIs.ins {H : Hp} {p : Addr} {F X : List Addr} {a : Abs} (B : PadIs CP CS CM H p F X a) : ∃ dx ls lp lt, H p = some (.ins CP dx (pf a.limit ls lp lt)) := by
  obtain ⟨ls, lp, lt, ms, _, B⟩ := B
  obtain ⟨dx, h⟩ := B.pad
  exact ⟨dx, ls, lp, lt, h⟩
theorem ok_answerOf {f : Addr} {fd : FuncData} (F : Fun K "answer_of" "answer_of" sAnswerOf f fd) (T : Txt mg) (CPc : ClsP K CP) (CRc : ClsR K CR)
    (hNum : MeAt P w K mg base 1 CR "read_number" ["self"] (spNum K CR)) (hRN : MeAt P w K mg base 2 CR "read_name" ["self"] (spReadName K CR))
    (hBegin : MeAt P w K mg base 1 CP "begin" ["self", "limit"] (spBegin CP CS CM)) (hMove : MeAt P w K mg base 1 CP "move" ["self", "x", "y"] (spMove CP CS CM)) (hClear : MeAt P w K mg base 1 CP "clear" ["self"] (spClear CP CS CM))
    (hRow : MeAt P w K mg base 4 CP "row" ["self"] (spRowM CP CS CM)) (hTeach : MeAt P w K mg base 6 CP "teach" ["self", "name"] (spTeach CP CS CM)) (hForget : MeAt P w K mg base 1 CP "forget" ["self", "name"] (spForget CP CS CM))
    (hKnow : MeAt P w K mg base 4 CP "know" ["self"] (spKnow CP CS CM)) (hTake : MeAt P w K mg base 5 CP "take" ["self"] (spTake CP CS CM)) (hBack : MeAt P w K mg base 1 CP "back" ["self"] (spBack CP CS CM)) (hText : MeAt P w K mg base 1 CP "text" ["self"] (spText CP CS CM)) (hCount : MeAt P w K mg base 1 CP "count" ["self"] (spCount CP CS CM)) (hCtd : FnAt P w K mg base 1 "counted" ["numbers"] spCounted) :
    FnOk P w K mg base CX0 7 f fd ["pad", "reader"] (spAnswer K CP CS CM CR) := by
  obtain ⟨fN, fdN, GN, MN, bN⟩ := hNum
  obtain ⟨fM, fdM, GM, MM, bM⟩ := hRN
  obtain ⟨f0, fd0, G0, M0, b0⟩ := hBegin
  obtain ⟨f1, fd1, G1, M1, b1⟩ := hMove
  obtain ⟨f2, fd2, G2, M2, b2⟩ := hClear
  obtain ⟨f3, fd3, G3, M3, b3⟩ := hRow
  obtain ⟨f4, fd4, G4, M4, b4⟩ := hTeach
  obtain ⟨f5, fd5, G5, M5, b5⟩ := hForget
  obtain ⟨f6, fd6, G6, M6, b6⟩ := hKnow
  obtain ⟨f7, fd7, G7, M7, b7⟩ := hTake
  obtain ⟨f8, fd8, G8, M8, b8⟩ := hBack
  obtain ⟨f9, fd9, G9, M9, b9⟩ := hText
  obtain ⟨fX, fdX, GX, MX, bX⟩ := hCount
  obtain ⟨fC, fdC, GC, mC, kC, bC⟩ := hCtd
  refine F.ok scAnswerOf (fun vs H Q E h => ?_) (fun cdv A outer s H vs Q E hr h => ?_)
  · obtain ⟨p, r, l, F, X, a, j, ns, c, rest, rfl, _⟩ := h
    rfl
  · obtain ⟨p, r, l, F, X, a, j, ns, c, rest, rfl, C, hlen, hc, hd, k⟩ := h
    have hr1 : Room 1 _ := hr.mono (by decide)
    have hr2 : Room 2 _ := hr.mono (by decide)
    have hr4 : Room 4 _ := hr.mono (by decide)
    have hr5 : Room 5 _ := hr.mono (by decide)
    obtain ⟨dR, hR⟩ := C.rd
    have noN : ∀ k : Nat, (rf l k).lookup ("read_number" : Str) = Option.none := fun k => rf_no _ _ (by decide +kernel) (by decide +kernel)
    have noM : ∀ k : Nat, (rf l k).lookup ("read_name" : Str) = Option.none := fun k => rf_no _ _ (by decide +kernel) (by decide +kernel)
    refine ⟨_, pss_cons (ps_set (i := 2) scAnswerOf.nd rfl (Or.inl rfl) (pe_meth0 (pv 1) CRc.cl MN GN hr1 bN .nil pass0))
      (pss_cons (ps_if (pt_cmpR op_eq (pv 2) (pe_gint (by rfl) T.BEGIN) (nomark _)) (pss_one (ps_ret (pe_lst (pa_cons (pe_meth (pv 0) CPc.cl M0 G0 hr1 b0 .nil pass0 (pa_cons (pe_meth0 (pv 1) CRc.cl MN GN hr1 bN .nil pass0) pa_nil)) pa_nil)))) pss_nil)
      (pss_cons (ps_if (pt_cmpR op_eq (pv 2) (pe_gint (by rfl) T.MOVE) (nomark _))
        (pss_cons (ps_set (i := 3) scAnswerOf.nd rfl (Or.inl rfl) (pe_meth0 (pv 1) CRc.cl MN GN hr1 bN .nil pass0)) (pss_cons (ps_set (i := 4) scAnswerOf.nd rfl (Or.inl rfl) (pe_meth0 (pv 1) CRc.cl MN GN hr1 bN .nil pass0))
        (pss_one (ps_ret (pe_lst (pa_cons (pe_meth (pv 0) CPc.cl M1 G1 hr1 b1 .nil pass0 (pa_cons (pv 3) (pa_cons (pv 4) pa_nil))) pa_nil)))))) pss_nil)
      (pss_cons (ps_if (pt_cmpR op_eq (pv 2) (pe_gint (by rfl) T.CLEAR) (nomark _)) (pss_one (ps_ret (pe_lst (pa_cons (pe_meth0 (pv 0) CPc.cl M2 G2 hr1 b2 .nil pass0) pa_nil)))) pss_nil)
      (pss_cons (ps_if (pt_cmpR op_eq (pv 2) (pe_gint (by rfl) T.ROW) (nomark _)) (pss_one (ps_ret (pe_call GC hr1 rfl mC kC bC .nil pass0 (pa_cons (pe_meth0 (pv 0) CPc.cl M3 G3 hr4 b3 .nil pass0) pa_nil)))) pss_nil)
      (pss_cons (ps_if (pt_cmpR op_eq (pv 2) (pe_gint (by rfl) T.TEACH) (nomark _)) (pss_one (ps_ret (pe_lst (pa_cons (pe_meth (pv 0) CPc.cl M4 G4 hr b4 .nil pass0 (pa_cons (pe_meth0 (pv 1) CRc.cl MM GM hr2 bM .nil pass0) pa_nil)) pa_nil)))) pss_nil)
      (pss_cons (ps_if (pt_cmpR op_eq (pv 2) (pe_gint (by rfl) T.FORGET) (nomark _)) (pss_one (ps_ret (pe_lst (pa_cons (pe_meth (pv 0) CPc.cl M5 G5 hr1 b5 .nil pass0 (pa_cons (pe_meth0 (pv 1) CRc.cl MM GM hr2 bM .nil pass0) pa_nil)) pa_nil)))) pss_nil)
      (pss_cons (ps_if (pt_cmpR op_eq (pv 2) (pe_gint (by rfl) T.KNOW) (nomark _)) (pss_one (ps_ret (pe_meth0 (pv 0) CPc.cl M6 G6 hr4 b6 .nil pass0))) pss_nil)
      (pss_cons (ps_if (pt_cmpR op_eq (pv 2) (pe_gint (by rfl) T.TAKE) (nomark _)) (pss_one (ps_ret (pe_meth0 (pv 0) CPc.cl M7 G7 hr5 b7 .nil pass0))) pss_nil)
      (pss_cons (ps_if (pt_cmpR op_eq (pv 2) (pe_gint (by rfl) T.BACK) (nomark _)) (pss_one (ps_ret (pe_lst (pa_cons (pe_meth0 (pv 0) CPc.cl M8 G8 hr1 b8 .nil pass0) pa_nil)))) pss_nil)
      (pss_cons (ps_if (pt_cmpR op_eq (pv 2) (pe_gint (by rfl) T.TEXT) (nomark _)) (pss_one (ps_ret (pe_call GC hr1 rfl mC kC bC .nil pass0 (pa_cons (pe_meth0 (pv 0) CPc.cl M9 G9 hr1 b9 .nil pass0) pa_nil)))) pss_nil)
      (pss_cons (ps_if (pt_cmpR op_eq (pv 2) (pe_gint (by rfl) T.COUNT) (nomark _)) (pss_one (ps_ret (pe_meth0 (pv 0) CPc.cl MX GX hr1 bX .nil pass0))) pss_nil)
      (pss_one ps_never)))))))))))), ?_⟩
    cases hc with
    | begin x =>
      have hd : ns.drop j = (0 : Int) :: (x : Int) :: rest := hd
      obtain ⟨hz, hd1, _⟩ := drop_get hd
      obtain ⟨hz1, hd2, _⟩ := drop_get hd1
      refine ⟨_, rfl, r, dR, _, rfl, hR, noN _, r, l, j, ns, _, rfl, C.rd, C.sq.sq, hz, fun H1 R1 kp1 => ?_⟩
      have C1 := C.read R1 kp1
      obtain ⟨dR1, hR1⟩ := R1
      obtain ⟨dp, ls, lp, lt, hp⟩ := C1.pad.ins
      refine ⟨_, rfl, rfl, _, rfl, iteE rfl ⟨_, rfl, p, dp, _, rfl, hp, pf_no _ _ _ _ (by decide +kernel) (by decide +kernel) (by decide +kernel) (by decide +kernel), _, rfl, r, dR1, _, rfl, hR1, noN _, r, l, j + 1, ns, _, rfl, C1.rd, C1.sq.sq, hz1, fun H2 R2 kp2 => ?_⟩⟩
      have C2 := C1.read R2 kp2
      refine ⟨p, F, X, a, x, rfl, C2.pad, fun H3 F3 st3 B3 => ⟨(by show 1 ≤ sizeLine; decide), fun q hq => ?_⟩⟩
      obtain ⟨u1, u2, u3⟩ := C2.fin ((Step.reader kp1 F).trans (Step.reader kp2 F)) st3 B3 hq (.lst [.int (Ks321.act a (.begin x)).2.ret])
      refine k _ F3 q u1 u2 u3 ?_
      rw [upd_same, step_begin, sa_one (out_begin a x)]
      rfl
    | move x y =>
      have hd : ns.drop j = (1 : Int) :: (x : Int) :: (y : Int) :: rest := hd
      obtain ⟨hz, hd1, _⟩ := drop_get hd
      obtain ⟨hz1, hd2, _⟩ := drop_get hd1
      obtain ⟨hz2, hd3, _⟩ := drop_get hd2
      refine ⟨_, rfl, r, dR, _, rfl, hR, noN _, r, l, j, ns, _, rfl, C.rd, C.sq.sq, hz, fun H1 R1 kp1 => ?_⟩
      have C1 := C.read R1 kp1
      obtain ⟨dR1, hR1⟩ := R1
      refine ⟨_, rfl, rfl, _, rfl, iteN (by decide) ⟨_, rfl, rfl, _, rfl, iteE rfl ⟨_, rfl, r, dR1, _, rfl, hR1, noN _, r, l, j + 1, ns, _, rfl, C1.rd, C1.sq.sq, hz1, fun H2 R2 kp2 => ?_⟩⟩⟩
      have C2 := C1.read R2 kp2
      obtain ⟨dR2, hR2⟩ := R2
      refine ⟨_, rfl, r, dR2, _, rfl, hR2, noN _, r, l, j + 1 + 1, ns, _, rfl, C2.rd, C2.sq.sq, hz2, fun H3 R3 kp3 => ?_⟩
      have C3 := C2.read R3 kp3
      obtain ⟨dp, ls, lp, lt, hp⟩ := C3.pad.ins
      refine ⟨_, rfl, p, dp, _, rfl, hp, pf_no _ _ _ _ (by decide +kernel) (by decide +kernel) (by decide +kernel) (by decide +kernel), _, rfl, _, rfl, ?_⟩
      refine ⟨p, F, X, a, x, y, rfl, C3.pad, fun H4 F4 st4 B4 => ⟨(by show 1 ≤ sizeLine; decide), fun q hq => ?_⟩⟩
      obtain ⟨u1, u2, u3⟩ := C3.fin (((Step.reader kp1 F).trans (Step.reader kp2 F)).trans (Step.reader kp3 F)) st4 B4 hq (.lst [.int (Ks321.act a (.move x y)).2.ret])
      refine k _ F4 q u1 u2 u3 ?_
      rw [upd_same, step_move, sa_one (out_move a x y)]
      rfl
    | clear =>
      have hd : ns.drop j = (2 : Int) :: rest := hd
      obtain ⟨hz, hd1, _⟩ := drop_get hd
      refine ⟨_, rfl, r, dR, _, rfl, hR, noN _, r, l, j, ns, _, rfl, C.rd, C.sq.sq, hz, fun H1 R1 kp1 => ?_⟩
      have C1 := C.read R1 kp1
      obtain ⟨dp, ls, lp, lt, hp⟩ := C1.pad.ins
      refine ⟨_, rfl, rfl, _, rfl, iteN (by decide) ⟨_, rfl, rfl, _, rfl, iteN (by decide) ⟨_, rfl, rfl, _, rfl, iteE rfl ⟨_, rfl, p, dp, _, rfl, hp, pf_no _ _ _ _ (by decide +kernel) (by decide +kernel) (by decide +kernel) (by decide +kernel), ?_⟩⟩⟩⟩
      refine ⟨p, F, X, a, rfl, C1.pad, fun H4 F4 st4 B4 => ⟨(by show 1 ≤ sizeLine; decide), fun q hq => ?_⟩⟩
      obtain ⟨u1, u2, u3⟩ := C1.fin (Step.reader kp1 F) st4 B4 hq (.lst [.int (Ks321.act a .clear).2.ret])
      refine k _ F4 q u1 u2 u3 ?_
      rw [upd_same]
      rfl
    | row =>
      have hd : ns.drop j = (3 : Int) :: rest := hd
      obtain ⟨hz, hd1, _⟩ := drop_get hd
      refine ⟨_, rfl, r, dR, _, rfl, hR, noN _, r, l, j, ns, _, rfl, C.rd, C.sq.sq, hz, fun H1 R1 kp1 => ?_⟩
      have C1 := C.read R1 kp1
      obtain ⟨dp, ls, lp, lt, hp⟩ := C1.pad.ins
      refine ⟨_, rfl, rfl, _, rfl, iteN (by decide) ⟨_, rfl, rfl, _, rfl, iteN (by decide) ⟨_, rfl, rfl, _, rfl, iteN (by decide) ⟨_, rfl, rfl, _, rfl, iteE rfl ⟨_, rfl, p, dp, _, rfl, hp, pf_no _ _ _ _ (by decide +kernel) (by decide +kernel) (by decide +kernel) (by decide +kernel), ?_⟩⟩⟩⟩⟩
      have hP : (Ks321.drawn a).length ≤ 64 := by
        obtain ⟨_, _, _, _, _, B⟩ := C1.pad
        exact Nat.le_trans (row_length a.points) B.lenP
      refine ⟨p, F, X, a, rfl, C1.pad, fun H2 d s2 nd hd' => ?_⟩
      refine ⟨d, Ks321.drawn a, rfl, hd', by omega, fun H3 q s3 nq hq => ?_⟩
      have C3 := (C1.same s2).same s3
      refine k H3 F q (((Step.reader kp1 F).trans (Step.same s2 _)).trans (Step.same s3 _)) C3 ((C1.same s2).pad.there nq) ?_
      rw [hq]
      rfl
    | teach n =>
      have hd : ns.drop j = (4 : Int) :: (n.length : Int) :: (ofN n ++ rest) := by
        rw [hd, put1_name, List.length_map]
        rfl
      have ej : j + (PyFlat.put1 [[4], ofN n]).length = j + 1 + 1 + n.length := by
        rw [put1_name, List.length_cons, List.length_cons, List.length_map]
        omega
      rw [ej] at k
      obtain ⟨hz, hd1, _⟩ := drop_get hd
      refine ⟨_, rfl, r, dR, _, rfl, hR, noN _, r, l, j, ns, _, rfl, C.rd, C.sq.sq, hz, fun H1 R1 kp1 => ?_⟩
      have C1 := C.read R1 kp1
      obtain ⟨dR1, hR1⟩ := R1
      obtain ⟨dp, ls, lp, lt, hp⟩ := C1.pad.ins
      have nl : n.length ≤ 1000000 := by
        have := congrArg List.length hd
        rw [List.length_drop, List.length_cons, List.length_cons, List.length_append, List.length_map] at this
        omega
      refine ⟨_, rfl, rfl, _, rfl, iteN (by decide) ⟨_, rfl, rfl, _, rfl, iteN (by decide) ⟨_, rfl, rfl, _, rfl, iteN (by decide) ⟨_, rfl, rfl, _, rfl, iteN (by decide) ⟨_, rfl, rfl, _, rfl, iteE rfl ⟨_, rfl, p, dp, _, rfl, hp, pf_no _ _ _ _ (by decide +kernel) (by decide +kernel) (by decide +kernel) (by decide +kernel), _, rfl, r, dR1, _, rfl, hR1, noM _, ?_⟩⟩⟩⟩⟩⟩
      refine ⟨r, l, j + 1, ns, n, rest, rfl, C1.rd, C1.sq.sq, hd1, fun H2 d R2 nd hdd kp2 => ?_⟩
      obtain ⟨C2, N2, st2⟩ := C1.name R2 nd hdd kp2
      refine ⟨p, F, X, a, d, n, rfl, C2.pad, N2, nl, fun H3 F3 st3 B3 => ⟨(by show 1 ≤ sizeLine; decide), fun q hq => ?_⟩⟩
      obtain ⟨u1, u2, u3⟩ := C2.fin ((Step.reader kp1 F).trans st2) st3 B3 hq (.lst [.int (Ks321.act a (.teach n)).2.ret])
      rw [step_teach] at k
      refine k _ F3 q u1 u2 u3 ?_
      rw [upd_same, sa_one (out_teach a n)]
      rfl
    | forget n =>
      have hd : ns.drop j = (5 : Int) :: (n.length : Int) :: (ofN n ++ rest) := by
        rw [hd, put1_name, List.length_map]
        rfl
      have ej : j + (PyFlat.put1 [[5], ofN n]).length = j + 1 + 1 + n.length := by
        rw [put1_name, List.length_cons, List.length_cons, List.length_map]
        omega
      rw [ej] at k
      obtain ⟨hz, hd1, _⟩ := drop_get hd
      refine ⟨_, rfl, r, dR, _, rfl, hR, noN _, r, l, j, ns, _, rfl, C.rd, C.sq.sq, hz, fun H1 R1 kp1 => ?_⟩
      have C1 := C.read R1 kp1
      obtain ⟨dR1, hR1⟩ := R1
      obtain ⟨dp, ls, lp, lt, hp⟩ := C1.pad.ins
      have nl : n.length ≤ 1000000 := by
        have := congrArg List.length hd
        rw [List.length_drop, List.length_cons, List.length_cons, List.length_append, List.length_map] at this
        omega
      refine ⟨_, rfl, rfl, _, rfl, iteN (by decide) ⟨_, rfl, rfl, _, rfl, iteN (by decide) ⟨_, rfl, rfl, _, rfl, iteN (by decide) ⟨_, rfl, rfl, _, rfl, iteN (by decide) ⟨_, rfl, rfl, _, rfl, iteN (by decide) ⟨_, rfl, rfl, _, rfl, iteE rfl ⟨_, rfl, p, dp, _, rfl, hp, pf_no _ _ _ _ (by decide +kernel) (by decide +kernel) (by decide +kernel) (by decide +kernel), _, rfl, r, dR1, _, rfl, hR1, noM _, ?_⟩⟩⟩⟩⟩⟩⟩
      refine ⟨r, l, j + 1, ns, n, rest, rfl, C1.rd, C1.sq.sq, hd1, fun H2 d R2 nd hdd kp2 => ?_⟩
      obtain ⟨C2, N2, st2⟩ := C1.name R2 nd hdd kp2
      refine ⟨p, F, X, a, d, n, rfl, C2.pad, N2, nl, fun H3 F3 st3 B3 => ⟨(by show 1 ≤ sizeLine; decide), fun q hq => ?_⟩⟩
      obtain ⟨u1, u2, u3⟩ := C2.fin ((Step.reader kp1 F).trans st2) st3 B3 hq (.lst [.int (Ks321.act a (.forget n)).2.ret])
      rw [step_forget] at k
      refine k _ F3 q u1 u2 u3 ?_
      rw [upd_same, sa_one (out_forget a n)]
      rfl
    | know =>
      have hd : ns.drop j = (6 : Int) :: rest := hd
      obtain ⟨hz, hd1, _⟩ := drop_get hd
      refine ⟨_, rfl, r, dR, _, rfl, hR, noN _, r, l, j, ns, _, rfl, C.rd, C.sq.sq, hz, fun H1 R1 kp1 => ?_⟩
      have C1 := C.read R1 kp1
      obtain ⟨dp, ls, lp, lt, hp⟩ := C1.pad.ins
      refine ⟨_, rfl, rfl, _, rfl, iteN (by decide) ⟨_, rfl, rfl, _, rfl, iteN (by decide) ⟨_, rfl, rfl, _, rfl, iteN (by decide) ⟨_, rfl, rfl, _, rfl, iteN (by decide) ⟨_, rfl, rfl, _, rfl, iteN (by decide) ⟨_, rfl, rfl, _, rfl, iteN (by decide) ⟨_, rfl, rfl, _, rfl, iteE rfl ⟨_, rfl, p, dp, _, rfl, hp, pf_no _ _ _ _ (by decide +kernel) (by decide +kernel) (by decide +kernel) (by decide +kernel), ?_⟩⟩⟩⟩⟩⟩⟩⟩
      refine ⟨p, F, X, a, rfl, C1.pad, fun H2 q st2 B2 nq hq => ?_⟩
      have C2 := C1.step st2 B2
      rw [step_know] at k
      refine k H2 F q ((Step.reader kp1 F).trans (st2.cons r)) ?_ (C1.pad.there nq) hq
      show Ctx K CP CS CM CR H2 p r l F X (Ks321.act a .know).1 _ ns
      rw [know_same]
      exact C2
    | take =>
      have hd : ns.drop j = (7 : Int) :: rest := hd
      obtain ⟨hz, hd1, _⟩ := drop_get hd
      refine ⟨_, rfl, r, dR, _, rfl, hR, noN _, r, l, j, ns, _, rfl, C.rd, C.sq.sq, hz, fun H1 R1 kp1 => ?_⟩
      have C1 := C.read R1 kp1
      obtain ⟨dp, ls, lp, lt, hp⟩ := C1.pad.ins
      refine ⟨_, rfl, rfl, _, rfl, iteN (by decide) ⟨_, rfl, rfl, _, rfl, iteN (by decide) ⟨_, rfl, rfl, _, rfl, iteN (by decide) ⟨_, rfl, rfl, _, rfl, iteN (by decide) ⟨_, rfl, rfl, _, rfl, iteN (by decide) ⟨_, rfl, rfl, _, rfl, iteN (by decide) ⟨_, rfl, rfl, _, rfl, iteN (by decide) ⟨_, rfl, rfl, _, rfl, iteE rfl ⟨_, rfl, p, dp, _, rfl, hp, pf_no _ _ _ _ (by decide +kernel) (by decide +kernel) (by decide +kernel) (by decide +kernel), ?_⟩⟩⟩⟩⟩⟩⟩⟩⟩
      refine ⟨p, F, X, a, rfl, C1.pad, fun H2 F2 q st2 B2 nq hq => ?_⟩
      rw [step_take] at k
      exact k H2 F2 q ((Step.reader kp1 F).trans (st2.cons r)) (C1.step st2 B2) nq hq
    | back =>
      have hd : ns.drop j = (8 : Int) :: rest := hd
      obtain ⟨hz, hd1, _⟩ := drop_get hd
      refine ⟨_, rfl, r, dR, _, rfl, hR, noN _, r, l, j, ns, _, rfl, C.rd, C.sq.sq, hz, fun H1 R1 kp1 => ?_⟩
      have C1 := C.read R1 kp1
      obtain ⟨dp, ls, lp, lt, hp⟩ := C1.pad.ins
      refine ⟨_, rfl, rfl, _, rfl, iteN (by decide) ⟨_, rfl, rfl, _, rfl, iteN (by decide) ⟨_, rfl, rfl, _, rfl, iteN (by decide) ⟨_, rfl, rfl, _, rfl, iteN (by decide) ⟨_, rfl, rfl, _, rfl, iteN (by decide) ⟨_, rfl, rfl, _, rfl, iteN (by decide) ⟨_, rfl, rfl, _, rfl, iteN (by decide) ⟨_, rfl, rfl, _, rfl, iteN (by decide) ⟨_, rfl, rfl, _, rfl, iteE rfl ⟨_, rfl, p, dp, _, rfl, hp, pf_no _ _ _ _ (by decide +kernel) (by decide +kernel) (by decide +kernel) (by decide +kernel), ?_⟩⟩⟩⟩⟩⟩⟩⟩⟩⟩
      refine ⟨p, F, X, a, rfl, C1.pad, fun H4 F4 st4 B4 => ⟨(by show 1 ≤ sizeLine; decide), fun q hq => ?_⟩⟩
      obtain ⟨u1, u2, u3⟩ := C1.fin (Step.reader kp1 F) st4 B4 hq (.lst [.int (Ks321.act a .back).2.ret])
      refine k _ F4 q u1 u2 u3 ?_
      rw [upd_same, step_back, sa_one (out_back a)]
      rfl
    | text =>
      have hd : ns.drop j = (9 : Int) :: rest := hd
      obtain ⟨hz, hd1, _⟩ := drop_get hd
      refine ⟨_, rfl, r, dR, _, rfl, hR, noN _, r, l, j, ns, _, rfl, C.rd, C.sq.sq, hz, fun H1 R1 kp1 => ?_⟩
      have C1 := C.read R1 kp1
      obtain ⟨dp, ls, lp, lt, hp⟩ := C1.pad.ins
      refine ⟨_, rfl, rfl, _, rfl, iteN (by decide) ⟨_, rfl, rfl, _, rfl, iteN (by decide) ⟨_, rfl, rfl, _, rfl, iteN (by decide) ⟨_, rfl, rfl, _, rfl, iteN (by decide) ⟨_, rfl, rfl, _, rfl, iteN (by decide) ⟨_, rfl, rfl, _, rfl, iteN (by decide) ⟨_, rfl, rfl, _, rfl, iteN (by decide) ⟨_, rfl, rfl, _, rfl, iteN (by decide) ⟨_, rfl, rfl, _, rfl, iteN (by decide) ⟨_, rfl, rfl, _, rfl, iteE rfl ⟨_, rfl, p, dp, _, rfl, hp, pf_no _ _ _ _ (by decide +kernel) (by decide +kernel) (by decide +kernel) (by decide +kernel), ?_⟩⟩⟩⟩⟩⟩⟩⟩⟩⟩⟩
      have hP : (a.text.flatMap fun n => n ++ [32]).length ≤ 900 := by
        obtain ⟨_, _, _, _, _, B⟩ := C1.pad
        have h2 := B.lenT
        exact Nat.le_trans (text_len B.okT) (by omega)
      refine ⟨p, F, X, a, rfl, C1.pad, fun H2 d s2 nd hd' => ?_⟩
      refine ⟨d, _, rfl, hd', Nat.le_trans hP (by decide), fun H3 q s3 nq hq => ?_⟩
      have C3 := (C1.same s2).same s3
      refine k H3 F q (((Step.reader kp1 F).trans (Step.same s2 _)).trans (Step.same s3 _)) C3 ((C1.same s2).pad.there nq) ?_
      rw [hq]
      rfl
    | count =>
      have hd : ns.drop j = (10 : Int) :: rest := hd
      obtain ⟨hz, hd1, _⟩ := drop_get hd
      refine ⟨_, rfl, r, dR, _, rfl, hR, noN _, r, l, j, ns, _, rfl, C.rd, C.sq.sq, hz, fun H1 R1 kp1 => ?_⟩
      have C1 := C.read R1 kp1
      obtain ⟨dp, ls, lp, lt, hp⟩ := C1.pad.ins
      refine ⟨_, rfl, rfl, _, rfl, iteN (by decide) ⟨_, rfl, rfl, _, rfl, iteN (by decide) ⟨_, rfl, rfl, _, rfl, iteN (by decide) ⟨_, rfl, rfl, _, rfl, iteN (by decide) ⟨_, rfl, rfl, _, rfl, iteN (by decide) ⟨_, rfl, rfl, _, rfl, iteN (by decide) ⟨_, rfl, rfl, _, rfl, iteN (by decide) ⟨_, rfl, rfl, _, rfl, iteN (by decide) ⟨_, rfl, rfl, _, rfl, iteN (by decide) ⟨_, rfl, rfl, _, rfl, iteN (by decide) ⟨_, rfl, rfl, _, rfl, iteE rfl ⟨_, rfl, p, dp, _, rfl, hp, pf_no _ _ _ _ (by decide +kernel) (by decide +kernel) (by decide +kernel) (by decide +kernel), ?_⟩⟩⟩⟩⟩⟩⟩⟩⟩⟩⟩⟩
      refine ⟨p, F, X, a, rfl, C1.pad, fun H2 q s2 nq hq => ?_⟩
      refine k H2 F q ((Step.reader kp1 F).trans (Step.same s2 _)) (C1.same s2) (C1.pad.there nq) ?_
      rw [hq]
      rfl
end
end My
set_option Elab.async false
set_option maxRecDepth 100000
set_option maxHeartbeats 4000000
namespace My
open PySem PySem.Spec PyProof.Rows L2
theorem all_mk {P : Program} {w : World} {K : PySem.W.Frag} {h : Heap} {mg : Str → Option Value} {fa : Addr} (X : K.In h) (G : h.Ns mainGlobals mg) (hfa : mg "answers" = some (.ref fa))
    {CM : Addr} {CS : Addr} {CP : Addr} {CR : Addr} {fTu : Addr} {odTu anTu : Option Addr} {slTu : Array (Option Value)} {ocTu kVTu dcTu pmTu cdTu ctTu : Value} {fLi : Addr} {odLi anLi : Option Addr} {slLi : Array (Option Value)} {ocLi kVLi dcLi pmLi cdLi ctLi : Value} {fNo : Addr} {odNo anNo : Option Addr} {slNo : Array (Option Value)} {ocNo kVNo dcNo pmNo cdNo ctNo : Value} {fMo : Addr} {odMo anMo : Option Addr} {slMo : Array (Option Value)} {ocMo kVMo dcMo pmMo cdMo ctMo : Value} {fMI : Addr} {odMI anMI : Option Addr} {slMI : Array (Option Value)} {ocMI kVMI dcMI pmMI cdMI ctMI : Value} {fMD : Addr} {odMD anMD : Option Addr} {slMD : Array (Option Value)} {ocMD kVMD dcMD pmMD cdMD ctMD : Value} {fReach : Addr} {odReach anReach : Option Addr} {slReach : Array (Option Value)} {ocReach kVReach dcReach pmReach cdReach ctReach : Value} {fSize : Addr} {odSize anSize : Option Addr} {slSize : Array (Option Value)} {ocSize kVSize dcSize pmSize cdSize ctSize : Value} {fKept : Addr} {odKept anKept : Option Addr} {slKept : Array (Option Value)} {ocKept kVKept dcKept pmKept cdKept ctKept : Value} {fDir : Addr} {odDir anDir : Option Addr} {slDir : Array (Option Value)} {ocDir kVDir dcDir pmDir cdDir ctDir : Value} {fRow : Addr} {odRow anRow : Option Addr} {slRow : Array (Option Value)} {ocRow kVRow dcRow pmRow cdRow ctRow : Value} {fNam : Addr} {odNam anNam : Option Addr} {slNam : Array (Option Value)} {ocNam kVNam dcNam pmNam cdNam ctNam : Value} {fSI : Addr} {odSI anSI : Option Addr} {slSI : Array (Option Value)} {ocSI kVSI dcSI pmSI cdSI ctSI : Value} {fPI : Addr} {odPI anPI : Option Addr} {slPI : Array (Option Value)} {ocPI kVPI dcPI pmPI cdPI ctPI : Value} {fPB : Addr} {odPB anPB : Option Addr} {slPB : Array (Option Value)} {ocPB kVPB dcPB pmPB cdPB ctPB : Value} {fPM : Addr} {odPM anPM : Option Addr} {slPM : Array (Option Value)} {ocPM kVPM dcPM pmPM cdPM ctPM : Value} {fPC : Addr} {odPC anPC : Option Addr} {slPC : Array (Option Value)} {ocPC kVPC dcPC pmPC cdPC ctPC : Value} {fPR : Addr} {odPR anPR : Option Addr} {slPR : Array (Option Value)} {ocPR kVPR dcPR pmPR cdPR ctPR : Value} {fPT : Addr} {odPT anPT : Option Addr} {slPT : Array (Option Value)} {ocPT kVPT dcPT pmPT cdPT ctPT : Value} {fPF : Addr} {odPF anPF : Option Addr} {slPF : Array (Option Value)} {ocPF kVPF dcPF pmPF cdPF ctPF : Value} {fPK : Addr} {odPK anPK : Option Addr} {slPK : Array (Option Value)} {ocPK kVPK dcPK pmPK cdPK ctPK : Value} {fPA : Addr} {odPA anPA : Option Addr} {slPA : Array (Option Value)} {ocPA kVPA dcPA pmPA cdPA ctPA : Value} {fPQ : Addr} {odPQ anPQ : Option Addr} {slPQ : Array (Option Value)} {ocPQ kVPQ dcPQ pmPQ cdPQ ctPQ : Value} {fPX : Addr} {odPX anPX : Option Addr} {slPX : Array (Option Value)} {ocPX kVPX dcPX pmPX cdPX ctPX : Value} {fPN : Addr} {odPN anPN : Option Addr} {slPN : Array (Option Value)} {ocPN kVPN dcPN pmPN cdPN ctPN : Value} {fRI : Addr} {odRI anRI : Option Addr} {slRI : Array (Option Value)} {ocRI kVRI dcRI pmRI cdRI ctRI : Value} {fRE : Addr} {odRE anRE : Option Addr} {slRE : Array (Option Value)} {ocRE kVRE dcRE pmRE cdRE ctRE : Value} {fRN : Addr} {odRN anRN : Option Addr} {slRN : Array (Option Value)} {ocRN kVRN dcRN pmRN cdRN ctRN : Value} {fRM : Addr} {odRM anRM : Option Addr} {slRM : Array (Option Value)} {ocRM kVRM dcRM pmRM cdRM ctRM : Value} {fCo : Addr} {odCo anCo : Option Addr} {slCo : Array (Option Value)} {ocCo kVCo dcCo pmCo cdCo ctCo : Value} {fAo : Addr} {odAo anAo : Option Addr} {slAo : Array (Option Value)} {ocAo kVAo dcAo pmAo cdAo ctAo : Value} {fAn : Addr} {odAn anAn : Option Addr} {slAn : Array (Option Value)} {ocAn kVAn dcAn pmAn cdAn ctAn : Value} {tPUT_IN_COST : Tok} {tLEFT_OUT_COST : Tok} {tFULL_TURN : Tok} {tBEGIN : Tok} {tMOVE : Tok} {tCLEAR : Tok} {tROW : Tok} {tTEACH : Tok} {tFORGET : Tok} {tKNOW : Tok} {tTAKE : Tok} {tBACK : Tok} {tTEXT : Tok} {tCOUNT : Tok} {tNOT_THERE : Tok} {tFULL : Tok} {tOUT_OF_RANGE : Tok} {tNONE_NEAR : Tok} {tNOT_ONE_NAME : Tok} {tNO_DIRECTIONS : Tok} {tHIGHEST_LIMIT : Tok} {tHIGHEST_PLACE : Tok} {tMOST_POINTS : Tok} {tMOST_SIGNS : Tok} {tMOST_TAKEN : Tok} {tLONGEST_NAME : Tok} {tLETTER_A : Tok} {tLETTER_Z : Tok} {tBLANK : Tok} {tPARTS_OF_SIZE : Tok} {tRIGHT : Tok} {tRIGHT_DOWN : Tok} {tDOWN : Tok} {tLEFT_DOWN : Tok} {tLEFT : Tok} {tLEFT_UP : Tok} {tUP : Tok} {tRIGHT_UP : Tok}
    (aCM : PySem.W.nsIn K mainGlobals "Measure" = some (some (.ref CM)))
    (pgCM : PySem.W.plainGet K CM Str.empty = true)
    (hdCM : PySem.W.hasDictIn K CM = true)
    (poCM : PySem.W.plainOver K CM = true)
    (saCM : PySem.W.findIn K (.ref CM) "__setattr__" = some (some (.builtin "object.__setattr__")))
    (mkCM : PySem.W.makesIn K CM = true)
    (kcCM : PySem.W.keepIn K (.ref CM) = true)
    (nCM_goal : PySem.W.findIn K (.ref CM) "goal" = some none)
    (nCM_measured : PySem.W.findIn K (.ref CM) "measured" = some none)
    (nCM_steps : PySem.W.findIn K (.ref CM) "steps" = some none)
    (aCS : PySem.W.nsIn K mainGlobals "Sign" = some (some (.ref CS)))
    (pgCS : PySem.W.plainGet K CS Str.empty = true)
    (hdCS : PySem.W.hasDictIn K CS = true)
    (poCS : PySem.W.plainOver K CS = true)
    (saCS : PySem.W.findIn K (.ref CS) "__setattr__" = some (some (.builtin "object.__setattr__")))
    (mkCS : PySem.W.makesIn K CS = true)
    (kcCS : PySem.W.keepIn K (.ref CS) = true)
    (nCS_name : PySem.W.findIn K (.ref CS) "name" = some none)
    (nCS_directions : PySem.W.findIn K (.ref CS) "directions" = some none)
    (nCS_measure : PySem.W.findIn K (.ref CS) "measure" = some none)
    (aCP : PySem.W.nsIn K mainGlobals "Pad" = some (some (.ref CP)))
    (pgCP : PySem.W.plainGet K CP Str.empty = true)
    (hdCP : PySem.W.hasDictIn K CP = true)
    (poCP : PySem.W.plainOver K CP = true)
    (saCP : PySem.W.findIn K (.ref CP) "__setattr__" = some (some (.builtin "object.__setattr__")))
    (mkCP : PySem.W.makesIn K CP = true)
    (kcCP : PySem.W.keepIn K (.ref CP) = true)
    (nCP_limit : PySem.W.findIn K (.ref CP) "limit" = some none)
    (nCP_signs : PySem.W.findIn K (.ref CP) "signs" = some none)
    (nCP_points : PySem.W.findIn K (.ref CP) "points" = some none)
    (nCP_taken : PySem.W.findIn K (.ref CP) "taken" = some none)
    (aCR : PySem.W.nsIn K mainGlobals "Reader" = some (some (.ref CR)))
    (pgCR : PySem.W.plainGet K CR Str.empty = true)
    (hdCR : PySem.W.hasDictIn K CR = true)
    (poCR : PySem.W.plainOver K CR = true)
    (saCR : PySem.W.findIn K (.ref CR) "__setattr__" = some (some (.builtin "object.__setattr__")))
    (mkCR : PySem.W.makesIn K CR = true)
    (kcCR : PySem.W.keepIn K (.ref CR) = true)
    (nCR_numbers : PySem.W.findIn K (.ref CR) "numbers" = some none)
    (nCR_place : PySem.W.findIn K (.ref CR) "place" = some none)
    (aTu : PySem.W.nsIn K mainGlobals "turn_between" = some (some (.ref fTu)))
    (lTu : K.lookup fTu = some ⟨ocTu, odTu, .func (PySem.W.fnOf "turn_between" "turn_between" (defArgs sTurnBetween) (defBody sTurnBetween) (defScope sTurnBetween) .none kVTu dcTu pmTu anTu cdTu ctTu), slTu⟩)
    (cTu : PySem.W.codeIn K cdTu "turn_between" = true)
    (kTu : PySem.W.keepIn K (.ref fTu) = true)
    (aLi : PySem.W.nsIn K mainGlobals "like_at_the_beginning" = some (some (.ref fLi)))
    (lLi : K.lookup fLi = some ⟨ocLi, odLi, .func (PySem.W.fnOf "like_at_the_beginning" "like_at_the_beginning" (defArgs sLikeAtTheBeginning) (defBody sLikeAtTheBeginning) (defScope sLikeAtTheBeginning) .none kVLi dcLi pmLi anLi cdLi ctLi), slLi⟩)
    (cLi : PySem.W.codeIn K cdLi "like_at_the_beginning" = true)
    (kLi : PySem.W.keepIn K (.ref fLi) = true)
    (aNo : PySem.W.nsIn K mainGlobals "costs_from_nothing" = some (some (.ref fNo)))
    (lNo : K.lookup fNo = some ⟨ocNo, odNo, .func (PySem.W.fnOf "costs_from_nothing" "costs_from_nothing" (defArgs sCostsFromNothing) (defBody sCostsFromNothing) (defScope sCostsFromNothing) .none kVNo dcNo pmNo anNo cdNo ctNo), slNo⟩)
    (cNo : PySem.W.codeIn K cdNo "costs_from_nothing" = true)
    (kNo : PySem.W.keepIn K (.ref fNo) = true)
    (aMo : PySem.W.nsIn K mainGlobals "costs_with_one_more" = some (some (.ref fMo)))
    (lMo : K.lookup fMo = some ⟨ocMo, odMo, .func (PySem.W.fnOf "costs_with_one_more" "costs_with_one_more" (defArgs sCostsWithOneMore) (defBody sCostsWithOneMore) (defScope sCostsWithOneMore) .none kVMo dcMo pmMo anMo cdMo ctMo), slMo⟩)
    (cMo : PySem.W.codeIn K cdMo "costs_with_one_more" = true)
    (kMo : PySem.W.keepIn K (.ref fMo) = true)
    (aMI : PySem.W.findIn K (.ref CM) "__init__" = some (some (.ref fMI)))
    (iMI : PySem.W.isFn K (.ref fMI) = true)
    (lMI : K.lookup fMI = some ⟨ocMI, odMI, .func (PySem.W.fnOf "__init__" "Measure.__init__" (defArgs sMeasure_Init) (defBody sMeasure_Init) (defScope sMeasure_Init) .none kVMI dcMI pmMI anMI cdMI ctMI), slMI⟩)
    (cMI : PySem.W.codeIn K cdMI "Measure.__init__" = true)
    (kMI : PySem.W.keepIn K (.ref fMI) = true)
    (aMD : PySem.W.findIn K (.ref CM) "distance_from" = some (some (.ref fMD)))
    (iMD : PySem.W.isFn K (.ref fMD) = true)
    (lMD : K.lookup fMD = some ⟨ocMD, odMD, .func (PySem.W.fnOf "distance_from" "Measure.distance_from" (defArgs sMeasure_DistanceFrom) (defBody sMeasure_DistanceFrom) (defScope sMeasure_DistanceFrom) .none kVMD dcMD pmMD anMD cdMD ctMD), slMD⟩)
    (cMD : PySem.W.codeIn K cdMD "Measure.distance_from" = true)
    (kMD : PySem.W.keepIn K (.ref fMD) = true)
    (aReach : PySem.W.nsIn K mainGlobals "reach_between" = some (some (.ref fReach)))
    (lReach : K.lookup fReach = some ⟨ocReach, odReach, .func (PySem.W.fnOf "reach_between" "reach_between" (defArgs sReachBetween) (defBody sReachBetween) (defScope sReachBetween) .none kVReach dcReach pmReach anReach cdReach ctReach), slReach⟩)
    (cReach : PySem.W.codeIn K cdReach "reach_between" = true)
    (kReach : PySem.W.keepIn K (.ref fReach) = true)
    (aSize : PySem.W.nsIn K mainGlobals "size_of" = some (some (.ref fSize)))
    (lSize : K.lookup fSize = some ⟨ocSize, odSize, .func (PySem.W.fnOf "size_of" "size_of" (defArgs sSizeOf) (defBody sSizeOf) (defScope sSizeOf) .none kVSize dcSize pmSize anSize cdSize ctSize), slSize⟩)
    (cSize : PySem.W.codeIn K cdSize "size_of" = true)
    (kSize : PySem.W.keepIn K (.ref fSize) = true)
    (aKept : PySem.W.nsIn K mainGlobals "kept_points" = some (some (.ref fKept)))
    (lKept : K.lookup fKept = some ⟨ocKept, odKept, .func (PySem.W.fnOf "kept_points" "kept_points" (defArgs sKeptPoints) (defBody sKeptPoints) (defScope sKeptPoints) .none kVKept dcKept pmKept anKept cdKept ctKept), slKept⟩)
    (cKept : PySem.W.codeIn K cdKept "kept_points" = true)
    (kKept : PySem.W.keepIn K (.ref fKept) = true)
    (aDir : PySem.W.nsIn K mainGlobals "direction_between" = some (some (.ref fDir)))
    (lDir : K.lookup fDir = some ⟨ocDir, odDir, .func (PySem.W.fnOf "direction_between" "direction_between" (defArgs sDirectionBetween) (defBody sDirectionBetween) (defScope sDirectionBetween) .none kVDir dcDir pmDir anDir cdDir ctDir), slDir⟩)
    (cDir : PySem.W.codeIn K cdDir "direction_between" = true)
    (kDir : PySem.W.keepIn K (.ref fDir) = true)
    (aRow : PySem.W.nsIn K mainGlobals "row_of" = some (some (.ref fRow)))
    (lRow : K.lookup fRow = some ⟨ocRow, odRow, .func (PySem.W.fnOf "row_of" "row_of" (defArgs sRowOf) (defBody sRowOf) (defScope sRowOf) .none kVRow dcRow pmRow anRow cdRow ctRow), slRow⟩)
    (cRow : PySem.W.codeIn K cdRow "row_of" = true)
    (kRow : PySem.W.keepIn K (.ref fRow) = true)
    (aNam : PySem.W.nsIn K mainGlobals "is_name" = some (some (.ref fNam)))
    (lNam : K.lookup fNam = some ⟨ocNam, odNam, .func (PySem.W.fnOf "is_name" "is_name" (defArgs sIsName) (defBody sIsName) (defScope sIsName) .none kVNam dcNam pmNam anNam cdNam ctNam), slNam⟩)
    (cNam : PySem.W.codeIn K cdNam "is_name" = true)
    (kNam : PySem.W.keepIn K (.ref fNam) = true)
    (aSI : PySem.W.findIn K (.ref CS) "__init__" = some (some (.ref fSI)))
    (iSI : PySem.W.isFn K (.ref fSI) = true)
    (lSI : K.lookup fSI = some ⟨ocSI, odSI, .func (PySem.W.fnOf "__init__" "Sign.__init__" (defArgs sSign_Init) (defBody sSign_Init) (defScope sSign_Init) .none kVSI dcSI pmSI anSI cdSI ctSI), slSI⟩)
    (cSI : PySem.W.codeIn K cdSI "Sign.__init__" = true)
    (kSI : PySem.W.keepIn K (.ref fSI) = true)
    (aPI : PySem.W.findIn K (.ref CP) "__init__" = some (some (.ref fPI)))
    (iPI : PySem.W.isFn K (.ref fPI) = true)
    (lPI : K.lookup fPI = some ⟨ocPI, odPI, .func (PySem.W.fnOf "__init__" "Pad.__init__" (defArgs sPad_Init) (defBody sPad_Init) (defScope sPad_Init) .none kVPI dcPI pmPI anPI cdPI ctPI), slPI⟩)
    (cPI : PySem.W.codeIn K cdPI "Pad.__init__" = true)
    (kPI : PySem.W.keepIn K (.ref fPI) = true)
    (aPB : PySem.W.findIn K (.ref CP) "begin" = some (some (.ref fPB)))
    (iPB : PySem.W.isFn K (.ref fPB) = true)
    (lPB : K.lookup fPB = some ⟨ocPB, odPB, .func (PySem.W.fnOf "begin" "Pad.begin" (defArgs sPad_Begin) (defBody sPad_Begin) (defScope sPad_Begin) .none kVPB dcPB pmPB anPB cdPB ctPB), slPB⟩)
    (cPB : PySem.W.codeIn K cdPB "Pad.begin" = true)
    (kPB : PySem.W.keepIn K (.ref fPB) = true)
    (aPM : PySem.W.findIn K (.ref CP) "move" = some (some (.ref fPM)))
    (iPM : PySem.W.isFn K (.ref fPM) = true)
    (lPM : K.lookup fPM = some ⟨ocPM, odPM, .func (PySem.W.fnOf "move" "Pad.move" (defArgs sPad_Move) (defBody sPad_Move) (defScope sPad_Move) .none kVPM dcPM pmPM anPM cdPM ctPM), slPM⟩)
    (cPM : PySem.W.codeIn K cdPM "Pad.move" = true)
    (kPM : PySem.W.keepIn K (.ref fPM) = true)
    (aPC : PySem.W.findIn K (.ref CP) "clear" = some (some (.ref fPC)))
    (iPC : PySem.W.isFn K (.ref fPC) = true)
    (lPC : K.lookup fPC = some ⟨ocPC, odPC, .func (PySem.W.fnOf "clear" "Pad.clear" (defArgs sPad_Clear) (defBody sPad_Clear) (defScope sPad_Clear) .none kVPC dcPC pmPC anPC cdPC ctPC), slPC⟩)
    (cPC : PySem.W.codeIn K cdPC "Pad.clear" = true)
    (kPC : PySem.W.keepIn K (.ref fPC) = true)
    (aPR : PySem.W.findIn K (.ref CP) "row" = some (some (.ref fPR)))
    (iPR : PySem.W.isFn K (.ref fPR) = true)
    (lPR : K.lookup fPR = some ⟨ocPR, odPR, .func (PySem.W.fnOf "row" "Pad.row" (defArgs sPad_Row) (defBody sPad_Row) (defScope sPad_Row) .none kVPR dcPR pmPR anPR cdPR ctPR), slPR⟩)
    (cPR : PySem.W.codeIn K cdPR "Pad.row" = true)
    (kPR : PySem.W.keepIn K (.ref fPR) = true)
    (aPT : PySem.W.findIn K (.ref CP) "teach" = some (some (.ref fPT)))
    (iPT : PySem.W.isFn K (.ref fPT) = true)
    (lPT : K.lookup fPT = some ⟨ocPT, odPT, .func (PySem.W.fnOf "teach" "Pad.teach" (defArgs sPad_Teach) (defBody sPad_Teach) (defScope sPad_Teach) .none kVPT dcPT pmPT anPT cdPT ctPT), slPT⟩)
    (cPT : PySem.W.codeIn K cdPT "Pad.teach" = true)
    (kPT : PySem.W.keepIn K (.ref fPT) = true)
    (aPF : PySem.W.findIn K (.ref CP) "forget" = some (some (.ref fPF)))
    (iPF : PySem.W.isFn K (.ref fPF) = true)
    (lPF : K.lookup fPF = some ⟨ocPF, odPF, .func (PySem.W.fnOf "forget" "Pad.forget" (defArgs sPad_Forget) (defBody sPad_Forget) (defScope sPad_Forget) .none kVPF dcPF pmPF anPF cdPF ctPF), slPF⟩)
    (cPF : PySem.W.codeIn K cdPF "Pad.forget" = true)
    (kPF : PySem.W.keepIn K (.ref fPF) = true)
    (aPK : PySem.W.findIn K (.ref CP) "know" = some (some (.ref fPK)))
    (iPK : PySem.W.isFn K (.ref fPK) = true)
    (lPK : K.lookup fPK = some ⟨ocPK, odPK, .func (PySem.W.fnOf "know" "Pad.know" (defArgs sPad_Know) (defBody sPad_Know) (defScope sPad_Know) .none kVPK dcPK pmPK anPK cdPK ctPK), slPK⟩)
    (cPK : PySem.W.codeIn K cdPK "Pad.know" = true)
    (kPK : PySem.W.keepIn K (.ref fPK) = true)
    (aPA : PySem.W.findIn K (.ref CP) "take" = some (some (.ref fPA)))
    (iPA : PySem.W.isFn K (.ref fPA) = true)
    (lPA : K.lookup fPA = some ⟨ocPA, odPA, .func (PySem.W.fnOf "take" "Pad.take" (defArgs sPad_Take) (defBody sPad_Take) (defScope sPad_Take) .none kVPA dcPA pmPA anPA cdPA ctPA), slPA⟩)
    (cPA : PySem.W.codeIn K cdPA "Pad.take" = true)
    (kPA : PySem.W.keepIn K (.ref fPA) = true)
    (aPQ : PySem.W.findIn K (.ref CP) "back" = some (some (.ref fPQ)))
    (iPQ : PySem.W.isFn K (.ref fPQ) = true)
    (lPQ : K.lookup fPQ = some ⟨ocPQ, odPQ, .func (PySem.W.fnOf "back" "Pad.back" (defArgs sPad_Back) (defBody sPad_Back) (defScope sPad_Back) .none kVPQ dcPQ pmPQ anPQ cdPQ ctPQ), slPQ⟩)
    (cPQ : PySem.W.codeIn K cdPQ "Pad.back" = true)
    (kPQ : PySem.W.keepIn K (.ref fPQ) = true)
    (aPX : PySem.W.findIn K (.ref CP) "text" = some (some (.ref fPX)))
    (iPX : PySem.W.isFn K (.ref fPX) = true)
    (lPX : K.lookup fPX = some ⟨ocPX, odPX, .func (PySem.W.fnOf "text" "Pad.text" (defArgs sPad_Text) (defBody sPad_Text) (defScope sPad_Text) .none kVPX dcPX pmPX anPX cdPX ctPX), slPX⟩)
    (cPX : PySem.W.codeIn K cdPX "Pad.text" = true)
    (kPX : PySem.W.keepIn K (.ref fPX) = true)
    (aPN : PySem.W.findIn K (.ref CP) "count" = some (some (.ref fPN)))
    (iPN : PySem.W.isFn K (.ref fPN) = true)
    (lPN : K.lookup fPN = some ⟨ocPN, odPN, .func (PySem.W.fnOf "count" "Pad.count" (defArgs sPad_Count) (defBody sPad_Count) (defScope sPad_Count) .none kVPN dcPN pmPN anPN cdPN ctPN), slPN⟩)
    (cPN : PySem.W.codeIn K cdPN "Pad.count" = true)
    (kPN : PySem.W.keepIn K (.ref fPN) = true)
    (aRI : PySem.W.findIn K (.ref CR) "__init__" = some (some (.ref fRI)))
    (iRI : PySem.W.isFn K (.ref fRI) = true)
    (lRI : K.lookup fRI = some ⟨ocRI, odRI, .func (PySem.W.fnOf "__init__" "Reader.__init__" (defArgs sReader_Init) (defBody sReader_Init) (defScope sReader_Init) .none kVRI dcRI pmRI anRI cdRI ctRI), slRI⟩)
    (cRI : PySem.W.codeIn K cdRI "Reader.__init__" = true)
    (kRI : PySem.W.keepIn K (.ref fRI) = true)
    (aRE : PySem.W.findIn K (.ref CR) "at_end" = some (some (.ref fRE)))
    (iRE : PySem.W.isFn K (.ref fRE) = true)
    (lRE : K.lookup fRE = some ⟨ocRE, odRE, .func (PySem.W.fnOf "at_end" "Reader.at_end" (defArgs sReader_AtEnd) (defBody sReader_AtEnd) (defScope sReader_AtEnd) .none kVRE dcRE pmRE anRE cdRE ctRE), slRE⟩)
    (cRE : PySem.W.codeIn K cdRE "Reader.at_end" = true)
    (kRE : PySem.W.keepIn K (.ref fRE) = true)
    (aRN : PySem.W.findIn K (.ref CR) "read_number" = some (some (.ref fRN)))
    (iRN : PySem.W.isFn K (.ref fRN) = true)
    (lRN : K.lookup fRN = some ⟨ocRN, odRN, .func (PySem.W.fnOf "read_number" "Reader.read_number" (defArgs sReader_ReadNumber) (defBody sReader_ReadNumber) (defScope sReader_ReadNumber) .none kVRN dcRN pmRN anRN cdRN ctRN), slRN⟩)
    (cRN : PySem.W.codeIn K cdRN "Reader.read_number" = true)
    (kRN : PySem.W.keepIn K (.ref fRN) = true)
    (aRM : PySem.W.findIn K (.ref CR) "read_name" = some (some (.ref fRM)))
    (iRM : PySem.W.isFn K (.ref fRM) = true)
    (lRM : K.lookup fRM = some ⟨ocRM, odRM, .func (PySem.W.fnOf "read_name" "Reader.read_name" (defArgs sReader_ReadName) (defBody sReader_ReadName) (defScope sReader_ReadName) .none kVRM dcRM pmRM anRM cdRM ctRM), slRM⟩)
    (cRM : PySem.W.codeIn K cdRM "Reader.read_name" = true)
    (kRM : PySem.W.keepIn K (.ref fRM) = true)
    (aCo : PySem.W.nsIn K mainGlobals "counted" = some (some (.ref fCo)))
    (lCo : K.lookup fCo = some ⟨ocCo, odCo, .func (PySem.W.fnOf "counted" "counted" (defArgs sCounted) (defBody sCounted) (defScope sCounted) .none kVCo dcCo pmCo anCo cdCo ctCo), slCo⟩)
    (cCo : PySem.W.codeIn K cdCo "counted" = true)
    (kCo : PySem.W.keepIn K (.ref fCo) = true)
    (aAo : PySem.W.nsIn K mainGlobals "answer_of" = some (some (.ref fAo)))
    (lAo : K.lookup fAo = some ⟨ocAo, odAo, .func (PySem.W.fnOf "answer_of" "answer_of" (defArgs sAnswerOf) (defBody sAnswerOf) (defScope sAnswerOf) .none kVAo dcAo pmAo anAo cdAo ctAo), slAo⟩)
    (cAo : PySem.W.codeIn K cdAo "answer_of" = true)
    (kAo : PySem.W.keepIn K (.ref fAo) = true)
    (aAn : PySem.W.nsIn K mainGlobals "answers" = some (some (.ref fAn)))
    (lAn : K.lookup fAn = some ⟨ocAn, odAn, .func (PySem.W.fnOf "answers" "answers" (defArgs sAnswers) (defBody sAnswers) (defScope sAnswers) .none kVAn dcAn pmAn anAn cdAn ctAn), slAn⟩)
    (cAn : PySem.W.codeIn K cdAn "answers" = true)
    (kAn : PySem.W.keepIn K (.ref fAn) = true)
    (gPUT_IN_COST : PySem.W.nsIn K mainGlobals "PUT_IN_COST" = some (some (.int 2 tPUT_IN_COST)))
    (gLEFT_OUT_COST : PySem.W.nsIn K mainGlobals "LEFT_OUT_COST" = some (some (.int 2 tLEFT_OUT_COST)))
    (gFULL_TURN : PySem.W.nsIn K mainGlobals "FULL_TURN" = some (some (.int 8 tFULL_TURN)))
    (gBEGIN : PySem.W.nsIn K mainGlobals "BEGIN" = some (some (.int 0 tBEGIN)))
    (gMOVE : PySem.W.nsIn K mainGlobals "MOVE" = some (some (.int 1 tMOVE)))
    (gCLEAR : PySem.W.nsIn K mainGlobals "CLEAR" = some (some (.int 2 tCLEAR)))
    (gROW : PySem.W.nsIn K mainGlobals "ROW" = some (some (.int 3 tROW)))
    (gTEACH : PySem.W.nsIn K mainGlobals "TEACH" = some (some (.int 4 tTEACH)))
    (gFORGET : PySem.W.nsIn K mainGlobals "FORGET" = some (some (.int 5 tFORGET)))
    (gKNOW : PySem.W.nsIn K mainGlobals "KNOW" = some (some (.int 6 tKNOW)))
    (gTAKE : PySem.W.nsIn K mainGlobals "TAKE" = some (some (.int 7 tTAKE)))
    (gBACK : PySem.W.nsIn K mainGlobals "BACK" = some (some (.int 8 tBACK)))
    (gTEXT : PySem.W.nsIn K mainGlobals "TEXT" = some (some (.int 9 tTEXT)))
    (gCOUNT : PySem.W.nsIn K mainGlobals "COUNT" = some (some (.int 10 tCOUNT)))
    (gNOT_THERE : PySem.W.nsIn K mainGlobals "NOT_THERE" = some (some (.int (-2) tNOT_THERE)))
    (gFULL : PySem.W.nsIn K mainGlobals "FULL" = some (some (.int (-12) tFULL)))
    (gOUT_OF_RANGE : PySem.W.nsIn K mainGlobals "OUT_OF_RANGE" = some (some (.int (-22) tOUT_OF_RANGE)))
    (gNONE_NEAR : PySem.W.nsIn K mainGlobals "NONE_NEAR" = some (some (.int (-33) tNONE_NEAR)))
    (gNOT_ONE_NAME : PySem.W.nsIn K mainGlobals "NOT_ONE_NAME" = some (some (.int (-41) tNOT_ONE_NAME)))
    (gNO_DIRECTIONS : PySem.W.nsIn K mainGlobals "NO_DIRECTIONS" = some (some (.int (-61) tNO_DIRECTIONS)))
    (gHIGHEST_LIMIT : PySem.W.nsIn K mainGlobals "HIGHEST_LIMIT" = some (some (.int 1000 tHIGHEST_LIMIT)))
    (gHIGHEST_PLACE : PySem.W.nsIn K mainGlobals "HIGHEST_PLACE" = some (some (.int 1023 tHIGHEST_PLACE)))
    (gMOST_POINTS : PySem.W.nsIn K mainGlobals "MOST_POINTS" = some (some (.int 64 tMOST_POINTS)))
    (gMOST_SIGNS : PySem.W.nsIn K mainGlobals "MOST_SIGNS" = some (some (.int 40 tMOST_SIGNS)))
    (gMOST_TAKEN : PySem.W.nsIn K mainGlobals "MOST_TAKEN" = some (some (.int 100 tMOST_TAKEN)))
    (gLONGEST_NAME : PySem.W.nsIn K mainGlobals "LONGEST_NAME" = some (some (.int 8 tLONGEST_NAME)))
    (gLETTER_A : PySem.W.nsIn K mainGlobals "LETTER_A" = some (some (.int 97 tLETTER_A)))
    (gLETTER_Z : PySem.W.nsIn K mainGlobals "LETTER_Z" = some (some (.int 122 tLETTER_Z)))
    (gBLANK : PySem.W.nsIn K mainGlobals "BLANK" = some (some (.int 32 tBLANK)))
    (gPARTS_OF_SIZE : PySem.W.nsIn K mainGlobals "PARTS_OF_SIZE" = some (some (.int 8 tPARTS_OF_SIZE)))
    (gRIGHT : PySem.W.nsIn K mainGlobals "RIGHT" = some (some (.int 0 tRIGHT)))
    (gRIGHT_DOWN : PySem.W.nsIn K mainGlobals "RIGHT_DOWN" = some (some (.int 1 tRIGHT_DOWN)))
    (gDOWN : PySem.W.nsIn K mainGlobals "DOWN" = some (some (.int 2 tDOWN)))
    (gLEFT_DOWN : PySem.W.nsIn K mainGlobals "LEFT_DOWN" = some (some (.int 3 tLEFT_DOWN)))
    (gLEFT : PySem.W.nsIn K mainGlobals "LEFT" = some (some (.int 4 tLEFT)))
    (gLEFT_UP : PySem.W.nsIn K mainGlobals "LEFT_UP" = some (some (.int 5 tLEFT_UP)))
    (gUP : PySem.W.nsIn K mainGlobals "UP" = some (some (.int 6 tUP)))
    (gRIGHT_UP : PySem.W.nsIn K mainGlobals "RIGHT_UP" = some (some (.int 7 tRIGHT_UP)))
    (zlen : PySem.W.nsIn K mainGlobals "len" = some none)
    (zabs : PySem.W.nsIn K mainGlobals "abs" = some none)
    (zmax : PySem.W.nsIn K mainGlobals "max" = some none)
    (zmin : PySem.W.nsIn K mainGlobals "min" = some none)
    (zzip : PySem.W.nsIn K mainGlobals "zip" = some none)
    (zall : PySem.W.nsIn K mainGlobals "all" = some none)
    (zany : PySem.W.nsIn K mainGlobals "any" = some none)
    (zrange : PySem.W.nsIn K mainGlobals "range" = some none)
    (zenumerate : PySem.W.nsIn K mainGlobals "enumerate" = some none)
    (zlist : PySem.W.nsIn K mainGlobals "list" = some none) :
    ∃ fd : FuncData, (∀ (s : Shared) (us : List Value), us.length = (["calls"] : List Str).length → BindsTo s fd ⟨us, []⟩ ((["calls"] : List Str).zip us)) ∧ ∀ base : Heap, K.In base → base.Ns mainGlobals mg → FnOk P w K mg base CX0 8 fa fd ["calls"] (spAnswers K) := by
  have e := hfa.symm.trans (PySem.W.mg_of X G aAn)
  cases e
  have T : Txt mg := { len := PySem.W.mg_none_of X G zlen, abs := PySem.W.mg_none_of X G zabs, max := PySem.W.mg_none_of X G zmax, min := PySem.W.mg_none_of X G zmin, zip := PySem.W.mg_none_of X G zzip, all := PySem.W.mg_none_of X G zall, any := PySem.W.mg_none_of X G zany, range := PySem.W.mg_none_of X G zrange, enumerate := PySem.W.mg_none_of X G zenumerate, list := PySem.W.mg_none_of X G zlist, PUT_IN_COST := ⟨_, PySem.W.mg_of X G gPUT_IN_COST⟩, LEFT_OUT_COST := ⟨_, PySem.W.mg_of X G gLEFT_OUT_COST⟩, FULL_TURN := ⟨_, PySem.W.mg_of X G gFULL_TURN⟩, BEGIN := ⟨_, PySem.W.mg_of X G gBEGIN⟩, MOVE := ⟨_, PySem.W.mg_of X G gMOVE⟩, CLEAR := ⟨_, PySem.W.mg_of X G gCLEAR⟩, ROW := ⟨_, PySem.W.mg_of X G gROW⟩, TEACH := ⟨_, PySem.W.mg_of X G gTEACH⟩, FORGET := ⟨_, PySem.W.mg_of X G gFORGET⟩, KNOW := ⟨_, PySem.W.mg_of X G gKNOW⟩, TAKE := ⟨_, PySem.W.mg_of X G gTAKE⟩, BACK := ⟨_, PySem.W.mg_of X G gBACK⟩, TEXT := ⟨_, PySem.W.mg_of X G gTEXT⟩, COUNT := ⟨_, PySem.W.mg_of X G gCOUNT⟩, NOT_THERE := ⟨_, PySem.W.mg_of X G gNOT_THERE⟩, FULL := ⟨_, PySem.W.mg_of X G gFULL⟩, OUT_OF_RANGE := ⟨_, PySem.W.mg_of X G gOUT_OF_RANGE⟩, NONE_NEAR := ⟨_, PySem.W.mg_of X G gNONE_NEAR⟩, NOT_ONE_NAME := ⟨_, PySem.W.mg_of X G gNOT_ONE_NAME⟩, NO_DIRECTIONS := ⟨_, PySem.W.mg_of X G gNO_DIRECTIONS⟩, HIGHEST_LIMIT := ⟨_, PySem.W.mg_of X G gHIGHEST_LIMIT⟩, HIGHEST_PLACE := ⟨_, PySem.W.mg_of X G gHIGHEST_PLACE⟩, MOST_POINTS := ⟨_, PySem.W.mg_of X G gMOST_POINTS⟩, MOST_SIGNS := ⟨_, PySem.W.mg_of X G gMOST_SIGNS⟩, MOST_TAKEN := ⟨_, PySem.W.mg_of X G gMOST_TAKEN⟩, LONGEST_NAME := ⟨_, PySem.W.mg_of X G gLONGEST_NAME⟩, LETTER_A := ⟨_, PySem.W.mg_of X G gLETTER_A⟩, LETTER_Z := ⟨_, PySem.W.mg_of X G gLETTER_Z⟩, BLANK := ⟨_, PySem.W.mg_of X G gBLANK⟩, PARTS_OF_SIZE := ⟨_, PySem.W.mg_of X G gPARTS_OF_SIZE⟩, RIGHT := ⟨_, PySem.W.mg_of X G gRIGHT⟩, RIGHT_DOWN := ⟨_, PySem.W.mg_of X G gRIGHT_DOWN⟩, DOWN := ⟨_, PySem.W.mg_of X G gDOWN⟩, LEFT_DOWN := ⟨_, PySem.W.mg_of X G gLEFT_DOWN⟩, LEFT := ⟨_, PySem.W.mg_of X G gLEFT⟩, LEFT_UP := ⟨_, PySem.W.mg_of X G gLEFT_UP⟩, UP := ⟨_, PySem.W.mg_of X G gUP⟩, RIGHT_UP := ⟨_, PySem.W.mg_of X G gRIGHT_UP⟩ }
  have CMc : ClsM K CM := ⟨⟨pgCM, hdCM, poCM, saCM⟩, nCM_goal, nCM_measured, nCM_steps⟩
  have CSc : ClsS K CS := ⟨⟨pgCS, hdCS, poCS, saCS⟩, nCS_name, nCS_directions, nCS_measure⟩
  have CPc : ClsP K CP := ⟨⟨pgCP, hdCP, poCP, saCP⟩, nCP_limit, nCP_signs, nCP_points, nCP_taken⟩
  have CRc : ClsR K CR := ⟨⟨pgCR, hdCR, poCR, saCR⟩, nCR_numbers, nCR_place⟩
  have FTu := fun_mk (st := sTurnBetween) lTu cTu kTu
  have bTu := FTu.binds (ps := ["one", "other"]) fun _ _ _ _ _ _ us hl => match us, hl with | [_, _], _ => rfl
  have FLi := fun_mk (st := sLikeAtTheBeginning) lLi cLi kLi
  have bLi := FLi.binds (ps := ["one", "other"]) fun _ _ _ _ _ _ us hl => match us, hl with | [_, _], _ => rfl
  have FNo := fun_mk (st := sCostsFromNothing) lNo cNo kNo
  have bNo := FNo.binds (ps := ["goal"]) fun _ _ _ _ _ _ us hl => match us, hl with | [_], _ => rfl
  have FMo := fun_mk (st := sCostsWithOneMore) lMo cMo kMo
  have bMo := FMo.binds (ps := ["costs", "direction", "goal"]) fun _ _ _ _ _ _ us hl => match us, hl with | [_, _, _], _ => rfl
  have FMI := fun_mk (st := sMeasure_Init) lMI cMI kMI
  have bMI := FMI.binds (ps := ["self", "goal"]) fun _ _ _ _ _ _ us hl => match us, hl with | [_, _], _ => rfl
  have FMD := fun_mk (st := sMeasure_DistanceFrom) lMD cMD kMD
  have bMD := FMD.binds (ps := ["self", "directions"]) fun _ _ _ _ _ _ us hl => match us, hl with | [_, _], _ => rfl
  have FReach := fun_mk (st := sReachBetween) lReach cReach kReach
  have bReach := FReach.binds (ps := ["start", "end"]) fun _ _ _ _ _ _ us hl => match us, hl with | [_, _], _ => rfl
  have FSize := fun_mk (st := sSizeOf) lSize cSize kSize
  have bSize := FSize.binds (ps := ["points"]) fun _ _ _ _ _ _ us hl => match us, hl with | [_], _ => rfl
  have FKept := fun_mk (st := sKeptPoints) lKept cKept kKept
  have bKept := FKept.binds (ps := ["points"]) fun _ _ _ _ _ _ us hl => match us, hl with | [_], _ => rfl
  have FDir := fun_mk (st := sDirectionBetween) lDir cDir kDir
  have bDir := FDir.binds (ps := ["start", "end"]) fun _ _ _ _ _ _ us hl => match us, hl with | [_, _], _ => rfl
  have FRow := fun_mk (st := sRowOf) lRow cRow kRow
  have bRow := FRow.binds (ps := ["points"]) fun _ _ _ _ _ _ us hl => match us, hl with | [_], _ => rfl
  have FNam := fun_mk (st := sIsName) lNam cNam kNam
  have bNam := FNam.binds (ps := ["name"]) fun _ _ _ _ _ _ us hl => match us, hl with | [_], _ => rfl
  have FSI := fun_mk (st := sSign_Init) lSI cSI kSI
  have bSI := FSI.binds (ps := ["self", "name", "directions"]) fun _ _ _ _ _ _ us hl => match us, hl with | [_, _, _], _ => rfl
  have FPI := fun_mk (st := sPad_Init) lPI cPI kPI
  have bPI := FPI.binds (ps := ["self"]) fun _ _ _ _ _ _ us hl => match us, hl with | [_], _ => rfl
  have FPB := fun_mk (st := sPad_Begin) lPB cPB kPB
  have bPB := FPB.binds (ps := ["self", "limit"]) fun _ _ _ _ _ _ us hl => match us, hl with | [_, _], _ => rfl
  have FPM := fun_mk (st := sPad_Move) lPM cPM kPM
  have bPM := FPM.binds (ps := ["self", "x", "y"]) fun _ _ _ _ _ _ us hl => match us, hl with | [_, _, _], _ => rfl
  have FPC := fun_mk (st := sPad_Clear) lPC cPC kPC
  have bPC := FPC.binds (ps := ["self"]) fun _ _ _ _ _ _ us hl => match us, hl with | [_], _ => rfl
  have FPR := fun_mk (st := sPad_Row) lPR cPR kPR
  have bPR := FPR.binds (ps := ["self"]) fun _ _ _ _ _ _ us hl => match us, hl with | [_], _ => rfl
  have FPT := fun_mk (st := sPad_Teach) lPT cPT kPT
  have bPT := FPT.binds (ps := ["self", "name"]) fun _ _ _ _ _ _ us hl => match us, hl with | [_, _], _ => rfl
  have FPF := fun_mk (st := sPad_Forget) lPF cPF kPF
  have bPF := FPF.binds (ps := ["self", "name"]) fun _ _ _ _ _ _ us hl => match us, hl with | [_, _], _ => rfl
  have FPK := fun_mk (st := sPad_Know) lPK cPK kPK
  have bPK := FPK.binds (ps := ["self"]) fun _ _ _ _ _ _ us hl => match us, hl with | [_], _ => rfl
  have FPA := fun_mk (st := sPad_Take) lPA cPA kPA
  have bPA := FPA.binds (ps := ["self"]) fun _ _ _ _ _ _ us hl => match us, hl with | [_], _ => rfl
  have FPQ := fun_mk (st := sPad_Back) lPQ cPQ kPQ
  have bPQ := FPQ.binds (ps := ["self"]) fun _ _ _ _ _ _ us hl => match us, hl with | [_], _ => rfl
  have FPX := fun_mk (st := sPad_Text) lPX cPX kPX
  have bPX := FPX.binds (ps := ["self"]) fun _ _ _ _ _ _ us hl => match us, hl with | [_], _ => rfl
  have FPN := fun_mk (st := sPad_Count) lPN cPN kPN
  have bPN := FPN.binds (ps := ["self"]) fun _ _ _ _ _ _ us hl => match us, hl with | [_], _ => rfl
  have FRI := fun_mk (st := sReader_Init) lRI cRI kRI
  have bRI := FRI.binds (ps := ["self", "numbers"]) fun _ _ _ _ _ _ us hl => match us, hl with | [_, _], _ => rfl
  have FRE := fun_mk (st := sReader_AtEnd) lRE cRE kRE
  have bRE := FRE.binds (ps := ["self"]) fun _ _ _ _ _ _ us hl => match us, hl with | [_], _ => rfl
  have FRN := fun_mk (st := sReader_ReadNumber) lRN cRN kRN
  have bRN := FRN.binds (ps := ["self"]) fun _ _ _ _ _ _ us hl => match us, hl with | [_], _ => rfl
  have FRM := fun_mk (st := sReader_ReadName) lRM cRM kRM
  have bRM := FRM.binds (ps := ["self"]) fun _ _ _ _ _ _ us hl => match us, hl with | [_], _ => rfl
  have FCo := fun_mk (st := sCounted) lCo cCo kCo
  have bCo := FCo.binds (ps := ["numbers"]) fun _ _ _ _ _ _ us hl => match us, hl with | [_], _ => rfl
  have FAo := fun_mk (st := sAnswerOf) lAo cAo kAo
  have bAo := FAo.binds (ps := ["pad", "reader"]) fun _ _ _ _ _ _ us hl => match us, hl with | [_, _], _ => rfl
  have FAn := fun_mk (st := sAnswers) lAn cAn kAn
  refine ⟨PySem.W.fnOf "answers" "answers" (defArgs sAnswers) (defBody sAnswers) (defScope sAnswers) .none kVAn dcAn pmAn anAn cdAn ctAn, fun s us hu => match us, hu with | [_], _ => .of_eq rfl, fun base _ _ => ?_⟩
  have hTu : FnAt P w K mg base 1 "turn_between" ["one", "other"] spTurn := ⟨fTu, _, ok_turn FTu T, PySem.W.mg_of X G aTu, kTu, bTu⟩
  have hLi : FnAt P w K mg base 1 "like_at_the_beginning" ["one", "other"] spLike := ⟨fLi, _, ok_like FLi T, PySem.W.mg_of X G aLi, kLi, bLi⟩
  have hNo : FnAt P w K mg base 1 "costs_from_nothing" ["goal"] spNothing := ⟨fNo, _, ok_nothing FNo T, PySem.W.mg_of X G aNo, kNo, bNo⟩
  have hMo : FnAt P w K mg base 2 "costs_with_one_more" ["costs", "direction", "goal"] spMore := ⟨fMo, _, ok_more FMo T hTu, PySem.W.mg_of X G aMo, kMo, bMo⟩
  have hMI : MkAt P w K mg base 2 "Measure" CM ["self", "goal"] (spMeasInit CM) := ⟨fMI, _, ok_measInit FMI CMc hNo, ⟨mkCM, aMI, iMI, kcCM⟩, PySem.W.mg_of X G aCM, bMI⟩
  have hMD : MeAt P w K mg base 3 CM "distance_from" ["self", "directions"] (spDist CM) := ⟨fMD, _, ok_dist FMD T CMc hLi hMo, ⟨aMD, iMD, kMD⟩, bMD⟩
  have hReach : FnAt P w K mg base 1 "reach_between" ["start", "end"] spReach := ⟨fReach, _, ok_reach FReach T, PySem.W.mg_of X G aReach, kReach, bReach⟩
  have hSize : FnAt P w K mg base 1 "size_of" ["points"] spSize := ⟨fSize, _, ok_size FSize T, PySem.W.mg_of X G aSize, kSize, bSize⟩
  have hKept : FnAt P w K mg base 2 "kept_points" ["points"] spKept := ⟨fKept, _, ok_kept FKept T hSize hReach, PySem.W.mg_of X G aKept, kKept, bKept⟩
  have hDir : FnAt P w K mg base 1 "direction_between" ["start", "end"] spDir := ⟨fDir, _, ok_dir FDir T, PySem.W.mg_of X G aDir, kDir, bDir⟩
  have hRow : FnAt P w K mg base 3 "row_of" ["points"] spRow := ⟨fRow, _, ok_row FRow T hKept hDir, PySem.W.mg_of X G aRow, kRow, bRow⟩
  have hNam : FnAt P w K mg base 1 "is_name" ["name"] spName := ⟨fNam, _, ok_name FNam T, PySem.W.mg_of X G aNam, kNam, bNam⟩
  have hSI : MkAt P w K mg base 4 "Sign" CS ["self", "name", "directions"] (spSignInit CS CM) := ⟨fSI, _, ok_signInit FSI CSc hMI, ⟨mkCS, aSI, iSI, kcCS⟩, PySem.W.mg_of X G aCS, bSI⟩
  have hPI : MkAt P w K mg base 1 "Pad" CP ["self"] (spPadInit CP CS CM) := ⟨fPI, _, ok_padInit FPI CPc, ⟨mkCP, aPI, iPI, kcCP⟩, PySem.W.mg_of X G aCP, bPI⟩
  have hPB : MeAt P w K mg base 1 CP "begin" ["self", "limit"] (spBegin CP CS CM) := ⟨fPB, _, ok_begin FPB T CPc, ⟨aPB, iPB, kPB⟩, bPB⟩
  have hPM : MeAt P w K mg base 1 CP "move" ["self", "x", "y"] (spMove CP CS CM) := ⟨fPM, _, ok_move FPM T CPc, ⟨aPM, iPM, kPM⟩, bPM⟩
  have hPC : MeAt P w K mg base 1 CP "clear" ["self"] (spClear CP CS CM) := ⟨fPC, _, ok_clear FPC T CPc, ⟨aPC, iPC, kPC⟩, bPC⟩
  have hPR : MeAt P w K mg base 4 CP "row" ["self"] (spRowM CP CS CM) := ⟨fPR, _, ok_rowM FPR CPc hRow, ⟨aPR, iPR, kPR⟩, bPR⟩
  have hPT : MeAt P w K mg base 6 CP "teach" ["self", "name"] (spTeach CP CS CM) := ⟨fPT, _, ok_teach FPT T CPc hRow hNam hSI, ⟨aPT, iPT, kPT⟩, bPT⟩
  have hPF : MeAt P w K mg base 1 CP "forget" ["self", "name"] (spForget CP CS CM) := ⟨fPF, _, ok_forget FPF T CPc CSc, ⟨aPF, iPF, kPF⟩, bPF⟩
  have hPK : MeAt P w K mg base 4 CP "know" ["self"] (spKnow CP CS CM) := ⟨fPK, _, ok_know FPK T CPc CSc CMc hRow hMD, ⟨aPK, iPK, kPK⟩, bPK⟩
  have hPA : MeAt P w K mg base 5 CP "take" ["self"] (spTake CP CS CM) := ⟨fPA, _, ok_take FPA T CPc hPK, ⟨aPA, iPA, kPA⟩, bPA⟩
  have hPQ : MeAt P w K mg base 1 CP "back" ["self"] (spBack CP CS CM) := ⟨fPQ, _, ok_back FPQ T CPc, ⟨aPQ, iPQ, kPQ⟩, bPQ⟩
  have hPX : MeAt P w K mg base 1 CP "text" ["self"] (spText CP CS CM) := ⟨fPX, _, ok_text FPX T CPc, ⟨aPX, iPX, kPX⟩, bPX⟩
  have hPN : MeAt P w K mg base 1 CP "count" ["self"] (spCount CP CS CM) := ⟨fPN, _, ok_count FPN T CPc, ⟨aPN, iPN, kPN⟩, bPN⟩
  have hRI : MkAt P w K mg base 1 "Reader" CR ["self", "numbers"] (spRInit CR) := ⟨fRI, _, ok_rInit FRI CRc, ⟨mkCR, aRI, iRI, kcCR⟩, PySem.W.mg_of X G aCR, bRI⟩
  have hRE : MeAt P w K mg base 1 CR "at_end" ["self"] (spAtEnd K CR) := ⟨fRE, _, ok_atEnd FRE T CRc, ⟨aRE, iRE, kRE⟩, bRE⟩
  have hRN : MeAt P w K mg base 1 CR "read_number" ["self"] (spNum K CR) := ⟨fRN, _, ok_num FRN CRc, ⟨aRN, iRN, kRN⟩, bRN⟩
  have hRM : MeAt P w K mg base 2 CR "read_name" ["self"] (spReadName K CR) := ⟨fRM, _, ok_readName FRM CRc hRN, ⟨aRM, iRM, kRM⟩, bRM⟩
  have hCo : FnAt P w K mg base 1 "counted" ["numbers"] spCounted := ⟨fCo, _, ok_counted FCo T, PySem.W.mg_of X G aCo, kCo, bCo⟩
  have hAo : FnAt P w K mg base 7 "answer_of" ["pad", "reader"] (spAnswer K CP CS CM CR) := ⟨fAo, _, ok_answerOf FAo T CPc CRc hRN hRM hPB hPM hPC hPR hPT hPF hPK hPA hPQ hPX hPN hCo, PySem.W.mg_of X G aAo, kAo, bAo⟩
  exact ok_answers FAn T CRc hPI hRI hRE hAo
end My
open PySem PySem.W PyProof.Rows
set_option maxRecDepth 100000 in
set_option maxHeartbeats 0 in
theorem PySem.Challenge.cw_handsigns_s01_answers_holds : PySem.Challenge.rw_handsigns_s01_answers.Holds := by
  w_on; k_headS; (case hw => exact ⟨[.list [.int 2]], by decide +kernel, by decide +kernel⟩)
  k_fillS
  refine L2.walk_specK (r := PySem.Challenge.rw_handsigns_s01_answers) (k := 8) (CX := L2.CX0) (ps := ["calls"]) (sp := My.spAnswers) (by decide +kernel) rfl rfl ⟨rfl, by decide, by decide⟩ (fun w h Y => PySem.W.kIn_of Y) ?F ?S (fun _ _ _ _ z => z)
  case F =>
    intro w mg fa h Y KX G hmg
    refine' My.all_mk KX G hmg ?aCM ?pgCM ?hdCM ?poCM ?saCM ?mkCM ?kcCM ?nCM_goal ?nCM_measured ?nCM_steps ?aCS ?pgCS ?hdCS ?poCS ?saCS ?mkCS ?kcCS ?nCS_name ?nCS_directions ?nCS_measure ?aCP ?pgCP ?hdCP ?poCP ?saCP ?mkCP ?kcCP ?nCP_limit ?nCP_signs ?nCP_points ?nCP_taken ?aCR ?pgCR ?hdCR ?poCR ?saCR ?mkCR ?kcCR ?nCR_numbers ?nCR_place ?aTu ?lTu ?cTu ?kTu ?aLi ?lLi ?cLi ?kLi ?aNo ?lNo ?cNo ?kNo ?aMo ?lMo ?cMo ?kMo ?aMI ?iMI ?lMI ?cMI ?kMI ?aMD ?iMD ?lMD ?cMD ?kMD ?aReach ?lReach ?cReach ?kReach ?aSize ?lSize ?cSize ?kSize ?aKept ?lKept ?cKept ?kKept ?aDir ?lDir ?cDir ?kDir ?aRow ?lRow ?cRow ?kRow ?aNam ?lNam ?cNam ?kNam ?aSI ?iSI ?lSI ?cSI ?kSI ?aPI ?iPI ?lPI ?cPI ?kPI ?aPB ?iPB ?lPB ?cPB ?kPB ?aPM ?iPM ?lPM ?cPM ?kPM ?aPC ?iPC ?lPC ?cPC ?kPC ?aPR ?iPR ?lPR ?cPR ?kPR ?aPT ?iPT ?lPT ?cPT ?kPT ?aPF ?iPF ?lPF ?cPF ?kPF ?aPK ?iPK ?lPK ?cPK ?kPK ?aPA ?iPA ?lPA ?cPA ?kPA ?aPQ ?iPQ ?lPQ ?cPQ ?kPQ ?aPX ?iPX ?lPX ?cPX ?kPX ?aPN ?iPN ?lPN ?cPN ?kPN ?aRI ?iRI ?lRI ?cRI ?kRI ?aRE ?iRE ?lRE ?cRE ?kRE ?aRN ?iRN ?lRN ?cRN ?kRN ?aRM ?iRM ?lRM ?cRM ?kRM ?aCo ?lCo ?cCo ?kCo ?aAo ?lAo ?cAo ?kAo ?aAn ?lAn ?cAn ?kAn ?gPUT_IN_COST ?gLEFT_OUT_COST ?gFULL_TURN ?gBEGIN ?gMOVE ?gCLEAR ?gROW ?gTEACH ?gFORGET ?gKNOW ?gTAKE ?gBACK ?gTEXT ?gCOUNT ?gNOT_THERE ?gFULL ?gOUT_OF_RANGE ?gNONE_NEAR ?gNOT_ONE_NAME ?gNO_DIRECTIONS ?gHIGHEST_LIMIT ?gHIGHEST_PLACE ?gMOST_POINTS ?gMOST_SIGNS ?gMOST_TAKEN ?gLONGEST_NAME ?gLETTER_A ?gLETTER_Z ?gBLANK ?gPARTS_OF_SIZE ?gRIGHT ?gRIGHT_DOWN ?gDOWN ?gLEFT_DOWN ?gLEFT ?gLEFT_UP ?gUP ?gRIGHT_UP ?zlen ?zabs ?zmax ?zmin ?zzip ?zall ?zany ?zrange ?zenumerate ?zlist
    (case aCM => k_is)
    (case pgCM => k_is)
    (case hdCM => k_is)
    (case poCM => k_is)
    (case saCM => k_is)
    (case mkCM => k_is)
    (case kcCM => k_is)
    (case nCM_goal => k_is)
    (case nCM_measured => k_is)
    (case nCM_steps => k_is)
    (case aCS => k_is)
    (case pgCS => k_is)
    (case hdCS => k_is)
    (case poCS => k_is)
    (case saCS => k_is)
    (case mkCS => k_is)
    (case kcCS => k_is)
    (case nCS_name => k_is)
    (case nCS_directions => k_is)
    (case nCS_measure => k_is)
    (case aCP => k_is)
    (case pgCP => k_is)
    (case hdCP => k_is)
    (case poCP => k_is)
    (case saCP => k_is)
    (case mkCP => k_is)
    (case kcCP => k_is)
    (case nCP_limit => k_is)
    (case nCP_signs => k_is)
    (case nCP_points => k_is)
    (case nCP_taken => k_is)
    (case aCR => k_is)
    (case pgCR => k_is)
    (case hdCR => k_is)
    (case poCR => k_is)
    (case saCR => k_is)
    (case mkCR => k_is)
    (case kcCR => k_is)
    (case nCR_numbers => k_is)
    (case nCR_place => k_is)
    (case aTu => k_is)
    (case lTu => k_is)
    (case cTu => k_is)
    (case kTu => k_is)
    (case aLi => k_is)
    (case lLi => k_is)
    (case cLi => k_is)
    (case kLi => k_is)
    (case aNo => k_is)
    (case lNo => k_is)
    (case cNo => k_is)
    (case kNo => k_is)
    (case aMo => k_is)
    (case lMo => k_is)
    (case cMo => k_is)
    (case kMo => k_is)
    (case aMI => k_is)
    (case iMI => k_is)
    (case lMI => k_is)
    (case cMI => k_is)
    (case kMI => k_is)
    (case aMD => k_is)
    (case iMD => k_is)
    (case lMD => k_is)
    (case cMD => k_is)
    (case kMD => k_is)
    (case aReach => k_is)
    (case lReach => k_is)
    (case cReach => k_is)
    (case kReach => k_is)
    (case aSize => k_is)
    (case lSize => k_is)
    (case cSize => k_is)
    (case kSize => k_is)
    (case aKept => k_is)
    (case lKept => k_is)
    (case cKept => k_is)
    (case kKept => k_is)
    (case aDir => k_is)
    (case lDir => k_is)
    (case cDir => k_is)
    (case kDir => k_is)
    (case aRow => k_is)
    (case lRow => k_is)
    (case cRow => k_is)
    (case kRow => k_is)
    (case aNam => k_is)
    (case lNam => k_is)
    (case cNam => k_is)
    (case kNam => k_is)
    (case aSI => k_is)
    (case iSI => k_is)
    (case lSI => k_is)
    (case cSI => k_is)
    (case kSI => k_is)
    (case aPI => k_is)
    (case iPI => k_is)
    (case lPI => k_is)
    (case cPI => k_is)
    (case kPI => k_is)
    (case aPB => k_is)
    (case iPB => k_is)
    (case lPB => k_is)
    (case cPB => k_is)
    (case kPB => k_is)
    (case aPM => k_is)
    (case iPM => k_is)
    (case lPM => k_is)
    (case cPM => k_is)
    (case kPM => k_is)
    (case aPC => k_is)
    (case iPC => k_is)
    (case lPC => k_is)
    (case cPC => k_is)
    (case kPC => k_is)
    (case aPR => k_is)
    (case iPR => k_is)
    (case lPR => k_is)
    (case cPR => k_is)
    (case kPR => k_is)
    (case aPT => k_is)
    (case iPT => k_is)
    (case lPT => k_is)
    (case cPT => k_is)
    (case kPT => k_is)
    (case aPF => k_is)
    (case iPF => k_is)
    (case lPF => k_is)
    (case cPF => k_is)
    (case kPF => k_is)
    (case aPK => k_is)
    (case iPK => k_is)
    (case lPK => k_is)
    (case cPK => k_is)
    (case kPK => k_is)
    (case aPA => k_is)
    (case iPA => k_is)
    (case lPA => k_is)
    (case cPA => k_is)
    (case kPA => k_is)
    (case aPQ => k_is)
    (case iPQ => k_is)
    (case lPQ => k_is)
    (case cPQ => k_is)
    (case kPQ => k_is)
    (case aPX => k_is)
    (case iPX => k_is)
    (case lPX => k_is)
    (case cPX => k_is)
    (case kPX => k_is)
    (case aPN => k_is)
    (case iPN => k_is)
    (case lPN => k_is)
    (case cPN => k_is)
    (case kPN => k_is)
    (case aRI => k_is)
    (case iRI => k_is)
    (case lRI => k_is)
    (case cRI => k_is)
    (case kRI => k_is)
    (case aRE => k_is)
    (case iRE => k_is)
    (case lRE => k_is)
    (case cRE => k_is)
    (case kRE => k_is)
    (case aRN => k_is)
    (case iRN => k_is)
    (case lRN => k_is)
    (case cRN => k_is)
    (case kRN => k_is)
    (case aRM => k_is)
    (case iRM => k_is)
    (case lRM => k_is)
    (case cRM => k_is)
    (case kRM => k_is)
    (case aCo => k_is)
    (case lCo => k_is)
    (case cCo => k_is)
    (case kCo => k_is)
    (case aAo => k_is)
    (case lAo => k_is)
    (case cAo => k_is)
    (case kAo => k_is)
    (case aAn => k_is)
    (case lAn => k_is)
    (case cAn => k_is)
    (case kAn => k_is)
    (case gPUT_IN_COST => k_is)
    (case gLEFT_OUT_COST => k_is)
    (case gFULL_TURN => k_is)
    (case gBEGIN => k_is)
    (case gMOVE => k_is)
    (case gCLEAR => k_is)
    (case gROW => k_is)
    (case gTEACH => k_is)
    (case gFORGET => k_is)
    (case gKNOW => k_is)
    (case gTAKE => k_is)
    (case gBACK => k_is)
    (case gTEXT => k_is)
    (case gCOUNT => k_is)
    (case gNOT_THERE => k_is)
    (case gFULL => k_is)
    (case gOUT_OF_RANGE => k_is)
    (case gNONE_NEAR => k_is)
    (case gNOT_ONE_NAME => k_is)
    (case gNO_DIRECTIONS => k_is)
    (case gHIGHEST_LIMIT => k_is)
    (case gHIGHEST_PLACE => k_is)
    (case gMOST_POINTS => k_is)
    (case gMOST_SIGNS => k_is)
    (case gMOST_TAKEN => k_is)
    (case gLONGEST_NAME => k_is)
    (case gLETTER_A => k_is)
    (case gLETTER_Z => k_is)
    (case gBLANK => k_is)
    (case gPARTS_OF_SIZE => k_is)
    (case gRIGHT => k_is)
    (case gRIGHT_DOWN => k_is)
    (case gDOWN => k_is)
    (case gLEFT_DOWN => k_is)
    (case gLEFT => k_is)
    (case gLEFT_UP => k_is)
    (case gUP => k_is)
    (case gRIGHT_UP => k_is)
    (case zlen => k_is)
    (case zabs => k_is)
    (case zmax => k_is)
    (case zmin => k_is)
    (case zzip => k_is)
    (case zall => k_is)
    (case zany => k_is)
    (case zrange => k_is)
    (case zenumerate => k_is)
    (case zlist => k_is)
  case S =>
    intro K H xs a hO hwi hask hx
    cases hx with
    | cons h1 h2 =>
      cases h2
      cases h1 with
      | lst hs ha =>
        have e := L2.ints_dw a.1 _ ha
        subst e
        have q : ((Codec.inLen 0 31000 a.1 && a.1.all (Codec.inInt 0 4294967295)) && true) = true := hwi
        rw [Bool.and_eq_true, Bool.and_eq_true] at q
        exact ⟨_, a.1, rfl, hs, (Codec.inNat_iff.mp q.1.1).2, hask, fun H' p hp => .lst (L2.SqL.of hp) (L2.dw_ints _)⟩
