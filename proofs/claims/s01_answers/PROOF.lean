import PyProof.Rows.All
import Wide.All
import OpenK.AllK
import Wide.FinOn
import PyProof.EqAt
import PyProof.EqKinds
import PyProof.TupleCall
import KE.BitLaws
import Open.SpecLaws
import KE.OsHead
import KE.OsGo
import PySem.Challenge.RW_heldtogether_s01_answers
set_option Elab.async false
set_option linter.all false
set_option maxRecDepth 100000
/-! THE HAND LAYER, for ints, bools, texts, own classes, lists, tuples, dicts, comprehensions, walks over dicts, enumerate, zip, reversed, texts, calls, loops. Paste it whole ahead of your own text; what your proof does not reach may be deleted. -/
namespace L2
open PySem PySem.Spec PyProof.Rows

/-- a key: an int or a str -/
abbrev Key := Sum Int Str
def keyIs : Key → Value → Bool
  | .inl k, v => Value.isInt k v
  | .inr x, v => Value.isStrOf x v
def keyH (w : World) : Key → Int
  | .inl k => hashInt k
  | .inr x => hashStr w x
theorem keyIs_shape : ∀ {k : Key} {v : Value}, keyIs k v = true → (∃ i t, k = Sum.inl i ∧ v = Value.int i t) ∨ (∃ x t, k = Sum.inr x ∧ v = Value.str x t)
  | .inl i, v, h => by
    obtain ⟨t, e⟩ := Value.isInt_shape (k := i) (v := v) h
    exact .inl ⟨i, t, rfl, e⟩
  | .inr x, v, h => by
    obtain ⟨t, e⟩ := Value.isStrOf_shape (x := x) (v := v) h
    exact .inr ⟨x, t, rfl, e⟩
theorem key_ll (a b : Int) : decide ((Sum.inl a : Key) = Sum.inl b) = (a == b) := by
  by_cases e : a = b
  · subst e; simp
  · have h : ¬ (Sum.inl a : Key) = Sum.inl b := fun q => e (Sum.inl.inj q)
    rw [decide_eq_false h]
    exact (beq_eq_false_iff_ne.mpr e).symm
theorem key_rr (a b : Str) : decide ((Sum.inr a : Key) = Sum.inr b) = decide (a = b) := by
  by_cases e : a = b
  · subst e; simp
  · have h : ¬ (Sum.inr a : Key) = Sum.inr b := fun q => e (Sum.inr.inj q)
    rw [decide_eq_false h, decide_eq_false e]
theorem key_lr (a : Int) (b : Str) : decide ((Sum.inl a : Key) = Sum.inr b) = false := decide_eq_false (fun q => nomatch q)
theorem key_rl (a : Str) (b : Int) : decide ((Sum.inr a : Key) = Sum.inl b) = false := decide_eq_false (fun q => nomatch q)

def mixKind (prog : Program) (w : World) : PySem.KeyKind prog w Key where
  is := keyIs
  hash := keyH w
  inj := fun v a b ha hb => by
    rcases keyIs_shape ha with ⟨i, t, rfl, rfl⟩ | ⟨x, t, rfl, rfl⟩
    · rcases keyIs_shape hb with ⟨j, u, rfl, e⟩ | ⟨y, u, rfl, e⟩
      · injection e with e1 _; rw [e1]
      · exact nomatch e
    · rcases keyIs_shape hb with ⟨j, u, rfl, e⟩ | ⟨y, u, rfl, e⟩
      · exact nomatch e
      · injection e with e1 _; rw [e1]
  byValue := fun k v h => by
    rcases keyIs_shape h with ⟨i, t, rfl, rfl⟩ | ⟨x, t, rfl, rfl⟩ <;> rfl
  pyHash := fun hv h => by
    rcases keyIs_shape hv with ⟨i, t, rfl, rfl⟩ | ⟨x, t, rfl, rfl⟩
    · exact wpAny_pyHash_int h
    · exact wpAny_pyHash_str h
  eqBool := fun hu hv h => by
    rcases keyIs_shape hu with ⟨i, t, rfl, rfl⟩ | ⟨x, t, rfl, rfl⟩
    · rcases keyIs_shape hv with ⟨j, u, rfl, rfl⟩ | ⟨y, u, rfl, rfl⟩
      · rw [key_ll] at h; exact wpAny_eqBool_int h
      · rw [key_lr] at h; exact SeqAt.EqAt.int_str i t y u _ _ _ _ h
    · rcases keyIs_shape hv with ⟨j, u, rfl, rfl⟩ | ⟨y, u, rfl, rfl⟩
      · rw [key_rl] at h; exact SeqAt.EqAt.str_int x t j u _ _ _ _ h
      · rw [key_rr] at h; exact wpAny_eqBool_str h
  «strs» := fun k x t v h => by
    rcases keyIs_shape h with ⟨i, u, rfl, e⟩ | ⟨y, u, rfl, e⟩
    · exact nomatch e
    · injection e with e1 _
      subst e1
      cases v <;> rfl

end L2

namespace L2
open PySem PySem.Spec PyProof.Rows

/-- a value, without the heap -/
inductive V where
  | non | bl (b : Bool) | int (i : Int) | str (x : Str) | byt (b : Array UInt8) | flt (b : UInt64) | ref (a : Addr) | ty (n : String)
  deriving DecidableEq

def RelV : V → Value → Prop
  | .non, u => u = Value.none
  | .bl b, u => u = Value.bool b
  | .int i, u => ∃ t, u = Value.int i t
  | .str x, u => ∃ t, u = Value.str x t
  | .byt b, u => ∃ t, u = Value.bytes b t
  | .flt b, u => ∃ t, u = Value.float b t
  | .ref a, u => u = Value.ref a
  | .ty n, u => u = Value.type n

abbrev Vals : List V → List Value → Prop := Paired RelV
theorem Vals.length {xs : List V} {us : List Value} (r : Vals xs us) : xs.length = us.length := Paired.length r
theorem Vals.get : ∀ {xs : List V} {us : List Value} {i : Nat} {x : V}, Vals xs us → xs[i]? = some x → ∃ u, us[i]? = some u ∧ RelV x u
  | _, _, _, _, .nil, e => by simp at e
  | _, _, 0, _, .cons r _, e => by simp at e; subst e; exact ⟨_, rfl, r⟩
  | _, _, i + 1, x, .cons _ t, e => by
    obtain ⟨u, h1, h2⟩ := Vals.get (i := i) (x := x) t (by simpa using e)
    exact ⟨u, by simpa using h1, h2⟩
theorem Vals.append : ∀ {xs ys : List V} {us ws : List Value}, Vals xs us → Vals ys ws → Vals (xs ++ ys) (us ++ ws)
  | _, _, _, _, .nil, s => s
  | _, _, _, _, .cons r t, s => .cons r (Vals.append t s)
theorem Vals.take : ∀ {xs : List V} {us : List Value} (n : Nat), Vals xs us → Vals (xs.take n) (us.take n)
  | _, _, 0, _ => .nil
  | _, _, _ + 1, .nil => .nil
  | _, _, n + 1, .cons r t => .cons r (Vals.take n t)
theorem Vals.drop : ∀ {xs : List V} {us : List Value} (n : Nat), Vals xs us → Vals (xs.drop n) (us.drop n)
  | _, _, 0, r => r
  | _, _, _ + 1, .nil => .nil
  | _, _, n + 1, .cons _ t => Vals.drop n t

def RelO : Option V → Option Value → Prop
  | some v, some u => RelV v u
  | none, none => True
  | _, _ => False
def KV {κ : Type} : List (κ × V) → List (κ × Value) → Prop := Paired fun (p : κ × V) (q : κ × Value) => p.1 = q.1 ∧ RelV p.2 q.2

/-- a key of a dict (00_mix): an int or a text -/
def kV : Key → V
  | .inl i => .int i
  | .inr x => .str x

/-- what stands at a tracked address -/
inductive HO where
  /-- a list -/
  | lst (xs : List V)
  /-- a tuple (never changes) -/
  | tup (xs : List V)
  /-- a dict whose keys are ints and texts; one whose keys are tuples of ints and texts (the empty one is both) -/
  | dK (kvs : List (Key × V)) | dT (kvs : List (List Key × V))
  /-- a set of ints: its members, its size -/
  | set (S : Int → Bool) (n : Nat)
  /-- an instance of the class at C, its dict at dx, its attributes -/
  | ins (C dx : Addr) (fs : List (Str × V))
  /-- the dict of the instance at x -/
  | own (x : Addr)
  /-- the dict of an exception -/
  | xd (fs : List (Str × V))
  /-- a bound method, f of x -/
  | met (f x : Addr)
  /-- a range object lo, lo + 1, .. below hi -/
  | rng (lo hi : Int)
  /-- a thing that is known to the object (the script; a dict while a loop walks it): read, never written while it is so -/
  | frz (o : Obj) (u : HO)
  /-- a code object's table -/
  | tbl (ps : Array Value)
  /-- any other thing, by what is true of its one object (a def of one's own: SetO a S n := HO.ext fun h => ..) -/
  | ext (φ : Heap → Prop)

abbrev Hp := Addr → Option HO
def upd (H : Hp) (a : Addr) (o : HO) : Hp := fun b => if b = a then some o else H b
theorem upd_same {H : Hp} {a : Addr} {o : HO} : upd H a o a = some o := by unfold upd; rw [if_pos rfl]
theorem upd_ne {H : Hp} {a b : Addr} {o : HO} (h : b ≠ a) : upd H a o b = H b := by unfold upd; rw [if_neg h]
theorem upd_upd {H : Hp} {a : Addr} {o u : HO} : upd (upd H a o) a u = upd H a u := by
  funext b; unfold upd; split <;> rfl
/-- two objects of different content stand apart -/
theorem ne_of {H : Hp} {a b : Addr} {o u : HO} (h : H a = some o) (h' : H b = some u) (d : o ≠ u) : a ≠ b := by
  intro e; subst e; rw [h] at h'; exact d (Option.some.inj h')
theorem ne_of_none {H : Hp} {a b : Addr} {o : HO} (h : H a = some o) (h' : H b = none) : a ≠ b := by
  intro e; subst e; rw [h] at h'; cases h'

section
variable (P : Program) (w : World)
def ObjOk (H : Hp) (h : Heap) (a : Addr) : HO → Prop
  | .lst xs => xs.length ≤ sizeLine ∧ ∃ (its : List Value) (n : Nat), Vals xs its ∧ h.get? a = some { cls := .type "list", data := .seq its.toArray n }
  | .tup xs => xs.length ≤ sizeLine ∧ ∃ its : List Value, Vals xs its ∧ IsTup h a its.toArray
  | .dK kvs => kvs.length ≤ sizeLine ∧ (a == sysModules) = false ∧ ∃ vs, KV kvs vs ∧ h.DictOf (mixKind P w) a vs
  | .dT kvs => kvs.length ≤ sizeLine ∧ (a == sysModules) = false ∧ ∃ xs : List (List Key × Addr × Value),
      Paired (fun (p : List Key × V) (q : List Key × Addr × Value) => p.1 = q.1 ∧ H q.2.1 = some (.tup (p.1.map kV)) ∧ RelV p.2 q.2.2) kvs xs ∧
      ∃ o es ep, h.get? a = some o ∧ o.ExactDict ∧ o.data = .dict es ep ∧ es.toList = xs.map (entryOfKey (tupleKind (mixKind P w))) ∧ (xs.map (·.1)).Nodup
  | .set S n => h.SetOf (intKind P w) a S n
  | .ins C dx fs => H dx = some (.own a) ∧ fs.length ≤ 1000 ∧ dx ≠ a ∧ h.get? a = some (PySem.W.instObj C dx) ∧
      ∃ mA, h.Ns1 dx mA ∧ (∀ f, RelO (fs.lookup f) (mA f)) ∧ PySem.Within mA (fs.map (·.1))
  | .own _ => ∃ o, h.get? a = some o
  | .xd fs => ∃ mA, h.Ns1 a mA ∧ ∀ f, RelO (fs.lookup f) (mA f)
  | .rng lo hi => ∃ t u v, h.get? a = some { cls := .type "range", data := .fields #[.int lo t, .int hi u, .int 1 v] }
  | .frz o u => h.get? a = some o ∧ ObjOk H h a u
  | .tbl ps => h.get? a = some { cls := .none, data := .fields ps }
  | .met f x => h.get? a = some (PySem.W.methodObj (.ref f) (.ref x))
  | .ext φ => φ h ∧ (∃ o, h.get? a = some o) ∧ ∀ h1 h2 : Heap, φ h1 → (∀ o, h1.get? a = some o → h2.get? a = some o) → φ h2
/-- the abstract heap is held -/
def HOk (H : Hp) (h : Heap) : Prop := ∀ a o, H a = some o → ObjOk P w H h a o
end

section
variable {P : Program} {w : World} {H H' : Hp} {h h' : Heap} {a : Addr} {o : HO}
theorem ObjOk.lt (x : ObjOk P w H h a o) : a < h.objs.size := by
  cases o with
  | lst xs => obtain ⟨_, _, _, _, e⟩ := x; exact Heap.lt_size e
  | tup xs => obtain ⟨_, _, _, p⟩ := x; exact p.lt
  | dK kvs => obtain ⟨_, _, _, _, o, _, _, e, _⟩ := x; exact Heap.lt_size e
  | dT kvs => obtain ⟨_, _, _, _, o, _, _, e, _⟩ := x; exact Heap.lt_size e
  | set S n => obtain ⟨o, _, _, _, e, _⟩ := x; exact Heap.lt_size e
  | ins C dx fs => obtain ⟨_, _, _, e, _⟩ := x; exact Heap.lt_size e
  | own y => obtain ⟨_, e⟩ := x; exact Heap.lt_size e
  | xd fs => obtain ⟨_, ⟨_, _, _, e, _⟩, _⟩ := x; exact Heap.lt_size e
  | rng lo hi => obtain ⟨_, _, _, e⟩ := x; exact Heap.lt_size e
  | frz ob u => obtain ⟨e, _⟩ := x; exact Heap.lt_size e
  | tbl ps => exact Heap.lt_size (show h.get? a = some _ from x)
  | met f y => exact Heap.lt_size (show h.get? a = some _ from x)
  | ext φ => obtain ⟨_, ⟨_, e⟩, _⟩ := x; exact Heap.lt_size e
theorem Paired.mapP {α β : Type} {F G : α → β → Prop} : ∀ {l₁ : List α} {l₂ : List β}, Paired F l₁ l₂ → (∀ a b, F a b → G a b) → Paired G l₁ l₂
  | _, _, .nil, _ => .nil
  | _, _, .cons r t, f => .cons (f _ _ r) (Paired.mapP t f)
/-- what an object's description leans on: its own object, its own dict, the tuples -/
theorem ObjOk.stay (x : ObjOk P w H h a o) (k : ∀ b u, (b = a ∨ H b = some (.own a)) → h.get? b = some u → h'.get? b = some u)
    (ho : ∀ b, H b = some (.own a) → H' b = some (.own a)) (ht : ∀ b xs, H b = some (.tup xs) → H' b = some (.tup xs)) : ObjOk P w H' h' a o := by
  induction o with
  | lst xs => obtain ⟨z, its, n, r, e⟩ := x; exact ⟨z, its, n, r, k _ _ (.inl rfl) e⟩
  | tup xs => obtain ⟨z, its, r, ob, e, c⟩ := x; exact ⟨z, its, r, ob, k _ _ (.inl rfl) e, c⟩
  | dK kvs => obtain ⟨z, y, vs, r, ob, es, ep, e, c⟩ := x; exact ⟨z, y, vs, r, ob, es, ep, k _ _ (.inl rfl) e, c⟩
  | dT kvs =>
    obtain ⟨z, y, xs, r, ob, es, ep, e, c⟩ := x
    exact ⟨z, y, xs, Paired.mapP r fun p q z => ⟨z.1, ht _ _ z.2.1, z.2.2⟩, ob, es, ep, k _ _ (.inl rfl) e, c⟩
  | set S n => obtain ⟨ob, es, ep, t, e, c⟩ := x; exact ⟨ob, es, ep, t, k _ _ (.inl rfl) e, c⟩
  | ins C dx fs =>
    obtain ⟨d, z, ne, e, mA, ⟨od, es, ep, e2, c⟩, r⟩ := x
    exact ⟨ho _ d, z, ne, k _ _ (.inl rfl) e, mA, ⟨od, es, ep, k _ _ (.inr d) e2, c⟩, r⟩
  | own y => obtain ⟨ob, e⟩ := x; exact ⟨ob, k _ _ (.inl rfl) e⟩
  | xd fs => obtain ⟨mA, ⟨od, es, ep, e, c⟩, r⟩ := x; exact ⟨mA, ⟨od, es, ep, k _ _ (.inl rfl) e, c⟩, r⟩
  | rng lo hi => obtain ⟨t, u, v, e⟩ := x; exact ⟨t, u, v, k _ _ (.inl rfl) e⟩
  | frz ob u ih => obtain ⟨e, q⟩ := x; exact ⟨k _ _ (.inl rfl) e, ih q⟩
  | tbl ps =>
    have e : h.get? a = some { cls := .none, data := .fields ps } := x
    show h'.get? a = some { cls := .none, data := .fields ps }
    exact k a _ (.inl rfl) e
  | met f y =>
    have e : h.get? a = some (PySem.W.methodObj (.ref f) (.ref y)) := x
    show h'.get? a = some (PySem.W.methodObj (.ref f) (.ref y))
    exact k a _ (.inl rfl) e
  | ext φ => obtain ⟨p, ⟨o, e⟩, st⟩ := x; exact ⟨st _ _ p fun o q => k _ _ (.inl rfl) q, ⟨o, k _ _ (.inl rfl) e⟩, st⟩
theorem HOk.lt (x : HOk P w H h) (e : H a = some o) : a < h.objs.size := (x a o e).lt
theorem HOk.fresh (x : HOk P w H h) (e : h.objs.size ≤ a) : H a = none := by
  cases q : H a with
  | none => rfl
  | some u => exact absurd (Nat.lt_of_lt_of_le (x.lt q) e) (Nat.lt_irrefl _)
/-- every object of the heap is kept -/
theorem HOk.kept (x : HOk P w H h) (k : ∀ b u, h.get? b = some u → h'.get? b = some u) : HOk P w H h' := fun a o e =>
  (x a o e).stay (fun b u _ q => k b u q) (fun _ q => q) fun _ _ q => q
/-- a new object is laid and tracked -/
theorem HOk.laid (x : HOk P w H h) (k : ∀ b u, h.get? b = some u → h'.get? b = some u) (hp : h.objs.size ≤ a) (new : ObjOk P w (upd H a o) h' a o) : HOk P w (upd H a o) h' := fun b u e => by
  have hn := x.fresh hp
  by_cases hb : b = a
  · subst hb; rw [upd_same] at e; cases e; exact new
  · rw [upd_ne hb] at e
    exact (x b u e).stay (fun c v _ q => k c v q) (fun c q => by rw [upd_ne (ne_of_none q hn)]; exact q) fun c xs q => by rw [upd_ne (ne_of_none q hn)]; exact q
end

/-- what may be read as u: it is u, or a known u -/
def Rd (H : Hp) (a : Addr) (u : HO) : Prop := H a = some u ∨ ∃ o, H a = some (.frz o u)
theorem Rd.ok {P : Program} {w : World} {H : Hp} {h : Heap} {a : Addr} {u : HO} (r : Rd H a u) (x : HOk P w H h) : ObjOk P w H h a u := by
  rcases r with r | ⟨o, r⟩
  · exact x a u r
  · obtain ⟨_, q⟩ := x a _ r
    exact q
/-- what may be written -/
def Mut : Option HO → Prop
  | some (.lst _) => True
  | some (.dK _) => True
  | some (.dT _) => True
  | some (.set _ _) => True
  | some (.ins _ _ _) => True
  | some (.ext _) => True
  | _ => False
section
variable {P : Program} {w : World} {H : Hp} {h h' : Heap} {x e : Addr} {o' : HO}
/-- the object at e is changed: x itself, or the dict of the instance x -/
theorem HOk.write (ok : HOk P w H h) (mu : Mut (H x)) (he : e = x ∨ H e = some (.own x)) (k : ∀ b u, b ≠ e → h.get? b = some u → h'.get? b = some u) (heo : ∃ u, h'.get? e = some u)
    (new : ObjOk P w (upd H x o') h' x o') : HOk P w (upd H x o') h' := fun b u q => by
  have nown : ∀ c y, H c = some (.own y) → c ≠ x := fun c y r z => by subst z; rw [r] at mu; exact mu
  have ntup : ∀ c xs, H c = some (.tup xs) → c ≠ x := fun c xs r z => by subst z; rw [r] at mu; exact mu
  by_cases hb : b = x
  · subst hb; rw [upd_same] at q; cases q; exact new
  · rw [upd_ne hb] at q
    by_cases hbe : b = e
    · have q' : H b = some (.own x) := by
        rcases he with z | z
        · exact absurd (hbe.trans z) hb
        · rw [hbe]; exact z
      rw [q] at q'; cases q'
      obtain ⟨v, hv⟩ := heo
      exact ⟨v, by rw [hbe]; exact hv⟩
    · refine (ok b u q).stay (fun c v hc r => k c v ?_ r) (fun c r => by rw [upd_ne (nown c b r)]; exact r) fun c xs r => by rw [upd_ne (ntup c xs r)]; exact r
      rcases hc with rfl | hc
      · exact hbe
      · rintro rfl
        rcases he with z | z
        · exact nown c b hc z
        · rw [hc] at z; cases z; exact hb rfl
end

/-! ### kept unless tracked; of the frames at fs (the callers') the slots may change (an exception that passes writes there); of the records at ex (iterators) nothing is said -/
structure Un (fs ex : List Addr) (H H' : Hp) (h h' : Heap) : Prop where
  keep : ∀ b o, h.get? b = some o → H b = none → b ∉ fs → b ∉ ex → h'.get? b = some o
  slot : ∀ b o, h.get? b = some o → H b = none → b ∈ fs → b ∉ ex → ∃ sl, h'.get? b = some { o with slots := sl }
  free : ∀ b o, h.get? b = some o → H b = none → b ∉ ex → H' b = none
  there : ∀ b o, h.get? b = some o → b ∉ ex → ∃ o', h'.get? b = some o'
  tups : ∀ b xs, H b = some (.tup xs) → H' b = some (.tup xs)
  frzs : ∀ b o u, H b = some (.frz o u) → H' b = some (.frz o u)
  tbls : ∀ b ps, H b = some (.tbl ps) → ∃ more, H' b = some (.tbl (ps ++ more))
section
variable {fs fs' ex ex' : List Addr} {H H1 H2 : Hp} {h h1 h2 h' : Heap} {a x e : Addr} {o : HO}
theorem Un.any (u : Un fs ex H H1 h h1) {b : Addr} {ob : Obj} (q : h.get? b = some ob) (n : H b = none) (hx : b ∉ ex) : ∃ sl, h1.get? b = some { ob with slots := sl } := by
  by_cases hb : b ∈ fs
  · exact u.slot b ob q n hb hx
  · exact ⟨ob.slots, u.keep b ob q n hb hx⟩
theorem Un.kept (k : ∀ b u, h.get? b = some u → h'.get? b = some u) : Un fs ex H H h h' :=
  ⟨fun b ob q _ _ _ => k b ob q, fun b ob q _ _ _ => ⟨ob.slots, k b ob q⟩, fun _ _ _ n _ => n, fun b ob q _ => ⟨ob, k b ob q⟩, fun _ _ q => q, fun _ _ _ q => q, fun _ ps q => ⟨#[], by rw [q]; simp⟩⟩
theorem Un.refl : Un fs ex H H h h := Un.kept fun _ _ q => q
theorem Un.laid (k : ∀ b u, h.get? b = some u → h'.get? b = some u) (hp : h.objs.size ≤ a) (hn : H a = none) : Un fs ex H (upd H a o) h h' where
  keep := fun b u q _ _ _ => k b u q
  slot := fun b u q _ _ _ => ⟨u.slots, k b u q⟩
  free := fun b u q n _ => by rw [upd_ne (Nat.ne_of_lt (Nat.lt_of_lt_of_le (Heap.lt_size q) hp))]; exact n
  there := fun b u q _ => ⟨u, k b u q⟩
  tups := fun b xs q => by rw [upd_ne (ne_of_none q hn)]; exact q
  frzs := fun b u xs q => by rw [upd_ne (ne_of_none q hn)]; exact q
  tbls := fun b ps q => ⟨#[], by rw [upd_ne (ne_of_none q hn), q]; simp⟩
theorem Un.write (mu : Mut (H x)) (he : e = x ∨ H e = some (.own x)) (k : ∀ b u, b ≠ e → h.get? b = some u → h'.get? b = some u) (heo : ∃ u, h'.get? e = some u) : Un fs ex H (upd H x o) h h' := by
  have hx : ∀ b, H b = none → b ≠ x := fun b n z => by subst z; rw [n] at mu; exact mu
  have hb : ∀ b, H b = none → b ≠ e := fun b n z => by
    subst z
    rcases he with r | r
    · exact hx b n r
    · rw [n] at r; cases r
  have hm : ∀ b u, H b = some u → ¬ Mut (some u) → b ≠ x := fun b u q nm z => by subst z; rw [q] at mu; exact nm mu
  refine ⟨fun b u q n _ _ => k b u (hb b n) q, fun b u q n _ _ => ⟨u.slots, k b u (hb b n) q⟩, fun b u q n _ => by rw [upd_ne (hx b n)]; exact n, fun b u q _ => ?_,
    fun b xs q => by rw [upd_ne (hm b _ q fun z => z)]; exact q, fun b u xs q => by rw [upd_ne (hm b _ q fun z => z)]; exact q, fun b ps q => ⟨#[], by rw [upd_ne (hm b _ q fun z => z), q]; simp⟩⟩
  by_cases hbe : b = e
  · subst hbe; exact heo
  · exact ⟨u, k b u hbe q⟩
end

/-! ### the heap without what is tracked -/
def trk (h : Heap) (H : Hp) : List Addr := (List.range h.objs.size).filter fun a => (H a).isSome
def hidT (h : Heap) (H : Hp) : Heap := PySem.W.hideAll h (trk h H)
theorem hidT_size (h : Heap) (H : Hp) : (hidT h H).objs.size = h.objs.size := PySem.W.hideAll_size _ _
theorem hidT_get {h : Heap} {H : Hp} {b : Addr} {o : Obj} (e : h.get? b = some o) (n : H b = none) : (hidT h H).get? b = some o :=
  PySem.W.hideAll_get _ e fun hm => by
    have q : (H b).isSome = true := (List.mem_filter.mp hm).2
    rw [n] at q; simp at q
theorem of_hidT {h : Heap} {H : Hp} {b : Addr} {o : Obj} (e : (hidT h H).get? b = some o) : h.get? b = some o ∧ H b = none := by
  have e' : h.get? b = some o := PySem.W.of_hideAll (trk h H) e
  refine ⟨e', ?_⟩
  cases q : H b with
  | none => rfl
  | some x =>
    have hm : b ∈ trk h H := List.mem_filter.mpr ⟨List.mem_range.mpr (Heap.lt_size e'), by simp [q]⟩
    have z : (hidT h H).get? b = none := PySem.W.hideAll_none (trk h H) hm
    rw [z] at e; cases e

/-! ### OpenK's ledger, filled with every new object but one -/
end L2

namespace L2
open PySem PySem.Spec PyProof.Rows

/-- the module's facts, over the base: the heap at the law's entry without what is tracked there -/
structure Mod (K : PySem.W.Frag) (mg : Str → Option Value) (base : Heap) : Prop where
  kin : K.In base
  glob : base.Ns mainGlobals mg
  blt : ∃ mb, base.Ns builtinsNs mb ∧ ∀ x : Str, x ≠ "__name__" → mb x = bootBuiltins x
  nolimit : base.NoLimit

/-- the context: a def's body (or a comprehension's block) running. base: fixed through the whole law; s₀, H₀: the entry; outer: the frames whose slots others may change (a def's callers); stack: all frames that run;
   ex: iterators that were made ahead of the entry and are walked here (a comprehension's); fn: the names whose cells were made at the entry (a def: all; a comprehension's block: its own); calm: not within an except suite; pn: pins that every state bears; xe: what is wanted of an exception that leaves the code -/
structure Cx where
  prog : Program
  w : World
  K : PySem.W.Frag
  mg : Str → Option Value
  base : Heap
  A : Around
  N : List Str
  s_0 : Shared
  H_0 : Hp
  env : Env
  outer : List Env
  stack : List Env
  ex : List Addr
  fn : Str → Bool
  calm : Bool
  pn : List (Addr × Obj)
  xe : Value → Shared → Prop
/-- the callers' frames -/
def frs (l : List Env) : List Addr := l.filterMap (·.frame)
abbrev Cx.fs (X : Cx) : List Addr := frs X.outer

def Vis (sc : Scope) (x : Str) : Prop := sc.names.lookup x = some .local ∨ sc.names.lookup x = some .cell ∨ sc.names.lookup x = some .free
def Loc (sc : Scope) (x : Str) : Prop := sc.names.lookup x = some .local ∨ sc.names.lookup x = some .cell
def Look (env : Env) (h : Heap) (m : Str → Option Value) (x : Str) (u : Value) : Prop :=
  (env.kindOf x = some .local ∧ m x = some u) ∨ ((env.kindOf x = some .cell ∨ env.kindOf x = some .free) ∧ ∃ c, env.cells.lookup x = some c ∧ h.IsCell c (some u))

structure Cx.Ok (X : Cx) : Prop where
  mod : Mod X.K X.mg X.base
  kind : X.env.scope.kind = .function
  glob : X.env.globals = mainGlobals
  blt : X.env.builtins = builtinsNs
  above : X.s_0.heap.objs.size ≤ X.env.locals
  inj : ∀ x y c, X.env.cells.lookup x = some c → X.env.cells.lookup y = some c → x = y
  has : ∀ x, (X.env.kindOf x = some .cell ∨ X.env.kindOf x = some .free) → ∃ c, X.env.cells.lookup x = some c
  cab : ∀ x c, X.fn x = true → X.env.cells.lookup x = some c → X.s_0.heap.objs.size ≤ c
  hd : X.calm = true → X.A.handled = none
  frames : X.A.frames = some X.stack
  stk : X.stack = X.outer ∨ (X.stack = X.env :: X.outer ∧ X.env.frame = some X.env.locals)
  exf : ∀ b ∈ X.ex, b ≠ X.env.locals ∧ ∀ x c, X.env.cells.lookup x = some c → c ≠ b
  bs : ∀ b o, X.base.get? b = some o → X.s_0.heap.get? b = some o ∧ X.H_0 b = none
  bsz : X.base.objs.size ≤ X.s_0.heap.objs.size
  noex : ∀ b o, X.base.get? b = some o → b ∉ X.ex
  exfs : ∀ b ∈ X.ex, b ∉ X.fs
  funs : X.s_0.heap.FunFrames X.base X.outer
  frf : ∀ b ∈ X.fs, X.H_0 b = none

structure Inv (X : Cx) (pins : List (Addr × Obj)) (σ : List (Option V)) (H : Hp) (s : Shared) : Prop where
  ok : X.Ok
  os : s.os = X.s_0.os
  bare : AllBare s.gens
  base : Un X.fs X.ex X.H_0 H X.s_0.heap s.heap
  loc : ∃ m, s.heap.Ns X.env.locals m ∧ ∀ (i : Nat) (x : Str) (v : V), X.N[i]? = some x → σ[i]? = some (some v) → Vis X.env.scope x → ∃ u, RelV v u ∧ Look X.env s.heap m x u
  cell : ∀ x c, X.env.cells.lookup x = some c → ∃ v, s.heap.IsCell c v
  free : H X.env.locals = none
  freeC : ∀ x c, X.env.cells.lookup x = some c → H c = none
  pin : ∀ p ∈ X.pn ++ pins, s.heap.get? p.1 = some p.2 ∧ H p.1 = none ∧ p.1 ≠ X.env.locals ∧ p.1 ∉ X.fs ∧ ∀ v, p.2.data ≠ .cell v
  hok : HOk X.prog X.w H s.heap
  len : σ.length = X.N.length

section
variable {X : Cx} {pins : List (Addr × Obj)} {σ : List (Option V)} {H H' : Hp} {s : Shared} {h' : Heap}

theorem Cx.Ok.nofr (ok : X.Ok) {b : Addr} {o : Obj} (e : X.base.get? b = some o) : b ∉ X.fs := fun hb => by
  have := (ok.funs.mem hb).1
  rw [e] at this; cases this
theorem Inv.bs (I : Inv X pins σ H s) : ∀ b o, X.base.get? b = some o → s.heap.get? b = some o ∧ H b = none := fun b o e =>
  ⟨I.base.keep b o (I.ok.bs b o e).1 (I.ok.bs b o e).2 (I.ok.nofr e) (I.ok.noex b o e), I.base.free b o (I.ok.bs b o e).1 (I.ok.bs b o e).2 (I.ok.noex b o e)⟩
theorem Inv.bk (I : Inv X pins σ H s) : ∀ b o, X.base.get? b = some o → s.heap.get? b = some o := fun b o e => (I.bs b o e).1
theorem Inv.mod (I : Inv X pins σ H s) : Mod X.K X.mg X.base := I.ok.mod
theorem Inv.kIn (I : Inv X pins σ H s) : X.K.In s.heap := I.ok.mod.kin.keeps I.bk
theorem Inv.lt (I : Inv X pins σ H s) : X.env.locals < s.heap.objs.size := let ⟨_, hn, _⟩ := I.loc; hn.lt
theorem Inv.sz (I : Inv X pins σ H s) : X.s_0.heap.objs.size ≤ s.heap.objs.size := Nat.le_trans I.ok.above (Nat.le_of_lt I.lt)
theorem Inv.nofs (I : Inv X pins σ H s) {a : Addr} (h : s.heap.objs.size ≤ a) : a ∉ X.fs := fun hb => by
  obtain ⟨_, o, ho, _⟩ := I.ok.funs.mem hb
  exact absurd (Nat.lt_of_lt_of_le (Heap.lt_size ho) (Nat.le_trans I.sz h)) (Nat.lt_irrefl _)
theorem Inv.cne (I : Inv X pins σ H s) : ∀ x c, X.env.cells.lookup x = some c → c ≠ X.env.locals := fun x c e z => by
  obtain ⟨v, o, ho, hd⟩ := I.cell x c e
  obtain ⟨m, ⟨o', es, ep, ho', hd', _⟩, _⟩ := I.loc
  rw [z, ho'] at ho; cases ho; rw [hd'] at hd; cases hd
theorem Inv.funs (I : Inv X pins σ H s) : s.heap.FunFrames X.base X.outer := by
  have all : ∀ (l : List Env), (∀ b ∈ frs l, b ∈ X.fs) → X.s_0.heap.FunFrames X.base l → s.heap.FunFrames X.base l := by
    intro l
    induction l with
    | nil => intro _ _; trivial
    | cons env r ih =>
      intro hs hl
      obtain ⟨hk, ⟨L, o, hf, hn, ho, hd⟩, hr⟩ := hl
      have hL : L ∈ X.fs := hs L (by unfold frs; rw [List.filterMap_cons, hf]; exact List.mem_cons_self)
      obtain ⟨sl, e⟩ := I.base.slot L o ho (I.ok.frf L hL) hL fun z => I.ok.exfs L z hL
      exact ⟨hk, ⟨L, _, hf, hn, e, hd⟩, ih (fun b hb => hs b (by unfold frs; rw [List.filterMap_cons, hf]; exact List.mem_cons_of_mem _ hb)) hr⟩
  exact all X.outer (fun _ hb => hb) I.ok.funs

/-- the frames that run, for a call -/
theorem Inv.stack (I : Inv X pins σ H s) : s.heap.FunFrames X.base X.stack := by
  rcases I.ok.stk with e | ⟨e, hf⟩
  · rw [e]; exact I.funs
  · rw [e]
    obtain ⟨m, hn, _⟩ := I.loc
    refine .cons (by rw [I.ok.kind]; decide) hf hn ?_ I.funs
    exact Heap.get?_none_of_le (Nat.le_trans I.ok.bsz I.ok.above)
theorem Inv.stkSub (I : Inv X pins σ H s) : ∀ b ∈ frs X.stack, b ∈ X.env.locals :: X.fs := fun b hb => by
  rcases I.ok.stk with e | ⟨e, hf⟩
  · rw [e] at hb; exact List.mem_cons_of_mem _ hb
  · rw [e] at hb
    unfold frs at hb
    rw [List.filterMap_cons, hf] at hb
    exact hb
theorem Inv.stkFree (I : Inv X pins σ H s) : ∀ b ∈ frs X.stack, H b = none := fun b hb => by
  rcases List.mem_cons.mp (I.stkSub b hb) with e | hb
  · rw [e]; exact I.free
  · obtain ⟨_, o, ho, _⟩ := I.ok.funs.mem hb
    exact I.base.free b o ho (I.ok.frf b hb) fun z => I.ok.exfs b z hb

/-- THE STEP: the untracked objects but the frame and the records at ch are kept (the callers' frames up to slots), the frame's map is kept, the new abstract heap is held -/
theorem Inv.step {g' : Array GenState} {t' : Nat} {d' : Drawn} {ch : List Addr} (I : Inv X pins σ H s)
    (hch : ∀ b ∈ ch, (b ∈ X.ex ∨ X.s_0.heap.objs.size ≤ b) ∧ b ≠ X.env.locals ∧ (∀ x c, X.env.cells.lookup x = some c → c ≠ b) ∧ ∀ p ∈ X.pn ++ pins, p.1 ≠ b)
    (keep : ∀ b o, b ≠ X.env.locals → b ∉ X.fs → b ∉ ch → s.heap.get? b = some o → H b = none → h'.get? b = some o)
    (slot : ∀ b o, b ≠ X.env.locals → b ∈ X.fs → b ∉ ch → s.heap.get? b = some o → H b = none → ∃ sl, h'.get? b = some { o with slots := sl }) (free : ∀ b o, b ∉ ch → s.heap.get? b = some o → H b = none → H' b = none)
    (there : ∀ b o, b ∉ ch → s.heap.get? b = some o → ∃ o', h'.get? b = some o')
    (tups : ∀ b xs, H b = some (.tup xs) → H' b = some (.tup xs)) (frzs : ∀ b o u, H b = some (.frz o u) → H' b = some (.frz o u)) (tbls : ∀ b ps, H b = some (.tbl ps) → ∃ more, H' b = some (.tbl (ps ++ more)))
    (ns : ∀ m, s.heap.Ns X.env.locals m → h'.Ns X.env.locals m) (hok : HOk X.prog X.w H' h') (hg : AllBare g') :
    Inv X pins σ H' { s with heap := h', gens := g', drawn := d', toks := t' } := by
  have neL : ∀ b o, X.s_0.heap.get? b = some o → b ≠ X.env.locals := fun b o e => Nat.ne_of_lt (Nat.lt_of_lt_of_le (Heap.lt_size e) I.ok.above)
  have neC : ∀ b o, X.s_0.heap.get? b = some o → b ∉ X.ex → b ∉ ch := fun b o e hx hb => by
    rcases (hch b hb).1 with z | z
    · exact hx z
    · exact absurd (Nat.lt_of_lt_of_le (Heap.lt_size e) z) (Nat.lt_irrefl _)
  have cellK : ∀ x c, X.env.cells.lookup x = some c → ∀ v, s.heap.IsCell c v → h'.IsCell c v := fun x c e v ⟨o, ho, hd⟩ => by
    have nch : c ∉ ch := fun z => (hch c z).2.2.1 x c e rfl
    by_cases hc : c ∈ X.fs
    · obtain ⟨sl, q⟩ := slot c o (I.cne x c e) hc nch ho (I.freeC x c e)
      exact ⟨_, q, hd⟩
    · exact ⟨o, keep c o (I.cne x c e) hc nch ho (I.freeC x c e), hd⟩
  refine ⟨I.ok, I.os, hg, ⟨fun b o e n hb hx => ?_, fun b o e n hb hx => ?_, fun b o e n hx => ?_, fun b o e hx => ?_, fun b xs e => tups b xs (I.base.tups b xs e), fun b o xs e => frzs b o xs (I.base.frzs b o xs e), fun b ps e => ?_⟩, ?_, fun x c e => ?_, ?_, fun x c e => ?_, fun p hp => ?_, hok, I.len⟩
  · exact keep b o (neL b o e) hb (neC b o e hx) (I.base.keep b o e n hb hx) (I.base.free b o e n hx)
  · obtain ⟨sl, e1⟩ := I.base.slot b o e n hb hx
    obtain ⟨sl', e2⟩ := slot b _ (neL b o e) hb (neC b o e hx) e1 (I.base.free b o e n hx)
    exact ⟨sl', e2⟩
  · obtain ⟨o', e1⟩ := I.base.there b o e hx
    exact free b o' (neC b o e hx) e1 (I.base.free b o e n hx)
  · obtain ⟨o', e1⟩ := I.base.there b o e hx
    exact there b o' (neC b o e hx) e1
  · obtain ⟨m1, e1⟩ := I.base.tbls b ps e
    obtain ⟨m2, e2⟩ := tbls b _ e1
    exact ⟨m1 ++ m2, by rw [e2, Array.append_assoc]⟩
  · obtain ⟨m, hn, hl⟩ := I.loc
    refine ⟨m, ns m hn, fun i x v e1 e2 e3 => ?_⟩
    obtain ⟨u, r, l⟩ := hl i x v e1 e2 e3
    refine ⟨u, r, ?_⟩
    rcases l with l | ⟨k, c, e, z⟩
    · exact .inl l
    · exact .inr ⟨k, c, e, cellK x c e _ z⟩
  · obtain ⟨v, z⟩ := I.cell x c e
    exact ⟨v, cellK x c e v z⟩
  · obtain ⟨m, ⟨o, _, _, ho, _⟩, _⟩ := I.loc
    exact free _ o (fun z => (hch _ z).2.1 rfl) ho I.free
  · obtain ⟨v, o, ho, hd⟩ := I.cell x c e
    exact free c o (fun z => (hch c z).2.2.1 x c e rfl) ho (I.freeC x c e)
  · obtain ⟨e, n, ne, nf, d⟩ := I.pin p hp
    have nch : p.1 ∉ ch := fun z => (hch p.1 z).2.2.2 p hp rfl
    exact ⟨keep p.1 p.2 ne nf nch e n, free p.1 p.2 nch e n, ne, nf, d⟩
/-- .. where the frame's own object is kept too -/
theorem Inv.un {t' : Nat} (I : Inv X pins σ H s) (u : Un X.fs [] H H' s.heap h') (hok : HOk X.prog X.w H' h') : Inv X pins σ H' { s with heap := h', toks := t' } := by
  obtain ⟨m, ⟨o, es, ep, ho, r⟩, _⟩ := id I.loc
  obtain ⟨sl, hL⟩ := u.any ho I.free (by simp)
  exact I.step (g' := s.gens) (d' := s.drawn) (ch := []) (fun _ z => nomatch z) (fun b o _ hb _ e n => u.keep b o e n hb (by simp)) (fun b o _ hb _ e n => u.slot b o e n hb (by simp)) (fun b o _ e n => u.free b o e n (by simp)) (fun b o _ e => u.there b o e (by simp)) u.tups u.frzs u.tbls (fun m' hm => by
    obtain ⟨o', es', ep', ho', r'⟩ := hm
    rw [ho] at ho'; cases ho'
    exact ⟨_, es', ep', hL, r'⟩) hok I.bare
/-- behind a call (or a comprehension's block): the slots of this frame may have changed too, the records at ch may have turned -/
theorem Inv.call {g' : Array GenState} {t' : Nat} {d' : Drawn} {ch : List Addr} (I : Inv X pins σ H s) (u : Un (frs X.stack) ch H H' s.heap h') (hok : HOk X.prog X.w H' h') (hg : AllBare g')
    (hch : ∀ b ∈ ch, (b ∈ X.ex ∨ X.s_0.heap.objs.size ≤ b) ∧ b ≠ X.env.locals ∧ (∀ x c, X.env.cells.lookup x = some c → c ≠ b) ∧ ∀ p ∈ X.pn ++ pins, p.1 ≠ b) :
    Inv X pins σ H' { s with heap := h', gens := g', drawn := d', toks := t' } := by
  obtain ⟨m, ⟨o, es, ep, ho, r⟩, _⟩ := id I.loc
  obtain ⟨sl, hL⟩ := u.any ho I.free fun z => (hch _ z).2.1 rfl
  exact I.step (ch := ch) hch (fun b o hL hb hc e n => u.keep b o e n (fun z => (List.mem_cons.mp (I.stkSub b z)).elim hL hb) hc) (fun b o _ _ hc e n => u.any e n hc) (fun b o hc e n => u.free b o e n hc) (fun b o hc e => u.there b o e hc) u.tups u.frzs u.tbls (fun m' hm => by
    obtain ⟨o', es', ep', ho', r'⟩ := hm
    rw [ho] at ho'; cases ho'
    exact ⟨_, es', ep', hL, r'⟩) hok hg
/-- an untracked record of ours (an iterator) has turned -/
theorem Inv.turned {t' : Nat} {it : Addr} (I : Inv X pins σ H s) (k : ∀ b o, b ≠ it → s.heap.get? b = some o → h'.get? b = some o) (hn : H it = none) (hL : it ≠ X.env.locals)
    (h1 : it ∈ X.ex ∨ X.s_0.heap.objs.size ≤ it) (h2 : ∀ x c, X.env.cells.lookup x = some c → c ≠ it) (h3 : ∀ p ∈ X.pn ++ pins, p.1 ≠ it) : Inv X pins σ H { s with heap := h', toks := t' } := by
  have nit : ∀ b u, H b = some u → b ≠ it := fun b u e z => by rw [z, hn] at e; cases e
  refine I.step (g' := s.gens) (d' := s.drawn) (ch := [it]) (fun b hb => ?_) (fun b o _ _ hc e _ => k b o (fun z => hc (by simp [z])) e) (fun b o _ _ hc e _ => ⟨o.slots, k b o (fun z => hc (by simp [z])) e⟩) (fun _ _ _ _ n => n)
    (fun b o hc e => ⟨o, k b o (fun z => hc (by simp [z])) e⟩) (fun _ _ e => e) (fun _ _ _ e => e) (fun b ps e => ⟨#[], by rw [e]; simp⟩) (fun m hm => ?_) (fun b u e => ?_) I.bare
  · have e : b = it := by simpa using hb
    subst e
    exact ⟨h1, hL, h2, h3⟩
  · obtain ⟨o, es, ep, ho, r⟩ := hm
    exact ⟨o, es, ep, k _ o (Ne.symm hL) ho, r⟩
  · refine (I.hok b u e).stay (fun c v hc q => k c v ?_ q) (fun _ q => q) fun _ _ q => q
    rcases hc with z | z
    · rw [z]; exact nit b u e
    · exact nit c _ z
theorem Inv.tok (I : Inv X pins σ H s) (t : Nat) : Inv X pins σ H { s with toks := t } := I.un (h' := s.heap) (t' := t) Un.refl I.hok
/-- all objects kept -/
theorem Inv.kept {t' : Nat} (I : Inv X pins σ H s) (k : ∀ b u, s.heap.get? b = some u → h'.get? b = some u) : Inv X pins σ H { s with heap := h', toks := t' } := I.un (Un.kept k) (I.hok.kept k)
/-- a new object laid and tracked -/
theorem Inv.laid {a : Addr} {o : HO} {t' : Nat} (I : Inv X pins σ H s) (k : ∀ b u, s.heap.get? b = some u → h'.get? b = some u) (hp : s.heap.objs.size ≤ a) (new : ObjOk X.prog X.w (upd H a o) h' a o) :
    Inv X pins σ (upd H a o) { s with heap := h', toks := t' } := I.un (Un.laid k hp (I.hok.fresh hp)) (I.hok.laid k hp new)
/-- an object written -/
theorem Inv.write {x e : Addr} {o : HO} {t' : Nat} (I : Inv X pins σ H s) (mu : Mut (H x)) (he : e = x ∨ H e = some (.own x)) (k : ∀ b u, b ≠ e → s.heap.get? b = some u → h'.get? b = some u) (heo : ∃ u, h'.get? e = some u)
    (new : ObjOk X.prog X.w (upd H x o) h' x o) : Inv X pins σ (upd H x o) { s with heap := h', toks := t' } := I.un (Un.write mu he k heo) (I.hok.write mu he k heo new)
/-- forgetting slots, pins -/
theorem Inv.weak {σ' : List (Option V)} (I : Inv X pins σ H s) (hl : σ'.length = σ.length) (w : ∀ (i : Nat) v, σ'[i]? = some (some v) → σ[i]? = some (some v)) : Inv X pins σ' H s :=
  ⟨I.ok, I.os, I.bare, I.base, let ⟨m, hn, hl'⟩ := I.loc; ⟨m, hn, fun i x v e1 e2 e3 => hl' i x v e1 (w i v e2) e3⟩, I.cell, I.free, I.freeC, I.pin, I.hok, hl.trans I.len⟩
theorem Inv.pins_of {pins' : List (Addr × Obj)} (I : Inv X pins σ H s) (h : ∀ p ∈ pins', s.heap.get? p.1 = some p.2 ∧ H p.1 = none ∧ p.1 ≠ X.env.locals ∧ p.1 ∉ X.fs ∧ ∀ v, p.2.data ≠ .cell v) : Inv X pins' σ H s :=
  ⟨I.ok, I.os, I.bare, I.base, I.loc, I.cell, I.free, I.freeC, fun p hp => (List.mem_append.mp hp).elim (fun z => I.pin p (List.mem_append_left _ z)) (h p), I.hok, I.len⟩

theorem nodup_ix {N : List Str} (hN : N.Nodup) {i j : Nat} {x : Str} (a : N[i]? = some x) (b : N[j]? = some x) : i = j := by
  obtain ⟨h1, e1⟩ := List.getElem?_eq_some_iff.mp a
  obtain ⟨h2, e2⟩ := List.getElem?_eq_some_iff.mp b
  exact (List.getElem_inj hN).mp (e1.trans e2.symm)

/-- a name is stored; what changed -/
theorem store_ok2 {M : Model} {A : Around} {E : Value → Shared → Prop} {i : Nat} {x : Str} {v : V} {u : Value} {Q : Unit → Shared → Prop} (I : Inv X pins σ H s) (hN : X.N.Nodup) (hi : X.N[i]? = some x) (hx : Loc X.env.scope x) (r : RelV v u)
    (h : ∀ s', Inv X pins (σ.set i (some v)) H s' → (∃ a, Heap.SameBut a s.heap s'.heap ∧ (a = X.env.locals ∨ X.env.cells.lookup x = some a)) → Q () s') (hf : X.fn x = true ∨ X.env.scope.names.lookup x = some .local := by first | exact .inl rfl | exact .inr rfl | assumption) : wpAny M A (storeName X.env x u) Q E s := by
  obtain ⟨m, hn, hl⟩ := id I.loc
  have hcls : (X.env.scope.kind == .class || (X.env.scope.kind == .module && X.env.locals != X.env.globals)) = false := by rw [I.ok.kind]; rfl
  have hiσ : i < σ.length := by rw [I.len]; exact (List.getElem?_eq_some_iff.mp hi).1
  have cne := I.cne
  have tracked : ∀ {a : Addr} {h' : Heap}, (∃ o, s.heap.get? a = some o ∧ H a = none) → Heap.SameBut a s.heap h' → HOk X.prog X.w H h' := fun {a h'} ha hs b ob e => by
    obtain ⟨_, _, hfree⟩ := ha
    refine (I.hok b ob e).stay (fun c w' hc q => (hs.2 c ?_).trans q) (fun _ q => q) fun _ _ q => q
    rintro rfl
    rcases hc with rfl | hc
    · rw [hfree] at e; cases e
    · rw [hfree] at hc; cases hc
  rcases hx with hk | hk
  · refine wpAny_storeName_local hk hn (fun h' hn' hs => ?_) hcls
    obtain ⟨oL, _, _, hoL, _⟩ := id hn
    refine h _ ⟨I.ok, I.os, I.bare, ⟨fun b o e n hb hx => ?_, fun b o e n hb hx => ?_, I.base.free, fun b o e hx => ?_, I.base.tups, I.base.frzs, I.base.tbls⟩, ⟨_, hn', fun j y v' e1 e2 e3 => ?_⟩, fun y c e => ?_, I.free, I.freeC, fun p hp => ?_, tracked ⟨oL, hoL, I.free⟩ hs, by simpa using I.len⟩ ⟨_, hs, .inl rfl⟩
    · exact (hs.2 b (Nat.ne_of_lt (Nat.lt_of_lt_of_le (Heap.lt_size e) I.ok.above))).trans (I.base.keep b o e n hb hx)
    · obtain ⟨sl, e1⟩ := I.base.slot b o e n hb hx
      exact ⟨sl, (hs.2 b (Nat.ne_of_lt (Nat.lt_of_lt_of_le (Heap.lt_size e) I.ok.above))).trans e1⟩
    · obtain ⟨o', e1⟩ := I.base.there b o e hx
      exact ⟨o', (hs.2 b (Nat.ne_of_lt (Nat.lt_of_lt_of_le (Heap.lt_size e) I.ok.above))).trans e1⟩
    · by_cases hj : j = i
      · subst hj
        rw [hi] at e1; cases e1
        rw [List.getElem?_set_self hiσ] at e2
        cases e2
        exact ⟨u, r, .inl ⟨hk, by simp⟩⟩
      · rw [List.getElem?_set_ne (Ne.symm hj)] at e2
        obtain ⟨u', r', q⟩ := hl j y v' e1 e2 e3
        refine ⟨u', r', ?_⟩
        rcases q with ⟨k, e⟩ | ⟨k, c, e, z⟩
        · refine .inl ⟨k, ?_⟩
          have : y ≠ x := fun e => hj (nodup_ix hN e1 (e ▸ hi))
          simp [this, e]
        · exact .inr ⟨k, c, e, z.sameBut hs (cne y c e)⟩
    · obtain ⟨w', z⟩ := I.cell y c e
      exact ⟨w', z.sameBut hs (cne y c e)⟩
    · obtain ⟨e, n, ne, nf, d⟩ := I.pin p hp
      exact ⟨(hs.2 p.1 ne).trans e, n, ne, nf, d⟩
  · have hfn : X.fn x = true := by
      rcases hf with z | z
      · exact z
      · rw [z] at hk; cases hk
    obtain ⟨c, hc⟩ := I.ok.has x (.inl hk)
    obtain ⟨w', z⟩ := I.cell x c hc
    refine wpAny_storeName_cell I.ok.kind hk hc z (fun h' hc' hs => ?_)
    obtain ⟨oc, hoc, hocd⟩ := id z
    refine h { s with heap := h' } ⟨I.ok, I.os, I.bare, ⟨fun b o e n hb hx => ?_, fun b o e n hb hx => ?_, I.base.free, fun b o e hx => ?_, I.base.tups, I.base.frzs, I.base.tbls⟩, ⟨m, hn.sameBut hs (Ne.symm (cne x c hc)), fun j y v' e1 e2 e3 => ?_⟩, fun y c' e => ?_, I.free, I.freeC, fun p hp => ?_, tracked ⟨oc, hoc, I.freeC x c hc⟩ hs, by simpa using I.len⟩ ⟨c, hs, .inr hc⟩
    · exact (hs.2 b (Nat.ne_of_lt (Nat.lt_of_lt_of_le (Heap.lt_size e) (I.ok.cab x c hfn hc)))).trans (I.base.keep b o e n hb hx)
    · obtain ⟨sl, e1⟩ := I.base.slot b o e n hb hx
      exact ⟨sl, (hs.2 b (Nat.ne_of_lt (Nat.lt_of_lt_of_le (Heap.lt_size e) (I.ok.cab x c hfn hc)))).trans e1⟩
    · obtain ⟨o', e1⟩ := I.base.there b o e hx
      exact ⟨o', (hs.2 b (Nat.ne_of_lt (Nat.lt_of_lt_of_le (Heap.lt_size e) (I.ok.cab x c hfn hc)))).trans e1⟩
    · by_cases hj : j = i
      · subst hj
        rw [hi] at e1; cases e1
        rw [List.getElem?_set_self hiσ] at e2
        cases e2
        exact ⟨u, r, .inr ⟨.inl hk, c, hc, hc'⟩⟩
      · rw [List.getElem?_set_ne (Ne.symm hj)] at e2
        obtain ⟨u', r', q⟩ := hl j y v' e1 e2 e3
        refine ⟨u', r', ?_⟩
        rcases q with q | ⟨k, c', e, z'⟩
        · exact .inl q
        · refine .inr ⟨k, c', e, z'.sameBut hs ?_⟩
          rintro rfl
          exact hj (nodup_ix hN e1 (I.ok.inj _ _ _ e hc ▸ hi))
    · by_cases hcc : c' = c
      · subst hcc; exact ⟨_, hc'⟩
      · obtain ⟨w2, z2⟩ := I.cell y c' e
        exact ⟨w2, z2.sameBut hs hcc⟩
    · obtain ⟨e, n, ne, nf, d⟩ := I.pin p hp
      refine ⟨(hs.2 p.1 ?_).trans e, n, ne, nf, d⟩
      intro q
      rw [q, hoc] at e
      have q' : oc = p.2 := Option.some.inj e
      exact d w' (by rw [← q']; exact hocd)
theorem store_ok {M : Model} {A : Around} {E : Value → Shared → Prop} {i : Nat} {x : Str} {v : V} {u : Value} {Q : Unit → Shared → Prop} (I : Inv X pins σ H s) (hN : X.N.Nodup) (hi : X.N[i]? = some x) (hx : Loc X.env.scope x) (r : RelV v u)
    (h : ∀ s', Inv X pins (σ.set i (some v)) H s' → Q () s') (hf : X.fn x = true ∨ X.env.scope.names.lookup x = some .local := by first | exact .inl rfl | exact .inr rfl | assumption) : wpAny M A (storeName X.env x u) Q E s :=
  store_ok2 I hN hi hx r (fun s' I' _ => h s' I') hf
/-- behind a call or a block, the state as it is -/
theorem Inv.call' {s' : Shared} {ch : List Addr} (I : Inv X pins σ H s) (ho : s'.os = s.os) (u : Un (frs X.stack) ch H H' s.heap s'.heap) (hok : HOk X.prog X.w H' s'.heap) (hg : AllBare s'.gens)
    (hch : ∀ b ∈ ch, (b ∈ X.ex ∨ X.s_0.heap.objs.size ≤ b) ∧ b ≠ X.env.locals ∧ (∀ x c, X.env.cells.lookup x = some c → c ≠ b) ∧ ∀ p ∈ X.pn ++ pins, p.1 ≠ b) : Inv X pins σ H' s' := by
  obtain ⟨h', g', d', t', o'⟩ := s'
  have e : o' = s.os := ho
  subst e
  exact I.call (g' := g') (t' := t') (d' := d') u hok hg hch
end

/-! ### the judgements -/
/-- an exception: its class, its own dict's address (where it has one), the abstract heap behind it -/
abbrev XK := Value → Option Addr → Hp → Prop
abbrev St := List (Option V)
abbrev VK := V → Hp → Prop
/-- an expression's reading; a test's; an argument list's -/
abbrev TE := St → Hp → VK → Prop
abbrev TT := St → Hp → (Bool → Hp → Prop) → Prop
abbrev TA := St → Hp → (List V → Hp → Prop) → Prop
/-- what is wanted behind a statement -/
structure Ends where
  nx : St → Hp → Prop
  rt : VK
  bk : St → Hp → Prop := fun _ _ => False
  ct : St → Hp → Prop := fun _ _ => False
abbrev TS := Ends → St → Hp → Prop

def EP (X : Cx) (pins : List (Addr × Obj)) (σ : St) (Q : VK) (u : Value) (s' : Shared) : Prop := ∃ v H', Inv X pins σ H' s' ∧ RelV v u ∧ Q v H'
def TP (X : Cx) (pins : List (Addr × Obj)) (σ : St) (Q : Bool → Hp → Prop) (b : Bool) (s' : Shared) : Prop := ∃ H', Inv X pins σ H' s' ∧ Q b H'
def AP (X : Cx) (pins : List (Addr × Obj)) (σ : St) (Q : List V → Hp → Prop) (us : List Value) (s' : Shared) : Prop := ∃ vs H', Inv X pins σ H' s' ∧ Vals vs us ∧ Q vs H'
def SP (X : Cx) (pins : List (Addr × Obj)) (D : Ends) (f : Flow) (s' : Shared) : Prop :=
  match f with
  | .next => ∃ σ' H', Inv X pins σ' H' s' ∧ D.nx σ' H'
  | .brk => ∃ σ' H', Inv X pins σ' H' s' ∧ D.bk σ' H'
  | .cont => ∃ σ' H', Inv X pins σ' H' s' ∧ D.ct σ' H'
  | .ret u => ∃ v σ' H', Inv X pins σ' H' s' ∧ RelV v u ∧ D.rt v H'

def PE (X : Cx) (e : Expr) (t : TE) : Prop :=
  ∀ (pins : List (Addr × Obj)) (s : Shared) (σ : St) (H : Hp) (Q : VK), Inv X pins σ H s → t σ H Q → wpAny (model X.prog X.w) X.A (eval e X.env) (EP X pins σ Q) X.xe s
def PT (X : Cx) (e : Expr) (t : TT) : Prop :=
  ∀ (pins : List (Addr × Obj)) (s : Shared) (σ : St) (H : Hp) (Q : Bool → Hp → Prop), Inv X pins σ H s → t σ H Q → wpAny (model X.prog X.w) X.A (isTrue e X.env (eval e X.env)) (TP X pins σ Q) X.xe s
/-- a test whatever its 'whole' is (and, or) -/
def PW (X : Cx) (e : Expr) (t : TT) : Prop :=
  ∀ (whole : Sem Value) (pins : List (Addr × Obj)) (s : Shared) (σ : St) (H : Hp) (Q : Bool → Hp → Prop), Inv X pins σ H s → t σ H Q → wpAny (model X.prog X.w) X.A (isTrue e X.env whole) (TP X pins σ Q) X.xe s
theorem PW.pt {X : Cx} {e : Expr} {t : TT} (h : PW X e t) : PT X e t := h _
/-- an argument list (no star), from the left -/
def PA (X : Cx) (es : List Expr) (t : TA) : Prop :=
  ∀ (pos : Pos) (pins : List (Addr × Obj)) (s : Shared) (σ : St) (H : Hp) (Q : List V → Hp → Prop), Inv X pins σ H s → t σ H Q → wpAny (model X.prog X.w) X.A (spliced (backTo pos (starEach es X.env))) (AP X pins σ Q) X.xe s
def PS (X : Cx) (st : Stmt) (t : TS) : Prop :=
  ∀ (pins : List (Addr × Obj)) (s : Shared) (σ : St) (H : Hp) (D : Ends), Inv X pins σ H s → t D σ H → wpAny (model X.prog X.w) X.A (exec st X.env) (SP X pins D) X.xe s
def PSs (X : Cx) (st : List Stmt) (t : TS) : Prop :=
  ∀ (pins : List (Addr × Obj)) (s : Shared) (σ : St) (H : Hp) (D : Ends), Inv X pins σ H s → t D σ H → wpAny (model X.prog X.w) X.A (execs st X.env) (SP X pins D) X.xe s
/-- weaken the end -/
theorem thn {α : Type} {t : Sem α} {Q Q' : α → Shared → Prop} {M : Model} {A : Around} {E : Value → Shared → Prop} {s : Shared} (h : wpAny M A t Q E s) (hQ : ∀ a s, Q a s → Q' a s) : wpAny M A t Q' E s := wpAny_mono h hQ fun _ _ x => x
end L2

namespace L2
open PySem PySem.Spec PyProof.Rows
section
variable {X : Cx}


/-! ### names and constants -/
def tVar (i : Nat) : TE := fun σ H Q => ∃ v, σ[i]? = some (some v) ∧ Q v H
def tC (v : V) : TE := fun _ H Q => Q v H
theorem pe_var {i : Nat} {x : Str} {pos : Pos} (hN : X.N[i]? = some x) (hv : Vis X.env.scope x) (hd : (x == ("__debug__" : Str)) = false := by decide) (hcd : (x == ("__classdict__" : Str)) = false := by decide) : PE X (.Name x pos) (tVar i) := by
  intro pins s σ H Q I h
  obtain ⟨v, e, h⟩ := h
  obtain ⟨m, hn, hl⟩ := I.loc
  obtain ⟨u, r, l⟩ := hl i x v hN e hv
  have fin : EP X pins σ Q u s := ⟨v, H, I, r, h⟩
  rcases l with ⟨hk, hm⟩ | ⟨hk, c, hc, hcell⟩
  · exact wpAny_Name (wpAny_loadName_local I.ok.kind hk hn hm fin) hd
  · rcases hk with hk | hk
    · exact wpAny_Name (wpAny_loadName_cell I.ok.kind hk hc hcell fin) hd
    · exact wpAny_Name (wpAny_loadName_free I.ok.kind hk hc hcell fin hcd) hd
theorem pe_int {i j pos} : PE X (.Constant (.int i) j pos) (tC (.int i)) := fun _ _ _ H _ I h => wpAny_Constant_int ⟨.int i, H, I.tok _, ⟨_, rfl⟩, h⟩

/-- a global name of the def -/
def Gl (X : Cx) (x : Str) : Prop := X.env.kindOf x = some .globalImplicit
theorem ld_glob {E : Value → Shared → Prop} {pins : List (Addr × Obj)} {s : Shared} {σ : St} {H : Hp} {x : Str} {u : Value} {pos : Pos} {Q : Value → Shared → Prop} (I : Inv X pins σ H s) (hg : Gl X x) (hm : X.mg x = some u) (h : Q u s)
    (hd : (x == ("__debug__" : Str)) = false := by decide) : wpAny (model X.prog X.w) X.A (eval (.Name x pos) X.env) Q E s :=
  Calls.Name_function_global I.ok.kind hg (Calls.loadGlobal_global (by rw [I.ok.glob]; exact I.mod.glob.keeps I.bk) hm h) hd
theorem ld_blt {E : Value → Shared → Prop} {pins : List (Addr × Obj)} {s : Shared} {σ : St} {H : Hp} {x : Str} {u : Value} {pos : Pos} {Q : Value → Shared → Prop} (I : Inv X pins σ H s) (hg : Gl X x) (hm : X.mg x = none) (hv : bootBuiltins x = some u) (h : Q u s)
    (hn : x ≠ "__name__" := by decide) (hd : (x == ("__debug__" : Str)) = false := by decide) : wpAny (model X.prog X.w) X.A (eval (.Name x pos) X.env) Q E s := by
  obtain ⟨mb, h1, h2⟩ := I.mod.blt
  exact Calls.Name_function_global I.ok.kind hg (Calls.loadGlobal_builtin (by rw [I.ok.glob]; exact I.mod.glob.keeps I.bk) hm (by rw [I.ok.blt]; exact h1.keeps I.bk) ((h2 x hn).trans hv) h) hd
/-- a module's constant, a class, a function, as a value -/
theorem pe_glob {x : Str} {v : V} {u : Value} {pos : Pos} (hg : Gl X x) (hm : X.mg x = some u) (r : RelV v u) (hd : (x == ("__debug__" : Str)) = false := by decide) : PE X (.Name x pos) (tC v) :=
  fun _ _ _ H _ I h => ld_glob I hg hm ⟨v, H, I, r, h⟩ hd

/-! ### arithmetic -/
variable {a b : Expr} {ta tb : TE} {pos : Pos}

/-! ### comparisons -/
/-- a comparison as a value, as a test -/
def tB (t : TE) : TT := fun σ H Q => t σ H fun x H1 => ∃ c, x = .bl c ∧ Q c H1
/-- an expression whose value is a bool, as a test -/
theorem pt_val {e : Expr} {t : TE} (h : PE X e t) (he : ∀ whole, isTrue e X.env whole = (do let v ← whole; standAt e.pos; holding [v] (truthy v)) := by intro _; rfl) : PT X e (tB t) := by
  intro pins s σ H Q I hw
  refine isTrue_plain (thn (h pins s σ H _ I hw) fun v s1 ⟨x, H1, I1, r1, q1⟩ => ?_) (he _)
  obtain ⟨d, rfl, q⟩ := q1
  cases r1
  exact wpAny_truthy_bool ⟨H1, I1, q⟩

/-! ### and, or, not -/
variable {tA tB' : TT} {rest : List Expr}
def tAnd (t u : TT) : TT := fun σ H Q => t σ H fun c H1 => if c = true then u σ H1 Q else Q false H1
def tOr (t u : TT) : TT := fun σ H Q => t σ H fun c H1 => if c = true then Q true H1 else u σ H1 Q
def tNot (t : TT) : TT := fun σ H Q => t σ H fun c H1 => Q (!c) H1
theorem pw_and1 (ha : PT X a tA) : PW X (.BoolOp .And [a] pos) tA := by
  intro wh pins s σ H Q I h
  refine isTrue_and (thn (ha pins s σ H Q I h) fun c s1 e => ?_)
  cases c with
  | true => exact isTrue_and_nil e
  | false => exact e
theorem pw_or1 (ha : PT X a tA) : PW X (.BoolOp .Or [a] pos) tA := by
  intro wh pins s σ H Q I h
  refine isTrue_or (thn (ha pins s σ H Q I h) fun c s1 e => ?_)
  cases c with
  | false => exact isTrue_or_nil e
  | true => exact e
theorem pw_and (ha : PT X a tA) (hb : PW X (.BoolOp .And (b :: rest) pos) tB') : PW X (.BoolOp .And (a :: b :: rest) pos) (tAnd tA tB') := by
  intro wh pins s σ H Q I h
  refine isTrue_and (thn (ha pins s σ H _ I h) fun c s1 ⟨H1, I1, q1⟩ => ?_)
  cases c with
  | true => exact hb wh pins s1 σ H1 Q I1 q1
  | false => exact ⟨H1, I1, q1⟩
theorem pw_or (ha : PT X a tA) (hb : PW X (.BoolOp .Or (b :: rest) pos) tB') : PW X (.BoolOp .Or (a :: b :: rest) pos) (tOr tA tB') := by
  intro wh pins s σ H Q I h
  refine isTrue_or (thn (ha pins s σ H _ I h) fun c s1 ⟨H1, I1, q1⟩ => ?_)
  cases c with
  | true => exact ⟨H1, I1, q1⟩
  | false => exact hb wh pins s1 σ H1 Q I1 q1
theorem pt_not (ha : PT X a tA) : PT X (.UnaryOp .Not a pos) (tNot tA) := by
  intro pins s σ H Q I h
  exact isTrue_not (ha pins s σ H (fun c H1 => Q (!c) H1) I h)
/-- .. as values (bools) -/
def tAndV (ta tb : TE) : TE := fun σ H Q => ta σ H fun x H1 => ∃ c, x = .bl c ∧ if c = true then tb σ H1 Q else Q (.bl false) H1
theorem pe_one {op} {t : TE} (h : PE X a t) : PE X (.BoolOp op [a] pos) t := fun pins s σ H Q I hw => BoolOp_one (h pins s σ H Q I hw)
theorem pe_and (ha : PE X a ta) (hb : PE X (.BoolOp .And (b :: rest) pos) tb) : PE X (.BoolOp .And (a :: b :: rest) pos) (tAndV ta tb) := by
  intro pins s σ H Q I h
  refine BoolOp_and (thn (ha pins s σ H _ I h) fun v s1 ⟨x, H1, I1, r1, q1⟩ => ?_)
  obtain ⟨c, rfl, q1⟩ := q1
  cases r1
  refine wpAny_truthy_bool ?_
  cases c with
  | true => exact hb pins s1 σ H1 Q I1 q1
  | false => exact ⟨.bl false, H1, I1, rfl, q1⟩
end
end L2

namespace L2
open PySem PySem.Spec PyProof.Rows

/-! ### a list, a tuple that is read: tracked, frozen, or an object of the module -/
def SqL (K : PySem.W.Frag) (H : Hp) (a : Addr) (xs : List V) : Prop :=
  Rd H a (.lst xs) ∨
    ∃ (o : Obj) (its : Array Value) (n : Nat), K.lookup a = some o ∧ o.cls = .type "list" ∧ o.dict = none ∧ o.data = .seq its n ∧ its.size ≤ sizeLine ∧ Vals xs its.toList
def SqT (K : PySem.W.Frag) (H : Hp) (a : Addr) (xs : List V) : Prop :=
  Rd H a (.tup xs) ∨
    ∃ (o : Obj) (its : Array Value) (n : Nat), K.lookup a = some o ∧ o.cls = .type "tuple" ∧ o.data = .seq its n ∧ its.size ≤ sizeLine ∧ Vals xs its.toList
def absV : Value → Option V
  | .none => some .non
  | .bool b => some (.bl b)
  | .int i _ => some (.int i)
  | .str x _ => some (.str x)
  | .bytes b _ => some (.byt b)
  | .float b _ => some (.flt b)
  | .ref a => some (.ref a)
  | .type n => some (.ty n)
  | _ => none
theorem RelV.abs {x : V} {u : Value} (r : RelV x u) : absV u = some x := by
  cases x with
  | non => cases r; rfl
  | bl _ => cases r; rfl
  | int _ => obtain ⟨t, rfl⟩ := r; rfl
  | str _ => obtain ⟨t, rfl⟩ := r; rfl
  | byt _ => obtain ⟨t, rfl⟩ := r; rfl
  | flt _ => obtain ⟨t, rfl⟩ := r; rfl
  | ref _ => cases r; rfl
  | ty _ => cases r; rfl
theorem RelV.inj {x y : V} {u : Value} (r : RelV x u) (q : RelV y u) : x = y := Option.some.inj (r.abs.symm.trans q.abs)
theorem Vals.inj : ∀ {xs ys : List V} {us : List Value}, Vals xs us → Vals ys us → xs = ys
  | _, _, _, .nil, .nil => rfl
  | _, _, _, .cons r t, .cons r' t' => by rw [r.inj r', Vals.inj t t']
section
variable {X : Cx} {pins : List (Addr × Obj)} {σ : St} {H : Hp} {s : Shared} {a : Addr} {xs ys : List V}
theorem SqL.of {K : PySem.W.Frag} (h : H a = some (.lst xs)) : SqL K H a xs := .inl (.inl h)
theorem SqT.of {K : PySem.W.Frag} (h : H a = some (.tup xs)) : SqT K H a xs := .inl (.inl h)
theorem Inv.list (I : Inv X pins σ H s) (h : SqL X.K H a xs) : ∃ its : List Value, Vals xs its ∧ PlainL s.heap a its.toArray ∧ xs.length ≤ sizeLine := by
  rcases h with h | ⟨o, its, n, hk, hc, hd, hs, hz, r⟩
  · obtain ⟨z, its, n, r, e⟩ := h.ok I.hok
    exact ⟨its, r, ⟨_, n, e, rfl, rfl, rfl⟩, z⟩
  · refine ⟨its.toList, r, ⟨o, n, I.kIn a o hk, hc, hd, by simpa using hs⟩, ?_⟩
    have e := r.length
    simp only [Array.length_toList] at e
    omega
theorem Inv.tuple (I : Inv X pins σ H s) (h : SqT X.K H a xs) : ∃ its : List Value, Vals xs its ∧ IsTup s.heap a its.toArray ∧ xs.length ≤ sizeLine := by
  rcases h with h | ⟨o, its, n, hk, hc, hs, hz, r⟩
  · obtain ⟨z, its, r, p⟩ := h.ok I.hok
    exact ⟨its, r, p, z⟩
  · refine ⟨its.toList, r, ⟨o, I.kIn a o hk, hc, n, by simpa using hs⟩, ?_⟩
    have e := r.length
    simp only [Array.length_toList] at e
    omega
theorem Inv.list_inj (I : Inv X pins σ H s) (h : SqL X.K H a xs) (h' : SqL X.K H a ys) : xs = ys := by
  obtain ⟨its, r, ⟨o, n, e, _, _, d⟩, _⟩ := I.list h
  obtain ⟨its', r', ⟨o', n', e', _, _, d'⟩, _⟩ := I.list h'
  rw [e] at e'; cases e'
  rw [d] at d'
  injection d' with d1 _
  have : its = its' := by simpa using congrArg Array.toList d1
  subst this
  exact r.inj r'
end

/-! ### another wish about exceptions -/
abbrev Cx.wish (X : Cx) (E : Value → Shared → Prop) : Cx := { X with xe := E }
/-- no exception leaves -/
abbrev Cx.nox (X : Cx) : Cx := X.wish fun _ _ => False
theorem Cx.Ok.wish {X : Cx} (ok : X.Ok) (E : Value → Shared → Prop) : (X.wish E).Ok :=
  ⟨ok.mod, ok.kind, ok.glob, ok.blt, ok.above, ok.inj, ok.has, ok.cab, ok.hd, ok.frames, ok.stk, ok.exf, ok.bs, ok.bsz, ok.noex, ok.exfs, ok.funs, ok.frf⟩
theorem Cx.Ok.unwish {X : Cx} {E : Value → Shared → Prop} (ok : (X.wish E).Ok) : X.Ok :=
  ⟨ok.mod, ok.kind, ok.glob, ok.blt, ok.above, ok.inj, ok.has, ok.cab, ok.hd, ok.frames, ok.stk, ok.exf, ok.bs, ok.bsz, ok.noex, ok.exfs, ok.funs, ok.frf⟩
section
variable {X : Cx} {pins : List (Addr × Obj)} {σ : St} {H : Hp} {s : Shared} {E : Value → Shared → Prop}
theorem Inv.wish (I : Inv X pins σ H s) (E : Value → Shared → Prop) : Inv (X.wish E) pins σ H s := ⟨I.ok.wish E, I.os, I.bare, I.base, I.loc, I.cell, I.free, I.freeC, I.pin, I.hok, I.len⟩
theorem Inv.unwish (I : Inv (X.wish E) pins σ H s) : Inv X pins σ H s := ⟨I.ok.unwish, I.os, I.bare, I.base, I.loc, I.cell, I.free, I.freeC, I.pin, I.hok, I.len⟩
theorem SP.unwish {D : Ends} {f : Flow} {s' : Shared} (h : SP (X.wish E) pins D f s') : SP X pins D f s' := by
  cases f with
  | next => obtain ⟨σ', H', I, q⟩ := h; exact ⟨σ', H', I.unwish, q⟩
  | brk => obtain ⟨σ', H', I, q⟩ := h; exact ⟨σ', H', I.unwish, q⟩
  | cont => obtain ⟨σ', H', I, q⟩ := h; exact ⟨σ', H', I.unwish, q⟩
  | ret u => obtain ⟨v, σ', H', I, r, q⟩ := h; exact ⟨v, σ', H', I.unwish, r, q⟩
theorem PSs.nox {st : List Stmt} {t : TS} (h : PSs X.nox st t) : PSs X st t := fun pins s σ H D I hw =>
  wpAny_mono (h pins s σ H D (I.wish _) hw) (fun _ _ q => q.unwish) fun _ _ z => False.elim z
end

/-! ### blocks and small statements -/
section
variable {X : Cx} {st : Stmt} {rest : List Stmt} {t u : TS} {e : Expr} {te : TE} {pos : Pos}
def tNext : TS := fun D σ H => D.nx σ H
def tSeq (t u : TS) : TS := fun D σ H => t { D with nx := u D } σ H
theorem pss_nil : PSs X [] tNext := fun _ _ σ H _ I h => wpAny_execs_nil ⟨σ, H, I, h⟩
theorem pss_cons (h1 : PS X st t) (h2 : PSs X rest u) : PSs X (st :: rest) (tSeq t u) := by
  intro pins s σ H D I h
  refine wpAny_execs_cons (thn (h1 pins s σ H { D with nx := u D } I h) fun f s1 q => ?_)
  cases f with
  | next =>
    obtain ⟨σ', H', I', q⟩ := q
    exact h2 pins s1 σ' H' D I' q
  | ret v => exact q
  | brk => exact q
  | cont => exact q
theorem pss_one (h1 : PS X st t) : PSs X [st] t := by
  intro pins s σ H D I h
  refine wpAny_execs_cons (thn (h1 pins s σ H D I h) fun f s1 q => ?_)
  cases f with
  | next => exact wpAny_execs_nil q
  | ret v => exact q
  | brk => exact q
  | cont => exact q
/-- in a def's body nothing is shown -/
theorem Inv.quiet {pins : List (Addr × Obj)} {σ : St} {H : Hp} {s : Shared} (I : Inv X pins σ H s) : interactive X.env = false := by simp [interactive, I.ok.kind]
/-- an expression whose value is dropped -/
def tDrop (te : TE) : TS := fun D σ H => te σ H fun _ H1 => D.nx σ H1
theorem ps_expr (he : PE X e te) (hs : swapsWith e none pos.line X.env = pure false := by rfl) : PS X (.Expr e pos) (tDrop te) := by
  intro pins s σ H D I h
  exact wpAny_Expr_any (thn (he pins s σ H _ I h) fun v s1 ⟨x, H1, I1, r1, q1⟩ => ⟨σ, H1, I1, q1⟩) I.quiet hs
def tRet (te : TE) : TS := fun D σ H => te σ H D.rt
theorem ps_ret (he : PE X e te) : PS X (.Return (some e) pos) (tRet te) := by
  intro pins s σ H D I h
  exact wpAny_Return_some (thn (he pins s σ H _ I h) fun v s1 ⟨x, H1, I1, r1, q1⟩ => ⟨x, σ, H1, I1, r1, q1⟩)
def tIfS (c : TT) (t u : TS) : TS := fun D σ H => c σ H fun b H1 => if b = true then t D σ H1 else u D σ H1
theorem ps_if {c : Expr} {a b : List Stmt} {tc : TT} (hc : PT X c tc) (ha : PSs X a t) (hb : PSs X b u) : PS X (.If c a b pos) (tIfS tc t u) := by
  intro pins s σ H D I h
  refine wpAny_If (thn (hc pins s σ H _ I h) fun d s1 ⟨H1, I1, q1⟩ => ?_)
  cases d with
  | true => exact ha pins s1 σ H1 D I1 q1
  | false => exact hb pins s1 σ H1 D I1 q1
end

/-! ### targets -/
abbrev TG := V → St → Hp → (St → Hp → Prop) → Prop
abbrev TGs := List V → St → Hp → (St → Hp → Prop) → Prop
def PG (X : Cx) (target : Expr) (t : TG) : Prop :=
  ∀ (pins : List (Addr × Obj)) (s : Shared) (σ : St) (H : Hp) (v : V) (u : Value) (Q : St → Hp → Prop), Inv X pins σ H s → RelV v u → t v σ H Q →
    wpAny (model X.prog X.w) X.A (assign target X.env u) (fun _ s' => ∃ σ' H', Inv X pins σ' H' s' ∧ Q σ' H') X.xe s
/-- several targets, one after another -/
def PGs (X : Cx) (ts : List Expr) (t : TGs) : Prop :=
  ∀ (pins : List (Addr × Obj)) (s : Shared) (σ : St) (H : Hp) (vs : List V) (us : List Value) (Q : St → Hp → Prop), Inv X pins σ H s → Vals vs us → t vs σ H Q →
    wpAny (model X.prog X.w) X.A (assignInOrder ((assignEach ts X.env).map (·.2)) us) (fun _ s' => ∃ σ' H', Inv X pins σ' H' s' ∧ Q σ' H') X.xe s
section
variable {X : Cx} {pos : Pos}
def gName (i : Nat) : TG := fun v σ H Q => Q (σ.set i (some v)) H
theorem pg_name {i : Nat} {x : Str} (hN : X.N.Nodup) (hi : X.N[i]? = some x) (hx : Loc X.env.scope x) (hf : X.fn x = true ∨ X.env.scope.names.lookup x = some .local := by first | exact .inl rfl | exact .inr rfl | assumption) : PG X (.Name x pos) (gName i) := by
  intro pins s σ H v u Q I r h
  exact wpAny_assign_Name (store_ok I hN hi hx r (fun s' I' => ⟨_, H, I', h⟩) hf)
def gNil : TGs := fun vs σ H Q => vs = [] ∧ Q σ H
def gCons (t : TG) (u : TGs) : TGs := fun vs σ H Q => ∃ v r, vs = v :: r ∧ t v σ H fun σ' H' => u r σ' H' Q
theorem pgs_nil : PGs X [] gNil := by
  intro pins s σ H vs us Q I r h
  obtain ⟨e, h⟩ := h
  subst e
  cases r
  exact assignInOrder_nil ⟨σ, H, I, h⟩
theorem pgs_cons {e : Expr} {es : List Expr} {t : TG} {u : TGs} (h1 : PG X e t) (h2 : PGs X es u)
    (hs : (assignEach (e :: es) X.env).map (·.2) = assign e X.env :: (assignEach es X.env).map (·.2) := by rfl) : PGs X (e :: es) (gCons t u) := by
  intro pins s σ H vs us Q I r h
  obtain ⟨v, vr, e1, h⟩ := h
  subst e1
  cases r with
  | cons r rr =>
    rw [hs]
    refine assignInOrder_cons (thn (h1 pins s σ H _ _ _ I r h) fun _ s1 ⟨σ1, H1, I1, q1⟩ => ?_)
    exact h2 pins s1 σ1 H1 _ _ Q I1 rr q1
/-- (a, b, ..) = a tuple of that length -/
def gTup (K : PySem.W.Frag) (n : Nat) (t : TGs) : TG := fun v σ H Q => ∃ a xs, v = .ref a ∧ SqT K H a xs ∧ xs.length = n ∧ t xs σ H Q
theorem pg_tup {es : List Expr} {k : Nat} {t : TGs} {n : Nat} (hc : X.calm = true) (h : PGs X es t)
    (hn : (assignEach es X.env).length = n := by rfl) (hst : (assignEach es X.env).findIdx? (·.1) = none := by rfl) : PG X (.Tuple es k pos) (gTup X.K n t) := by
  intro pins s σ H v u Q I r hw
  obtain ⟨a, xs, e1, hq, hl, hw⟩ := hw
  subst e1
  cases r
  obtain ⟨its, rv, ht, hz⟩ := I.tuple hq
  refine assign_Tuple_tuple (I.ok.hd hc) ht (by simp [hn, ← hl, rv.length]) hst fun h' hx => ?_
  have I1 : Inv X pins σ H { s with heap := h' } := I.kept (t' := s.toks) fun b o e => hx b o (Nat.ne_of_lt (Heap.lt_size e)) e
  exact h pins _ σ H xs _ Q I1 (by simpa using rv) hw
/-- target = value -/
def tAsg (te : TE) (g : TG) : TS := fun D σ H => te σ H fun x H1 => g x σ H1 D.nx
/-- name = value -/
theorem ps_set {i : Nat} {x : Str} {e : Expr} {te : TE} {pos' : Pos} (hN : X.N.Nodup) (hi : X.N[i]? = some x) (hx : Loc X.env.scope x) (he : PE X e te) (hs : swapsWith e (some (.Name x pos')) pos.line X.env = pure false := by rfl) (hf : X.fn x = true ∨ X.env.scope.names.lookup x = some .local := by first | exact .inl rfl | exact .inr rfl | assumption) :
    PS X (.Assign [.Name x pos'] e pos) (tAsg te (gName i)) := by
  intro pins s σ H D I h
  refine wpAny_Assign_Name (thn (he pins s σ H _ I h) fun v s1 ⟨y, H1, I1, r1, q1⟩ => ?_) hs
  exact store_ok I1 hN hi hx r1 (fun s2 I2 => ⟨_, H1, I2, q1⟩) hf
end

/-! ### while -/
section
variable {X : Cx} {pos : Pos}
/-- the invariant W with its measure -/
def tWhile (c : TT) (tb : TS) : TS := fun D σ H => ∃ W : Nat → St → Hp → Prop, (∃ m, W m σ H) ∧ ∀ m σ H, W m σ H →
  c σ H fun b H1 => if b = true then ∃ N : St → Hp → Prop, (∀ σ' H', N σ' H' → ∃ m', m' < m ∧ W m' σ' H') ∧ tb { D with nx := N, ct := N, bk := D.nx } σ H1 else D.nx σ H1
theorem ps_while {c : Expr} {body : List Stmt} {tc : TT} {tb : TS} (hp : PassesOwn (model X.prog X.w) X.A X.env X.xe) (hc : PT X c tc) (hb : PSs X body tb) : PS X (.While c body [] pos) (tWhile tc tb) := by
  intro pins s σ H D I h
  obtain ⟨W, ⟨m0, w0⟩, turn⟩ := h
  refine wpAny_While (codeAny_whileLoop (fun n s' => ∃ σ' H', Inv X pins σ' H' s' ∧ W n σ' H') ?_ m0 ⟨σ, H, I, w0⟩)
  rintro n s1 ⟨σ1, H1, I1, w1⟩
  refine wpAny_passesOwn hp (thn (hc pins s1 σ1 H1 _ I1 (turn n σ1 H1 w1)) fun b s2 ⟨H2, I2, q2⟩ => ?_)
  cases b with
  | true =>
    obtain ⟨N, hN, q2⟩ := q2
    rw [if_pos rfl]
    refine wpAny_passesOwn hp (thn (hb pins s2 σ1 H2 _ I2 q2) fun f s3 q3 => ?_)
    cases f with
    | next =>
      obtain ⟨σ3, H3, I3, n3⟩ := q3
      obtain ⟨m', hm, w3⟩ := hN σ3 H3 n3
      exact ⟨m', hm, σ3, H3, I3, w3⟩
    | cont =>
      obtain ⟨σ3, H3, I3, n3⟩ := q3
      obtain ⟨m', hm, w3⟩ := hN σ3 H3 n3
      exact ⟨m', hm, σ3, H3, I3, w3⟩
    | brk => exact q3
    | ret v => exact q3
  | false =>
    rw [if_neg Bool.false_ne_true]
    exact wpAny_execs_nil ⟨σ1, H2, I2, q2⟩
end

/-! ### what a loop or a comprehension walks -/
/-- at turn i: it yields x (the heap may grow), or it stops -/
structure It where
  go : Nat → Hp → Prop
  yld : Nat → Hp → V → Hp → Prop
  stop : Nat → Hp → Prop
/-- the iterator's own objects may turn: they are not the frame's, not pinned, younger than the entry (or a comprehension's own) -/
def FpOk (X : Cx) (pins : List (Addr × Obj)) (H : Hp) (b : Addr) : Prop :=
  H b = none ∧ b ≠ X.env.locals ∧ b ∉ X.fs ∧ (b ∈ X.ex ∨ X.s_0.heap.objs.size ≤ b) ∧ (∀ x c, X.env.cells.lookup x = some c → c ≠ b) ∧ ∀ p ∈ X.pn ++ pins, p.1 ≠ b
theorem Inv.fpOk {X : Cx} {pins : List (Addr × Obj)} {σ : St} {H H' : Hp} {s : Shared} {b : Addr} (I : Inv X pins σ H s) (hb : s.heap.objs.size ≤ b) (hn : H' b = none) : FpOk X pins H' b := by
  refine ⟨hn, Nat.ne_of_gt (Nat.lt_of_lt_of_le I.lt hb), I.nofs hb, .inr (Nat.le_trans I.sz hb), fun x c e z => ?_, fun p hp z => ?_⟩
  · obtain ⟨v, q⟩ := I.cell x c e
    exact absurd (Nat.lt_of_lt_of_le q.lt (by rw [z]; exact hb)) (Nat.lt_irrefl _)
  · exact absurd (Nat.lt_of_lt_of_le (Heap.lt_size (I.pin p hp).1) (by rw [z]; exact hb)) (Nat.lt_irrefl _)
structure Turn (P : Program) (w : World) (K : PySem.W.Frag) (tg : Expr) (J : It) (fp : List Addr) (it : Addr) (tn : Nat → Heap → Prop) : Prop where
  mem : it ∈ fp
  obj : ∀ i h, tn i h → ∀ b ∈ fp, ∃ o, h.get? b = some o ∧ ∀ v, o.data ≠ .cell v
  keep : ∀ i h h', tn i h → (∀ b ∈ fp, ∀ o, h.get? b = some o → h'.get? b = some o) → tn i h'
  item : ∀ (X : Cx), X.prog = P → X.w = w → X.K = K → X.calm = true → ∀ (i : Nat) (pins : List (Addr × Obj)) (s : Shared) (σ : St) (H : Hp) (E : Value → Shared → Prop), Inv X pins σ H s → (∀ b ∈ fp, FpOk X pins H b) → tn i s.heap → J.go i H →
    wpAny (model P w) X.A (pyNext (.ref it)) (fun r s1 => ∃ u, r = some u ∧
      wpAny (model P w) X.A (letOwnedTupleGo tg (.ref it) u) (fun _ s2 => ∃ x H', Inv X pins σ H' s2 ∧ RelV x u ∧ J.yld i H x H' ∧ tn (i + 1) s2.heap ∧ ∀ b ∈ fp, H' b = none) E s1) E s
  done : ∀ (X : Cx), X.prog = P → X.w = w → X.K = K → X.calm = true → ∀ (i : Nat) (pins : List (Addr × Obj)) (s : Shared) (σ : St) (H : Hp) (E : Value → Shared → Prop), Inv X pins σ H s → (∀ b ∈ fp, FpOk X pins H b) → tn i s.heap → J.stop i H →
    wpAny (model P w) X.A (pyNext (.ref it)) (fun r s1 => r = none ∧ Inv X pins σ H s1) E s
  self : ∀ (A : Around) (i : Nat) (s : Shared) (Q : Value → Shared → Prop) (E : Value → Shared → Prop), tn i s.heap → Q (.ref it) s → wpAny (model P w) A (pyIter (.ref it)) Q E s
abbrev TI := St → Hp → (It → Hp → Prop) → Prop
/-- an iterator has come -/
def PIE (X : Cx) (pins : List (Addr × Obj)) (σ : St) (tg : Expr) (R : It → Hp → Prop) (itv : Value) (s2 : Shared) : Prop :=
  ∃ (it : Addr) (fp : List Addr) (tn : Nat → Heap → Prop) (J : It) (H' : Hp), itv = .ref it ∧ Inv X pins σ H' s2 ∧ Turn X.prog X.w X.K tg J fp it tn ∧ tn 0 s2.heap ∧ (∀ b ∈ fp, FpOk X pins H' b) ∧ R J H'
def PI (X : Cx) (tg iter : Expr) (wi : TI) : Prop :=
  ∀ (pins : List (Addr × Obj)) (s : Shared) (σ : St) (H : Hp) (R : It → Hp → Prop), Inv X pins σ H s → wi σ H R →
    wpAny (model X.prog X.w) X.A (eval iter X.env) (fun v s1 => wpAny (model X.prog X.w) X.A (pyIter v) (PIE X pins σ tg R) X.xe s1) X.xe s

/-- the step ahead of the store is nothing for an iterator that keeps no tuple -/
theorem go_of {M : Model} {A : Around} {E : Value → Shared → Prop} {s : Shared} {tg : Expr} {it : Addr} {u : Value} {o : Obj} {n : String} {vs : Array Value} {Q : Unit → Shared → Prop} (ho : s.heap.get? it = some o) (hc : o.cls = .type n) (hd : o.data = .fields vs)
    (hn : ["enumerate", "zip", "dict_itemiterator", "dict_reverseitemiterator", "odict_iterator", "itertools.zip_longest", "itertools.pairwise"].contains n = false) (hQ : Q () s) : wpAny M A (letOwnedTupleGo tg (.ref it) u) Q E s := by
  unfold letOwnedTupleGo
  cases tg <;> first
    | exact wpAny_pure hQ
    | (cases u <;> first
        | exact wpAny_pure hQ
        | (refine wpAny_bind (wpAny_load ho ?_)
           rw [hc, hd]
           show wpAny M A (if (["enumerate", "zip", "dict_itemiterator", "dict_reverseitemiterator", "odict_iterator", "itertools.zip_longest", "itertools.pairwise"].contains n && vs[0]? == some (rawInt _)) = true then _ else _) Q E s
           rw [if_neg (by intro h; rw [hn, Bool.false_and] at h; cases h)]
           exact wpAny_pure hQ))

/-- the list at a, as it stands at each turn (a loop may append to it) -/
def Itl (K : PySem.W.Frag) (a : Addr) : It :=
  ⟨fun i H => ∃ xs x, SqL K H a xs ∧ xs[i]? = some x, fun i H x H' => H' = H ∧ ∀ xs, SqL K H a xs → xs[i]? = some x, fun i H => ∃ xs, SqL K H a xs ∧ xs.length ≤ i⟩
/-- lo, lo + 1, .. (n of them) -/
def Itr (lo : Int) (n : Nat) : It := ⟨fun i _ => i < n, fun i H x H' => H' = H ∧ x = .int (lo + i), fun i _ => n ≤ i⟩
theorem turn_list {P : Program} {w : World} {K : PySem.W.Frag} {tg : Expr} (a it : Addr) : Turn P w K tg (Itl K a) [it] it (fun i h => h.IsListIter it a i) where
  mem := by simp
  obj := fun i h st b hb => by
    have e : b = it := by simpa using hb
    subst e
    obtain ⟨o, e, c, d⟩ := st
    exact ⟨o, e, fun v z => by rw [d] at z; cases z⟩
  keep := fun i h h' st k => st.at fun o e => k it (by simp) o e
  item := by
    intro X hP hw hK hc i pins s σ H E I hf st hg
    subst hP hw hK
    obtain ⟨xs, x, hq, hx⟩ := hg
    obtain ⟨its, rv, p, hz⟩ := I.list hq
    obtain ⟨u, hu, ru⟩ := rv.get hx
    obtain ⟨f0, f1, f2, f3, f4, f5⟩ := hf it (by simp)
    refine wpAny_pyNext_list_item st p.isList (x := u) (by simpa using hu) fun h' st' sb => ?_
    have I1 : Inv X pins σ H { s with heap := h' } := I.turned (t' := s.toks) (fun b o hb e => (sb.2 b hb).trans e) f0 f1 f3 f4 f5
    obtain ⟨o, e, c, d⟩ := id st'
    exact ⟨u, rfl, go_of (s := { s with heap := h' }) e c d (by decide) ⟨x, H, I1, ru, ⟨rfl, fun ys hy => by rw [I.list_inj hy hq]; exact hx⟩, st', fun b hb => (hf b hb).1⟩⟩
  done := by
    intro X hP hw hK hc i pins s σ H E I hf st hg
    subst hP hw hK
    obtain ⟨xs, hq, hx⟩ := hg
    obtain ⟨its, rv, p, hz⟩ := I.list hq
    obtain ⟨f0, f1, f2, f3, f4, f5⟩ := hf it (by simp)
    have hl := rv.length
    exact wpAny_pyNext_list_end (I.ok.hd hc) st p.isList (by simp; omega) fun h' eb => ⟨rfl, I.turned (t' := s.toks) (fun b o hb e => eb b o hb e) f0 f1 f3 f4 f5⟩
  self := fun _ _ _ _ _ st h => wpAny_pyIter_listiter st h
theorem turn_range {P : Program} {w : World} {K : PySem.W.Frag} {tg : Expr} (it : Addr) (lo : Int) (n : Nat) : Turn P w K tg (Itr lo n) [it] it (fun i h => IsRangeIter h it (lo + (i : Nat) * 1) ((n : Int) - (i : Nat)) 1) where
  mem := by simp
  obj := fun i h st b hb => by
    have e : b = it := by simpa using hb
    subst e
    exact ⟨_, st, fun v z => by
      have z' : Data.fields _ = Data.cell v := z
      cases z'⟩
  keep := fun i h h' st k => k it (by simp) _ st
  item := by
    intro X hP hw hK hc i pins s σ H E I hf st hg
    subst hP hw hK
    obtain ⟨f0, f1, f2, f3, f4, f5⟩ := hf it (by simp)
    have W := Walks.range (prog := X.prog) (w := X.w) (I.ok.hd hc) it lo 1 n
    refine W.item i s _ _ hg st fun v h' tk hv st' kk => ?_
    obtain ⟨t, rfl⟩ := hv
    have I1 : Inv X pins σ H { s with heap := h', toks := tk } := I.turned (fun b o hb e => kk b o (by simpa using hb) e) f0 f1 f3 f4 f5
    refine ⟨_, rfl, go_of (s := { s with heap := h', toks := tk }) (n := "range_iterator") st' rfl rfl (by decide) ⟨.int (lo + i), H, I1, ⟨t, ?_⟩, ⟨rfl, rfl⟩, st', fun b hb => (hf b hb).1⟩⟩
    rw [Int.mul_one]
  done := by
    intro X hP hw hK hc i pins s σ H E I hf st hg
    subst hP hw hK
    obtain ⟨f0, f1, f2, f3, f4, f5⟩ := hf it (by simp)
    exact wpAny_pyNext_range_end (I.ok.hd hc) st (by have : n ≤ i := hg; omega) fun h' eb => ⟨rfl, I.turned (t' := s.toks) (fun b o hb e => eb b o hb e) f0 f1 f3 f4 f5⟩
  self := fun _ _ _ _ _ st h => wpAny_pyIter_rangeiter st h
end L2

namespace L2
open PySem PySem.Spec PyProof.Rows
section
variable {X : Cx} {tg : Expr}
def iList (K : PySem.W.Frag) (tl : TE) : TI := fun σ H R => tl σ H fun x H1 => ∃ a, x = .ref a ∧ (∃ xs, SqL K H1 a xs) ∧ R (Itl K a) H1
theorem pi_list {l : Expr} {tl : TE} (hl : PE X l tl) : PI X tg l (iList X.K tl) := by
  intro pins s σ H R I h
  refine thn (hl pins s σ H _ I h) fun v s1 ⟨x, H1, I1, r1, q1⟩ => ?_
  obtain ⟨a, e, ⟨xs, hq⟩, q⟩ := q1
  subst e
  cases r1
  obtain ⟨its, rv, p, hz⟩ := I1.list hq
  refine wpAny_pyIter_list p.isList ?_
  refine ⟨s1.heap.objs.size, [s1.heap.objs.size], _, _, H1, rfl, I1.kept (t' := s1.toks) fun b o e => Heap.get?_push_of_some _ e, turn_list a _, ⟨_, Heap.get?_push_size _ rfl, rfl, rfl⟩, fun b hb => ?_, q⟩
  have e : b = s1.heap.objs.size := by simpa using hb
  subst e
  exact I1.fpOk (Nat.le_refl _) (I1.hok.fresh (Nat.le_refl _))
/-- a range object just made, walked -/
theorem range_it {pins : List (Addr × Obj)} {σ : St} {H : Hp} {s : Shared} {R : It → Hp → Prop} {E : Value → Shared → Prop} {lo hi : Int} {t u v : Tok} {tk : Nat} (I : Inv X pins σ H s) (h1 : -(2 ^ 62) ≤ lo) (h2 : lo < 2 ^ 62) (h3 : -(2 ^ 62) ≤ hi) (h4 : hi < 2 ^ 62)
    (q : R (Itr lo (hi - lo).toNat) H) : wpAny (model X.prog X.w) X.A (pyIter (.ref s.heap.objs.size)) (PIE X pins σ tg R) E { s with heap := s.heap.push { cls := .type "range", data := .fields #[.int lo t, .int hi u, .int 1 v] }, toks := tk } := by
  refine wpAny_pyIter_range (IsRange.new ..) (small_one h1 h2 h3 h4) ?_
  have I1 : Inv X pins σ H { s with heap := s.heap.push { cls := .type "range", data := .fields #[.int lo t, .int hi u, .int 1 v] }, toks := tk } := I.kept fun b o e => Heap.get?_push_of_some _ e
  refine ⟨(s.heap.push { cls := .type "range", data := .fields #[.int lo t, .int hi u, .int 1 v] }).objs.size, [(s.heap.push { cls := .type "range", data := .fields #[.int lo t, .int hi u, .int 1 v] }).objs.size], _, _, H, rfl,
    I1.kept (t' := tk) fun b o e => Heap.get?_push_of_some _ e, turn_range _ lo (hi - lo).toNat, ?_, fun b hb => ?_, q⟩
  · have e1 : lo + ((0 : Nat) : Int) * 1 = lo := by simp
    have e2 : (((hi - lo).toNat : Nat) : Int) - ((0 : Nat) : Int) = Builtin.Range.rangeSize lo hi 1 := by rw [rangeSize_one]; split <;> omega
    show IsRangeIter _ _ (lo + ((0 : Nat) : Int) * 1) ((((hi - lo).toNat : Nat) : Int) - ((0 : Nat) : Int)) 1
    rw [e1, e2]
    exact Heap.get?_push_size _ rfl
  · have e : b = (s.heap.push { cls := .type "range", data := .fields #[.int lo t, .int hi u, .int 1 v] }).objs.size := by simpa using hb
    subst e
    exact I1.fpOk (Nat.le_refl _) (I1.hok.fresh (Nat.le_refl _))
def iRng1 (ta : TA) : TI := fun σ H R => ta σ H fun vs H1 => ∃ j : Int, vs = [.int j] ∧ -(2 ^ 62) ≤ j ∧ j < 2 ^ 62 ∧ R (Itr 0 j.toNat) H1
theorem pi_range1 {a : Expr} {ta : TA} {p pos : Pos} (hg : Gl X "range") (hm : X.mg "range" = none) (ha : PA X [a] ta) (hs : starEach [a] X.env = [(false, eval a X.env)] := by rfl) : PI X tg (.Call (.Name "range" p) [a] [] pos) (iRng1 ta) := by
  intro pins s σ H R I h
  refine Call_ (ld_blt I hg hm boot_range (PyProof.Rows.callWith_type1 (thn (ha pos pins s σ H _ I h) fun us s1 ⟨vs, H1, I1, r1, q1⟩ => ?_) hs rfl))
  obtain ⟨j, e, q1, q2, q⟩ := q1
  subst e
  cases r1 with
  | cons r rr =>
    cases rr
    obtain ⟨t, rfl⟩ := r
    exact call_range_1 (range_it I1 (by omega) (by omega) q1 q2 (by simpa using q))

/-! ### for -/
/-- W: the invariant by the turn and a measure; N: what the body is to reach -/
def tFor (wi : TI) (g : TG) (tb : TS) : TS := fun D σ H => wi σ H fun J H1 => ∃ W : Nat → Nat → St → Hp → Prop, (∃ m, W 0 m σ H1) ∧ ∀ i m σ H, W i m σ H →
  (J.stop i H ∧ D.nx σ H) ∨ (J.go i H ∧ ∃ N : St → Hp → Prop, (∀ σ' H', N σ' H' → ∃ m', m' < m ∧ W (i + 1) m' σ' H') ∧ ∀ x H', J.yld i H x H' → g x σ H' fun σ2 H2 => tb { D with nx := N, ct := N, bk := D.nx } σ2 H2)
/-- the records at fp as they stand -/
def pinsAt (fp : List Addr) (h : Heap) : List (Addr × Obj) := fp.filterMap fun b => (h.get? b).map fun o => (b, o)
theorem mem_pinsAt {fp : List Addr} {h : Heap} {b : Addr} {o : Obj} (hb : b ∈ fp) (e : h.get? b = some o) : (b, o) ∈ pinsAt fp h := List.mem_filterMap.mpr ⟨b, hb, by rw [e]; rfl⟩
theorem of_pinsAt {fp : List Addr} {h : Heap} {p : Addr × Obj} (hp : p ∈ pinsAt fp h) : p.1 ∈ fp ∧ h.get? p.1 = some p.2 := by
  obtain ⟨b, hb, e⟩ := List.mem_filterMap.mp hp
  cases q : h.get? b with
  | none => rw [q] at e; cases e
  | some o =>
    rw [q] at e
    have e' : (b, o) = p := Option.some.inj e
    subst e'
    exact ⟨hb, q⟩
theorem Inv.pinned {pins : List (Addr × Obj)} {σ : St} {H : Hp} {s : Shared} {fp : List Addr} (I : Inv X pins σ H s) (hf : ∀ b ∈ fp, FpOk X pins H b) (ho : ∀ b ∈ fp, ∃ o, s.heap.get? b = some o ∧ ∀ v, o.data ≠ .cell v) : Inv X (pins ++ pinsAt fp s.heap) σ H s :=
  I.pins_of fun p hp => (List.mem_append.mp hp).elim (fun z => I.pin p (List.mem_append_right _ z)) fun z => by
    obtain ⟨hb, e⟩ := of_pinsAt z
    obtain ⟨f0, f1, f2, _⟩ := hf p.1 hb
    obtain ⟨o, e', d⟩ := ho p.1 hb
    rw [e] at e'; cases e'
    exact ⟨e, f0, f1, f2, d⟩
theorem Inv.unpinned {pins pl : List (Addr × Obj)} {σ : St} {H : Hp} {s : Shared} (I : Inv X (pins ++ pl) σ H s) : Inv X pins σ H s := I.pins_of fun p hp => I.pin p (List.mem_append_right _ (List.mem_append_left _ hp))
theorem ps_for {iter : Expr} {body : List Stmt} {wi : TI} {g : TG} {tb : TS} {pos : Pos} (hp : PassesOwn (model X.prog X.w) X.A X.env X.xe) (hc : X.calm = true) (hi : PI X tg iter wi) (hg : PG X tg g) (hb : PSs X body tb)
    (hs : ∀ x, foldedSetIterable iter X.env x = pure x := by intro _; rfl) : PS X (.For tg iter body [] pos) (tFor wi g tb) := by
  intro pins s σ H D I h
  refine wpAny_For (thn (hi pins s σ H _ I h) fun v s1 h1 => thn h1 fun itv s2 h2 => ?_) hs
  obtain ⟨it, fp, tn, J, H2, e, I2, T, st2, f2, W, ⟨m0, w0⟩, turn⟩ := h2
  subst e
  -- what stays true of the iterator's objects through the loop
  have stat : ∀ {H' : Hp}, (∀ b ∈ fp, H' b = none) → ∀ b ∈ fp, FpOk X pins H' b := fun hn b hb => ⟨hn b hb, (f2 b hb).2⟩
  refine codeAny_forLoop_any (fun n s' => ∃ i σ' H', Inv X pins σ' H' s' ∧ tn i s'.heap ∧ (∀ b ∈ fp, H' b = none) ∧ W i n σ' H') ?_ m0 ⟨0, σ, H2, I2, st2, fun b hb => (f2 b hb).1, w0⟩
  rintro n s3 ⟨i, σ3, H3, I3, st3, fr3, w3⟩
  rcases turn i n σ3 H3 w3 with ⟨stop, qn⟩ | ⟨go, N, hN, step⟩
  · refine wpAny_passesOwn hp (thn (T.done X rfl rfl rfl hc i pins s3 σ3 H3 X.xe I3 (stat fr3) st3 stop) fun r s4 ⟨hr, I4⟩ => ?_)
    subst hr
    exact wpAny_execs_nil ⟨σ3, H3, I4, qn⟩
  · refine wpAny_passesOwn hp (thn (T.item X rfl rfl rfl hc i pins s3 σ3 H3 X.xe I3 (stat fr3) st3 go) fun r s4 ⟨u, hr, h4⟩ => ?_)
    subst hr
    refine wpAny_passesOwn hp (thn h4 fun _ s5 ⟨x, H5, I5, r5, y5, st5, fr5⟩ => ?_)
    have I5' := I5.pinned (stat fr5) (T.obj _ _ st5)
    refine wpAny_passesOwn hp (thn (hg _ s5 σ3 H5 x u _ I5' r5 (step x H5 y5)) fun _ s6 ⟨σ6, H6, I6, q6⟩ => ?_)
    refine wpAny_passesOwn hp (thn (hb _ s6 σ6 H6 _ I6 q6) fun f s7 q7 => ?_)
    have again : ∀ {σ7 : St} {H7 : Hp}, Inv X (pins ++ pinsAt fp s5.heap) σ7 H7 s7 → N σ7 H7 → ∃ m, m < n ∧ ∃ i σ' H', Inv X pins σ' H' s7 ∧ tn i s7.heap ∧ (∀ b ∈ fp, H' b = none) ∧ W i m σ' H' := fun {σ7 H7} I7 n7 => by
      obtain ⟨m', hm, w7⟩ := hN σ7 H7 n7
      refine ⟨m', hm, i + 1, σ7, H7, I7.unpinned, T.keep _ _ _ st5 fun b hb o e => (I7.pin (b, o) (List.mem_append_right _ (List.mem_append_right _ (mem_pinsAt hb e)))).1, fun b hb => ?_, w7⟩
      obtain ⟨o, e, d⟩ := T.obj _ _ st5 b hb
      exact (I7.pin (b, o) (List.mem_append_right _ (List.mem_append_right _ (mem_pinsAt hb e)))).2.1
    cases f with
    | next => obtain ⟨σ7, H7, I7, n7⟩ := q7; exact again I7 n7
    | cont => obtain ⟨σ7, H7, I7, n7⟩ := q7; exact again I7 n7
    | brk => obtain ⟨σ7, H7, I7, q7⟩ := q7; exact ⟨σ7, H7, I7.unpinned, q7⟩
    | ret v => obtain ⟨x7, σ7, H7, I7, r7, q7⟩ := q7; exact ⟨x7, σ7, H7, I7.unpinned, r7, q7⟩
end

/-! ### the forms one uses -/
/-- over a list that the body leaves as it is -/
theorem for_list {K : PySem.W.Frag} {a : Addr} {xs : List V} {g : TG} {tb : TS} {D : Ends} {σ : St} {H : Hp} (Pv : Nat → St → Hp → Prop) (h0 : Pv 0 σ H) (hl : ∀ i σ H, i ≤ xs.length → Pv i σ H → SqL K H a xs)
    (hs : ∀ i x σ H, xs[i]? = some x → Pv i σ H → g x σ H fun σ2 H2 => tb { D with nx := Pv (i + 1), ct := Pv (i + 1), bk := D.nx } σ2 H2) (hd : ∀ σ H, Pv xs.length σ H → D.nx σ H) :
    ∃ W : Nat → Nat → St → Hp → Prop, (∃ m, W 0 m σ H) ∧ ∀ i m σ H, W i m σ H →
      ((Itl K a).stop i H ∧ D.nx σ H) ∨ ((Itl K a).go i H ∧ ∃ N : St → Hp → Prop, (∀ σ' H', N σ' H' → ∃ m', m' < m ∧ W (i + 1) m' σ' H') ∧ ∀ x H', (Itl K a).yld i H x H' → g x σ H' fun σ2 H2 => tb { D with nx := N, ct := N, bk := D.nx } σ2 H2) := by
  refine ⟨fun i m σ H => m = xs.length - i ∧ i ≤ xs.length ∧ Pv i σ H, ⟨xs.length, by simp, Nat.zero_le _, h0⟩, ?_⟩
  rintro i m σ H ⟨rfl, hi, p⟩
  have q := hl i σ H hi p
  by_cases hlt : i < xs.length
  · refine .inr ⟨⟨xs, xs[i], q, by simp [hlt]⟩, Pv (i + 1), fun σ' H' p' => ⟨xs.length - (i + 1), by omega, rfl, hlt, p'⟩, fun x H' y => ?_⟩
    obtain ⟨e, y⟩ := y
    subst e
    exact hs i x σ _ (y xs q) p
  · have e : i = xs.length := by omega
    subst e
    exact .inl ⟨⟨xs, q, Nat.le_refl _⟩, hd σ H p⟩
end L2

namespace L2
open PySem PySem.Spec PyProof.Rows

abbrev R2 := V → V → Hp → VK → Prop
/-- a two-place operation on values: f is binaryOp op, inplaceOp op or compareOp op -/
def OpR (X : Cx) (f : Value → Value → Sem Value) (r : R2) : Prop :=
  ∀ (pins : List (Addr × Obj)) (s : Shared) (σ : St) (H : Hp) (x y : V) (v u : Value) (Q : VK), Inv X pins σ H s → RelV x v → RelV y u → r x y H Q →
    wpAny (model X.prog X.w) X.A (f v u) (EP X pins σ Q) X.xe s
/-- a one-place operation -/
def UnR (X : Cx) (f : Value → Sem Value) (r : V → Hp → VK → Prop) : Prop :=
  ∀ (pins : List (Addr × Obj)) (s : Shared) (σ : St) (H : Hp) (x : V) (v : Value) (Q : VK), Inv X pins σ H s → RelV x v → r x H Q →
    wpAny (model X.prog X.w) X.A (f v) (EP X pins σ Q) X.xe s
/-- a call of a value that is known (a builtin, a type) with values -/
def CallR (X : Cx) (f : Value) (r : List V → Hp → VK → Prop) : Prop :=
  ∀ (pins : List (Addr × Obj)) (s : Shared) (σ : St) (H : Hp) (xs : List V) (us : List Value) (Q : VK), Inv X pins σ H s → Vals xs us → r xs H Q →
    wpAny (model X.prog X.w) X.A (call f us) (EP X pins σ Q) X.xe s

def tOp (r : R2) (ta tb : TE) : TE := fun σ H Q => ta σ H fun x H1 => tb σ H1 fun y H2 => r x y H2 Q
def tUn (r : V → Hp → VK → Prop) (ta : TE) : TE := fun σ H Q => ta σ H fun x H1 => r x H1 Q
/-- ints in, under C, and a value out -/
def rI (C : Int → Int → Prop) (g : Int → Int → V) : R2 := fun x y H Q => ∃ i j, x = .int i ∧ y = .int j ∧ C i j ∧ Q (g i j) H
def rI0 (g : Int → Int → V) : R2 := fun x y H Q => ∃ i j, x = .int i ∧ y = .int j ∧ Q (g i j) H
def rU (g : Int → V) : V → Hp → VK → Prop := fun x H Q => ∃ i, x = .int i ∧ Q (g i) H

section
variable {X : Cx} {a b c : Expr} {ta tb tc : TE} {pos : Pos}

theorem binT (ha : PE X a ta) (hb : PE X b tb) {pins : List (Addr × Obj)} {s : Shared} {σ : St} {H : Hp} {R : V → V → Hp → Prop} (I : Inv X pins σ H s)
    (h : ta σ H fun x H1 => tb σ H1 fun y H2 => R x y H2) {Q : Value → Shared → Prop} {f : Value → Value → Sem Value}
    (hf : ∀ v u s2 x y H2, Inv X pins σ H2 s2 → RelV x v → RelV y u → R x y H2 → wpAny (model X.prog X.w) X.A (f v u) Q X.xe s2) :
    wpAny (model X.prog X.w) X.A (eval a X.env) (fun v s₁ => wpAny (model X.prog X.w) X.A (eval b X.env) (fun u s₂ => wpAny (model X.prog X.w) X.A (f v u) Q X.xe s₂) X.xe s₁) X.xe s := by
  refine thn (ha pins s σ H _ I h) fun v s1 ⟨x, H1, I1, r1, q1⟩ => ?_
  refine thn (hb pins s1 σ H1 _ I1 q1) fun u s2 ⟨y, H2, I2, r2, q2⟩ => ?_
  exact hf v u s2 x y H2 I2 r1 r2 q2

theorem pe_op {op : Operator} {r : R2} (ho : OpR X (binaryOp op) r) (ha : PE X a ta) (hb : PE X b tb) : PE X (.BinOp a op b pos) (tOp r ta tb) := by
  intro pins s σ H Q I h
  exact wpAny_BinOp (binT ha hb I h fun v u s2 x y H2 I2 rx ry q => ho pins s2 σ H2 x y v u Q I2 rx ry q)
theorem pe_un {op : UnaryOp} {r : V → Hp → VK → Prop} (ho : UnR X (unaryOp op) r) (ha : PE X a ta) : PE X (.UnaryOp op a pos) (tUn r ta) := by
  intro pins s σ H Q I h
  exact UnaryOp_ (thn (ha pins s σ H _ I h) fun v s1 ⟨x, H1, I1, r1, q1⟩ => ho pins s1 σ H1 x v Q I1 r1 q1)

/-! ### ints -/
theorem opI {f : Value → Value → Sem Value} {C : Int → Int → Prop} {g : Int → Int → Int}
    (rule : ∀ (i j : Int) (t u : Tok) (s : Shared) (Q : Value → Shared → Prop) (E : Value → Shared → Prop), C i j → Q (.int (g i j) s.toks) { s with toks := s.toks + 1 } → wpAny (model X.prog X.w) X.A (f (.int i t) (.int j u)) Q E s) :
    OpR X f (rI C fun i j => .int (g i j)) := by
  intro pins s σ H x y v u Q I rx ry h
  obtain ⟨i, j, rfl, rfl, hc, q⟩ := h
  obtain ⟨t, rfl⟩ := rx
  obtain ⟨t', rfl⟩ := ry
  exact rule i j t t' s _ _ hc ⟨.int (g i j), H, I.tok _, ⟨_, rfl⟩, q⟩
theorem opI0 {f : Value → Value → Sem Value} {g : Int → Int → Int}
    (rule : ∀ (i j : Int) (t u : Tok) (s : Shared) (Q : Value → Shared → Prop) (E : Value → Shared → Prop), Q (.int (g i j) s.toks) { s with toks := s.toks + 1 } → wpAny (model X.prog X.w) X.A (f (.int i t) (.int j u)) Q E s) :
    OpR X f (rI0 fun i j => .int (g i j)) := by
  intro pins s σ H x y v u Q I rx ry h
  obtain ⟨i, j, rfl, rfl, q⟩ := h
  obtain ⟨t, rfl⟩ := rx
  obtain ⟨t', rfl⟩ := ry
  exact rule i j t t' s _ _ ⟨.int (g i j), H, I.tok _, ⟨_, rfl⟩, q⟩
theorem opB0 {f : Value → Value → Sem Value} {g : Int → Int → Bool}
    (rule : ∀ (i j : Int) (t u : Tok) (s : Shared) (Q : Value → Shared → Prop) (E : Value → Shared → Prop), Q (.bool (g i j)) s → wpAny (model X.prog X.w) X.A (f (.int i t) (.int j u)) Q E s) :
    OpR X f (rI0 fun i j => .bl (g i j)) := by
  intro pins s σ H x y v u Q I rx ry h
  obtain ⟨i, j, rfl, rfl, q⟩ := h
  obtain ⟨t, rfl⟩ := rx
  obtain ⟨t', rfl⟩ := ry
  exact rule i j t t' s _ _ ⟨.bl (g i j), H, I, rfl, q⟩

def CDiv (i j : Int) : Prop := 0 < j ∧ j < 1073741824

theorem op_add : OpR X (binaryOp .Add) (rI0 fun i j => .int (i + j)) := opI0 fun _ _ _ _ _ _ _ q => add_int q
theorem op_sub : OpR X (binaryOp .Sub) (rI0 fun i j => .int (i - j)) := opI0 fun _ _ _ _ _ _ _ q => sub_int q
/-- // by a positive divisor -/
theorem op_fdiv : OpR X (binaryOp .FloorDiv) (rI CDiv fun i j => .int (i / j)) := opI fun i j _ _ _ _ _ hc q => by
  have h1 : (0 : Int) < j := hc.1
  have h2 : j < 1073741824 := hc.2
  exact floordiv_int (by omega) (by rw [Int.fdiv_eq_ediv_of_nonneg i (by omega)]; exact q) (.inl (PyProof.noPylong_small (by omega)))
/-- % by a positive divisor of any size -/
theorem op_mod : OpR X (binaryOp .Mod) (rI (fun _ j => 0 < j) fun i j => .int (i % j)) := opI fun i j _ _ _ _ _ hc q => by
  have h1 : (0 : Int) < j := hc
  exact mod_int' (by omega) (by rw [Int.fmod_eq_emod_of_nonneg i (by omega)]; exact q)
theorem op_and : OpR X (binaryOp .BitAnd) (rI0 fun i j => .int (Builtin.bitAnd i j)) := opI0 fun _ _ _ _ _ _ _ q => and_int q
theorem op_or : OpR X (binaryOp .BitOr) (rI0 fun i j => .int (Builtin.bitOr i j)) := opI0 fun _ _ _ _ _ _ _ q => or_int q


theorem unI {f : Value → Sem Value} {g : Int → Int}
    (rule : ∀ (i : Int) (t : Tok) (s : Shared) (Q : Value → Shared → Prop) (E : Value → Shared → Prop), Q (.int (g i) s.toks) { s with toks := s.toks + 1 } → wpAny (model X.prog X.w) X.A (f (.int i t)) Q E s) :
    UnR X f (rU fun i => .int (g i)) := by
  intro pins s σ H x v Q I rx h
  obtain ⟨i, rfl, q⟩ := h
  obtain ⟨t, rfl⟩ := rx
  exact rule i t s _ _ ⟨.int (g i), H, I.tok _, ⟨_, rfl⟩, q⟩
theorem un_inv : UnR X (unaryOp .Invert) (rU fun i => .int (Builtin.bitNot i)) := unI fun _ _ _ _ _ q => invert_int q

/-! ### bools among ints: n += (a < b) -/
end

/-! ### comparisons -/
/-- the scalars that == tells apart as data does -/
def scal : V → V → Bool
  | .non, .non => true | .non, .int _ => true | .int _, .non => true | .non, .bl _ => true | .bl _, .non => true | .non, .str _ => true | .str _, .non => true
  | .int _, .int _ => true | .bl _, .bl _ => true | .str _, .str _ => true | .byt _, .byt _ => true
  | .int _, .str _ => true | .str _, .int _ => true | .bl _, .str _ => true | .str _, .bl _ => true
  | _, _ => false
def rEq : R2 := fun x y H Q => scal x y = true ∧ Q (.bl (decide (x = y))) H
def rNe : R2 := fun x y H Q => scal x y = true ∧ Q (.bl (!decide (x = y))) H

theorem dec_int {i j : Int} : decide (V.int i = V.int j) = (i == j) := by
  rw [Bool.eq_iff_iff]
  simp
theorem dec_bl {i j : Bool} : decide (V.bl i = V.bl j) = (i == j) := by
  rw [Bool.eq_iff_iff]
  simp
theorem dec_str {i j : Str} : decide (V.str i = V.str j) = (i == j) := by
  rw [Bool.eq_iff_iff]
  simp
theorem dec_byt {i j : Array UInt8} : decide (V.byt i = V.byt j) = (i.toList == j.toList) := by
  rw [Bool.eq_iff_iff]
  cases i
  cases j
  simp

section
variable {X : Cx} {a b c : Expr} {ta tb tc : TE} {pos : Pos}
theorem fin_bl {pins : List (Addr × Obj)} {σ : St} {H : Hp} {s : Shared} {Q : VK} {k k' : Bool} (I : Inv X pins σ H s) (q : Q (.bl k) H) (e : k = k') : EP X pins σ Q (.bool k') s := by
  subst e
  exact ⟨.bl k, H, I, rfl, q⟩
theorem op_eq : OpR X (compareOp .Eq) rEq := by
  intro pins s σ H x y v u Q I rx ry h
  obtain ⟨hs, q⟩ := h
  cases x with
  | non =>
    cases rx
    cases y with
    | non => cases ry; exact PySem.EqNone.eq_none_none (fin_bl I q (by simp))
    | bl j => cases ry; exact PySem.EqNone.eq_none_bool (fin_bl I q (by simp))
    | int j => obtain ⟨t', rfl⟩ := ry; exact PySem.EqNone.eq_none_int (fin_bl I q (by simp))
    | str j => obtain ⟨t', rfl⟩ := ry; exact PySem.EqNone.eq_none_str (fin_bl I q (by simp))
    | _ => exact absurd (show false = true from hs) Bool.false_ne_true
  | bl i =>
    cases rx
    cases y with
    | non => cases ry; exact PySem.EqNone.eq_bool_none (fin_bl I q (by simp))
    | bl j => cases ry; exact eq_bool (fin_bl I q dec_bl)
    | str j => obtain ⟨t', rfl⟩ := ry; exact PySem.EqMixed.eq_bool_str (fin_bl I q (by simp))
    | _ => exact absurd (show false = true from hs) Bool.false_ne_true
  | int i =>
    obtain ⟨t, rfl⟩ := rx
    cases y with
    | non => cases ry; exact PySem.EqNone.eq_int_none (fin_bl I q (by simp))
    | int j => obtain ⟨t', rfl⟩ := ry; exact eq_int (fin_bl I q dec_int)
    | str j => obtain ⟨t', rfl⟩ := ry; exact PySem.EqMixed.eq_int_str (fin_bl I q (by simp))
    | _ => exact absurd (show false = true from hs) Bool.false_ne_true
  | str i =>
    obtain ⟨t, rfl⟩ := rx
    cases y with
    | non => cases ry; exact PySem.EqNone.eq_str_none (fin_bl I q (by simp))
    | bl j => cases ry; exact PySem.EqMixed.eq_str_bool (fin_bl I q (by simp))
    | int j => obtain ⟨t', rfl⟩ := ry; exact PySem.EqMixed.eq_str_int (fin_bl I q (by simp))
    | str j => obtain ⟨t', rfl⟩ := ry; exact eq_str (fin_bl I q dec_str)
    | _ => exact absurd (show false = true from hs) Bool.false_ne_true
  | byt i =>
    obtain ⟨t, rfl⟩ := rx
    cases y with
    | byt j => obtain ⟨t', rfl⟩ := ry; exact PySem.W.eq_bytes (fin_bl I q dec_byt)
    | _ => exact absurd (show false = true from hs) Bool.false_ne_true
  | _ => cases y <;> exact absurd (show false = true from hs) Bool.false_ne_true
theorem op_ne : OpR X (compareOp .NotEq) rNe := by
  intro pins s σ H x y v u Q I rx ry h
  obtain ⟨hs, q⟩ := h
  cases x with
  | non =>
    cases rx
    cases y with
    | non => cases ry; exact PySem.EqNone.ne_none_none (fin_bl I q (by simp))
    | bl j => cases ry; exact PySem.EqNone.ne_none_bool (fin_bl I q (by simp))
    | int j => obtain ⟨t', rfl⟩ := ry; exact PySem.EqNone.ne_none_int (fin_bl I q (by simp))
    | str j => obtain ⟨t', rfl⟩ := ry; exact PySem.EqNone.ne_none_str (fin_bl I q (by simp))
    | _ => exact absurd (show false = true from hs) Bool.false_ne_true
  | bl i =>
    cases rx
    cases y with
    | non => cases ry; exact PySem.EqNone.ne_bool_none (fin_bl I q (by simp))
    | bl j => cases ry; exact ne_bool (fin_bl I q (congrArg not dec_bl))
    | str j => obtain ⟨t', rfl⟩ := ry; exact PySem.EqMixed.ne_bool_str (fin_bl I q (by simp))
    | _ => exact absurd (show false = true from hs) Bool.false_ne_true
  | int i =>
    obtain ⟨t, rfl⟩ := rx
    cases y with
    | non => cases ry; exact PySem.EqNone.ne_int_none (fin_bl I q (by simp))
    | int j => obtain ⟨t', rfl⟩ := ry; exact ne_int (fin_bl I q (congrArg not dec_int))
    | str j => obtain ⟨t', rfl⟩ := ry; exact PySem.EqMixed.ne_int_str (fin_bl I q (by simp))
    | _ => exact absurd (show false = true from hs) Bool.false_ne_true
  | str i =>
    obtain ⟨t, rfl⟩ := rx
    cases y with
    | non => cases ry; exact PySem.EqNone.ne_str_none (fin_bl I q (by simp))
    | bl j => cases ry; exact PySem.EqMixed.ne_str_bool (fin_bl I q (by simp))
    | int j => obtain ⟨t', rfl⟩ := ry; exact PySem.EqMixed.ne_str_int (fin_bl I q (by simp))
    | str j => obtain ⟨t', rfl⟩ := ry; exact ne_str (fin_bl I q (congrArg not dec_str))
    | _ => exact absurd (show false = true from hs) Bool.false_ne_true
  | byt i =>
    obtain ⟨t, rfl⟩ := rx
    cases y with
    | byt j => obtain ⟨t', rfl⟩ := ry; exact PySem.W.ne_bytes (fin_bl I q (congrArg not dec_byt))
    | _ => exact absurd (show false = true from hs) Bool.false_ne_true
  | _ => cases y <;> exact absurd (show false = true from hs) Bool.false_ne_true

theorem op_lt : OpR X (compareOp .Lt) (rI0 fun i j => .bl (decide (i < j))) := opB0 fun _ _ _ _ _ _ _ q => lt_int q
theorem op_le : OpR X (compareOp .LtE) (rI0 fun i j => .bl (decide (i ≤ j))) := opB0 fun _ _ _ _ _ _ _ q => le_int q
theorem op_gt : OpR X (compareOp .Gt) (rI0 fun i j => .bl (decide (j < i))) := opB0 fun _ _ _ _ _ _ _ q => gt_int q
theorem op_ge : OpR X (compareOp .GtE) (rI0 fun i j => .bl (decide (j ≤ i))) := opB0 fun _ _ _ _ _ _ _ q => ge_int q




theorem nomark (b : Expr) {op : CmpOp} (h : op ≠ .In := by decide) (h2 : op ≠ .NotIn := by decide) : behindInMarks op b = false := by
  have e1 : (op == CmpOp.In) = false := by cases op <;> first | rfl | exact absurd rfl h
  have e2 : (op == CmpOp.NotIn) = false := by cases op <;> first | rfl | exact absurd rfl h2
  cases b <;> simp [behindInMarks, e1, e2]
/-- a comparison as a value; hm: nomark b, or (for in, not in) by with_unfolding_all rfl -/
theorem pe_cmpR {op : CmpOp} {r : R2} (ho : OpR X (compareOp op) r) (ha : PE X a ta) (hb : PE X b tb) (hm : behindInMarks op b = false) : PE X (.Compare a [op] [b] pos) (tOp r ta tb) := by
  intro pins s σ H Q I h
  exact wpAny_Compare1 (binT ha hb I h fun v u s2 x y H2 I2 rx ry q => ho pins s2 σ H2 x y v u Q I2 rx ry q) hm
/-- a reading of a value as a test -/
def tTest (t : TE) : TT := fun σ H Q => t σ H fun x H' => ∃ k, x = .bl k ∧ Q k H'
theorem pt_cmpR {op : CmpOp} {r : R2} (ho : OpR X (compareOp op) r) (ha : PE X a ta) (hb : PE X b tb) (hm : behindInMarks op b = false) : PT X (.Compare a [op] [b] pos) (tTest (tOp r ta tb)) := by
  intro pins s σ H Q I h
  refine wpAny_isTrue_Compare1 (thn (ha pins s σ H _ I h) fun v s1 ⟨x, H1, I1, r1, q1⟩ => thn (hb pins s1 σ H1 _ I1 q1) fun u s2 ⟨y, H2, I2, r2, q2⟩ =>
    thn (ho pins s2 σ H2 x y v u _ I2 r1 r2 q2) fun c s3 ⟨z, H3, I3, r3, k, e, q3⟩ => ?_) hm
  subst e
  cases r3
  exact wpAny_truthy_bool ⟨H3, I3, q3⟩

/-! ### truth -/
theorem line63 : (sizeLine : Nat) < 2 ^ 63 := by rw [sizeLine_eq]; decide

/-! ### strs and bytes -/


/-! ### scalar builtins, by CallR -/
theorem vals1 {x : V} {us : List Value} (r : Vals [x] us) : ∃ u, us = [u] ∧ RelV x u := by
  cases r with
  | cons r1 r2 => cases r2; exact ⟨_, rfl, r1⟩
end
end L2

namespace L2
open PySem PySem.Spec PyProof.Rows

/-! ### an instance, its attributes a map -/
structure ObjM (h : Heap) (x dx C : Addr) (mA : Str → Option Value) : Prop where
  obj : h.get? x = some (PySem.W.instObj C dx)
  ns : h.Ns1 dx mA
  ne : dx ≠ x

theorem lookIn_ns {h : Heap} {dx : Addr} {mA : Str → Option Value} (n : h.Ns1 dx mA) : ∃ od, h.get? dx = some od ∧ ∀ name, PySem.W.lookIn name od = some (mA name) := by
  obtain ⟨o, es, ep, ho, hd, hk, _, hm⟩ := n
  refine ⟨o, ho, fun name => ?_⟩
  have e := hm name
  unfold nsFind findBy at e
  rw [← Array.find?_toList] at e
  unfold PySem.W.lookIn
  rw [hd]
  dsimp only
  split
  · rename_i y q
    rw [q] at e
    exact congrArg some e
  · rename_i q
    rw [q] at e
    have a : es.toList.any (·.refKey) = false := by
      rw [List.any_eq_false]
      intro y hy
      obtain ⟨z, t, hkey⟩ := hk y (Array.mem_toList_iff.mp hy)
      simp [DictEntry.refKey, hkey]
    have a' : ¬ es.toList.any (·.refKey) = true := by rw [a]; exact Bool.false_ne_true
    rw [if_neg a']
    exact congrArg some e

theorem ObjM.look {h : Heap} {x dx C : Addr} {mA : Str → Option Value} (I : ObjM h x dx C mA) : ∃ od, PySem.W.InstAt h x (PySem.W.instObj C dx) C (some od) ∧ ∀ name, PySem.W.lookIn name od = some (mA name) :=
  let ⟨od, ho, hl⟩ := lookIn_ns I.ns
  ⟨od, ⟨I.obj, rfl, rfl, ho⟩, hl⟩

section
variable {prog : Program} {w : World} {A : Around} {E : Value → Shared → Prop} {s : Shared} {K : PySem.W.Frag} {x dx C f : Addr} {mA : Str → Option Value} {name : Str} {v : Value}

theorem get_map {expr : Bool} {Q : Value → Shared → Prop} (X : K.In s.heap) (I : ObjM s.heap x dx C mA) (hg : PySem.W.plainGet K C name = true) (hh : PySem.W.hasDictIn K C = true)
    (ha : PySem.W.findIn K (.ref C) name = some none) (hv : mA name = some v) (hv' : PySem.W.handedIn v = true) (h : Q v { s with toks := s.toks + 1 }) :
    wpAny (model prog w) A (getAttr (.ref x) name expr) Q E s := by
  obtain ⟨od, J, hl⟩ := I.look
  exact PySem.W.get_value X J (PySem.W.plainGet_of hg).1 (PySem.W.findObj_own hh ha rfl (by rw [hl, hv])) hv' h


theorem get_meth {pl : Sem Bool} {Q : Value × List Value → Shared → Prop} (X : K.In s.heap) (I : ObjM s.heap x dx C mA) (hg : PySem.W.plainGet K C name = true)
    (hf : PySem.W.findIn K (.ref C) name = some (some (.ref f))) (ht : PySem.W.isFn K (.ref f) = true) (hv : mA name = none) (h : Q (.ref f, [.ref x]) s) :
    wpAny (model prog w) A (getMethod (.ref x) name pl) Q E s := by
  obtain ⟨od, J, hl⟩ := I.look
  exact PySem.W.method_fn X J (PySem.W.plainGet_of hg).1 (PySem.W.plainGet_of hg).2 hf (beq_iff_eq.mp ht) (by show (PySem.W.lookIn name od).map (·.isSome) = some false; rw [hl, hv]; rfl) h

theorem set_map {ns : List Str} {Q : Unit → Shared → Prop} (X : K.In s.heap) (I : ObjM s.heap x dx C mA)
    (hs : PySem.W.findIn K (.ref C) "__setattr__" = some (some (.builtin "object.__setattr__"))) (hp : PySem.W.plainOver K C = true) (ht : PySem.W.takerIn K C name = some none) (hh : PySem.W.hasDictIn K C = true)
    (hw : PySem.Within mA ns) (hsz : ns.length ≤ sizeLine)
    (h : ∀ h', ObjM h' x dx C (fun y => if y = name then some v else mA y) → Heap.SameBut dx s.heap h' → Q () { s with heap := h', toks := s.toks + 2 }) :
    wpAny (model prog w) A (setAttr (.ref x) name v) Q E s := by
  obtain ⟨od, J, hl⟩ := I.look
  refine PySem.W.set_plain X J hs (PySem.W.osa_open (s := { s with toks := s.toks + 1 }) (r := none) X J hp ht fun b => ?_)
  obtain ⟨cd, hc, hd'⟩ := PySem.W.any_some hh
  have hx : s.heap.get? x = some ⟨.ref C, some dx, .plain, #[]⟩ := I.obj
  refine wpAny_bind (wpAny_pure (wpAny_bind (wpAny_bind (wpAny_loadPart hx (wpAny_bind (PySem.W.Looks.here (s := { s with toks := s.toks + 1 }) (PySem.W.looks_clsIn X hc) ?_))))))
  rw [hd']
  refine wpAny_pure (a := some dx) (wpAny_bind (wpAny_pure (wpAny_bind ?_)))
  refine wpAny_nsSet1 (s := { s with toks := s.toks + 1 }) I.ns fun h' hn2 hs2 => ?_
  obtain ⟨oD, esD, epD, hoD, hdD, hcD⟩ := hn2.count (PySem.Within.cons name v hw)
  refine wpAny_bind (wpAny_lookBehind hoD (by rw [hdD]; exact pastItsLine_dict (Nat.le_trans hcD (by rw [List.length_cons]; omega))) ?_)
  exact wpAny_pure (h _ ⟨(hs2.2 _ (Ne.symm I.ne)).trans I.obj, hn2, I.ne⟩ hs2)

/-- C(..): the dict at the heap's end, the instance behind it; then its __init__ -/
theorem make_map {R : Result → Shared → Prop} {vs : List Value} {kw : List (Str × Value)} (X : K.In s.heap) (hm : PySem.W.makesIn K C = true)
    (hi : PySem.W.findIn K (.ref C) "__init__" = some (some (.ref f))) (hf : PySem.W.typeIn K (.ref f) = some (.type "function"))
    (h : codeAny (model prog w) (A.under (.builtin "type.__call__" ⟨.ref C :: vs, kw⟩)) (.call (.ref f) ⟨.ref (s.heap.objs.size + 1) :: vs, kw⟩) (PySem.W.InitBack (s.heap.objs.size + 1) R)
      { s with heap := (s.heap.push PySem.W.emptyDict).push (PySem.W.instObj C s.heap.objs.size) }) :
    codeAny (model prog w) A (.call (.ref C) ⟨vs, kw⟩) R s := by
  obtain ⟨hh, g, d, t, os⟩ := s
  exact PySem.W.make_core (PySem.W.makes_of X hm) (PySem.W.looks_findIn X hi) (fun self => PySem.W.bind_fn X self hf) (.inl rfl) h
end

/-! ### the attributes as a list of pairs -/
def putF (f : Str) (v : V) : List (Str × V) → List (Str × V)
  | [] => [(f, v)]
  | (g, x) :: r => if g = f then (g, v) :: r else (g, x) :: putF f v r
theorem lookup_putF (f g : Str) (v : V) : ∀ fs : List (Str × V), (putF f v fs).lookup g = if g = f then some v else fs.lookup g
  | [] => by
    show List.lookup g [(f, v)] = _
    by_cases h : g = f
    · have hb : (g == f) = true := beq_iff_eq.mpr h
      simp only [List.lookup, hb, if_pos h]
    · have hb : (g == f) = false := beq_eq_false_iff_ne.mpr h
      simp only [List.lookup, hb, if_neg h]
  | (k, x) :: r => by
    have ih := lookup_putF f g v r
    rw [show putF f v ((k, x) :: r) = (if k = f then (k, v) :: r else (k, x) :: putF f v r) from rfl]
    by_cases hk : k = f
    · rw [if_pos hk]
      by_cases h : g = k
      · have hb : (g == k) = true := beq_iff_eq.mpr h
        simp only [List.lookup, hb, if_pos (h.trans hk)]
      · have hb : (g == k) = false := beq_eq_false_iff_ne.mpr h
        simp only [List.lookup, hb, if_neg (fun e : g = f => h (e.trans hk.symm))]
    · rw [if_neg hk]
      by_cases h : g = k
      · have hb : (g == k) = true := beq_iff_eq.mpr h
        simp only [List.lookup, hb, if_neg (fun e : g = f => hk (h.symm.trans e))]
      · have hb : (g == k) = false := beq_eq_false_iff_ne.mpr h
        simp only [List.lookup, hb]
        exact ih
theorem keys_putF (f : Str) (v : V) : ∀ fs : List (Str × V), f ∈ (putF f v fs).map (·.1) ∧ ∀ g, g ∈ fs.map (·.1) → g ∈ (putF f v fs).map (·.1)
  | [] => ⟨by simp [putF], fun g h => by simp at h⟩
  | (k, x) :: r => by
    obtain ⟨i1, i2⟩ := keys_putF f v r
    rw [show putF f v ((k, x) :: r) = (if k = f then (k, v) :: r else (k, x) :: putF f v r) from rfl]
    by_cases hk : k = f
    · rw [if_pos hk]
      subst hk
      exact ⟨by simp, fun g h => by simpa using h⟩
    · rw [if_neg hk]
      refine ⟨?_, fun g h => ?_⟩
      · rw [List.map_cons]
        exact List.mem_cons_of_mem _ i1
      · rw [List.map_cons] at h ⊢
        rcases List.mem_cons.mp h with e | e
        · exact List.mem_cons.mpr (.inl e)
        · exact List.mem_cons_of_mem _ (i2 g e)
theorem length_putF (f : Str) (v : V) : ∀ fs : List (Str × V), (putF f v fs).length ≤ fs.length + 1
  | [] => by simp [putF]
  | (k, x) :: r => by
    have ih := length_putF f v r
    rw [show putF f v ((k, x) :: r) = (if k = f then (k, v) :: r else (k, x) :: putF f v r) from rfl]
    by_cases hk : k = f
    · rw [if_pos hk, List.length_cons, List.length_cons]; omega
    · rw [if_neg hk, List.length_cons, List.length_cons]; omega

theorem RelO.some_of {v : V} {o : Option Value} (r : RelO (some v) o) : ∃ u, o = some u ∧ RelV v u := by
  cases o with
  | none => exact (show False from r).elim
  | some u => exact ⟨u, rfl, r⟩
theorem RelO.none_of {o : Option Value} (r : RelO none o) : o = none := by
  cases o with
  | none => rfl
  | some u => exact (show False from r).elim
theorem handed_of {v : V} {u : Value} (r : RelV v u) : PySem.W.handedIn u = true := by
  cases v with
  | non => cases (show u = Value.none from r); rfl
  | bl b => cases (show u = Value.bool b from r); rfl
  | int i => obtain ⟨t, e⟩ := (show ∃ t, u = Value.int i t from r); cases e; rfl
  | str x => obtain ⟨t, e⟩ := (show ∃ t, u = Value.str x t from r); cases e; rfl
  | byt b => obtain ⟨t, e⟩ := (show ∃ t, u = Value.bytes b t from r); cases e; rfl
  | flt b => obtain ⟨t, e⟩ := (show ∃ t, u = Value.float b t from r); cases e; rfl
  | ref a => cases (show u = Value.ref a from r); rfl
  | ty n => cases (show u = Value.type n from r); rfl

section
variable {P : Program} {w : World} {H H' : Hp} {h h' : Heap} {a C dx : Addr} {fs fs' : List (Str × V)}
theorem ins_get (hok : HOk P w H h) (e : H a = some (.ins C dx fs)) : ∃ mA, ObjM h a dx C mA ∧ (∀ f, RelO (fs.lookup f) (mA f)) ∧ PySem.Within mA (fs.map (·.1)) ∧ fs.length ≤ 1000 ∧ H dx = some (.own a) := by
  obtain ⟨d, z, ne, ob, mA, n, r, q⟩ := (show ObjOk P w H h a (.ins C dx fs) from hok a _ e)
  exact ⟨mA, ⟨ob, n, ne⟩, r, q, z, d⟩
end

/-! ### what of the text a class must have -/
structure Cls (K : PySem.W.Frag) (C : Addr) : Prop where
  pg : PySem.W.plainGet K C Str.empty = true
  hd : PySem.W.hasDictIn K C = true
  po : PySem.W.plainOver K C = true
  sa : PySem.W.findIn K (.ref C) "__setattr__" = some (some (.builtin "object.__setattr__"))
theorem Cls.get {K : PySem.W.Frag} {C : Addr} (c : Cls K C) (f : Str) : PySem.W.plainGet K C f = true := c.pg
/-- no class of it has the name -/
def NoAttr (K : PySem.W.Frag) (C : Addr) (f : Str) : Prop := PySem.W.findIn K (.ref C) f = some none
theorem NoAttr.taker {K : PySem.W.Frag} {C : Addr} {f : Str} (n : NoAttr K C f) : PySem.W.takerIn K C f = some none := by
  unfold PySem.W.takerIn
  rw [show PySem.W.findIn K (.ref C) f = some none from n]
  rfl
/-- a method: a plain def of the class or of one above it -/
structure Meth (K : PySem.W.Frag) (C : Addr) (m : Str) (f : Addr) : Prop where
  at_ : PySem.W.findIn K (.ref C) m = some (some (.ref f))
  fn : PySem.W.isFn K (.ref f) = true
  kp : PySem.W.keepIn K (.ref f) = true

section
variable {X : Cx} {pins : List (Addr × Obj)} {σ : St} {H : Hp} {s : Shared} {a C dx : Addr} {fs : List (Str × V)} {f : Str} {v : V} {A : Around} {E : Value → Shared → Prop}

theorem getattr_ok {b : Bool} {Q : Value → Shared → Prop} (I : Inv X pins σ H s) (e : H a = some (.ins C dx fs)) (c : Cls X.K C) (n : NoAttr X.K C f) (l : fs.lookup f = some v)
    (h : ∀ u s', Inv X pins σ H s' → RelV v u → Q u s') : wpAny (model X.prog X.w) A (getAttr (.ref a) f b) Q E s := by
  obtain ⟨mA, O, r, _, _, _⟩ := ins_get I.hok e
  obtain ⟨u, hu, ru⟩ := RelO.some_of (v := v) (o := mA f) (by rw [← l]; exact r f)
  exact get_map I.kIn O (c.get f) c.hd n hu (handed_of ru) (h u _ (I.tok _) ru)


theorem getmeth_ok {m : Str} {g : Addr} {pl : Sem Bool} {Q : Value × List Value → Shared → Prop} (I : Inv X pins σ H s) (e : H a = some (.ins C dx fs)) (c : Cls X.K C) (k : Meth X.K C m g) (l : fs.lookup m = none)
    (h : Q (.ref g, [.ref a]) s) : wpAny (model X.prog X.w) A (getMethod (.ref a) m pl) Q E s := by
  obtain ⟨mA, O, r, _, _, _⟩ := ins_get I.hok e
  have hn : mA m = none := RelO.none_of (by rw [← l]; exact r m)
  exact get_meth I.kIn O (c.get m) k.at_ k.fn hn h

theorem setattr_ok {y : V} {u : Value} {Q : Unit → Shared → Prop} (I : Inv X pins σ H s) (e : H a = some (.ins C dx fs)) (c : Cls X.K C) (n : NoAttr X.K C f) (hl : fs.length < 1000) (ry : RelV y u)
    (h : ∀ s', Inv X pins σ (upd H a (.ins C dx (putF f y fs))) s' → Q () s') : wpAny (model X.prog X.w) A (setAttr (.ref a) f u) Q E s := by
  obtain ⟨mA, O, r, wi, _, ho⟩ := ins_get I.hok e
  have hz : (fs.map (·.1)).length ≤ sizeLine := by rw [List.length_map, sizeLine_eq]; omega
  refine set_map I.kIn O c.sa c.po n.taker c.hd wi hz fun h' O' sb => h _ ?_
  have hd : ∃ o, h'.get? dx = some o := let ⟨o, _, _, e', _⟩ := O'.ns; ⟨o, e'⟩
  refine I.write (x := a) (e := dx) (by rw [e]; exact True.intro) (.inr ho) (fun b q hb z => (sb.2 b hb).trans z) hd ?_
  refine ⟨by rw [upd_ne O.ne]; exact ho, ?_, O.ne, O'.obj, _, O'.ns, fun g => ?_, fun g hg => ?_⟩
  · have := length_putF f y fs; omega
  · show RelO ((putF f y fs).lookup g) (if g = f then some u else mA g)
    rw [lookup_putF]
    by_cases q : g = f
    · rw [if_pos q, if_pos q]; exact ry
    · rw [if_neg q, if_neg q]; exact r g
  · by_cases q : g = f
    · rw [q]; exact (keys_putF f y fs).1
    · refine (keys_putF f y fs).2 g (wi g fun z => hg ?_)
      show (if g = f then some u else mA g) = none
      rw [if_neg q]; exact z

/-- a new instance, tracked, without attributes -/
theorem Inv.made (I : Inv X pins σ H s) : Inv X pins σ (upd (upd H s.heap.objs.size (.own (s.heap.objs.size + 1))) (s.heap.objs.size + 1) (.ins C s.heap.objs.size []))
    { s with heap := (s.heap.push PySem.W.emptyDict).push (PySem.W.instObj C s.heap.objs.size) } := by
  have e1 : (s.heap.push PySem.W.emptyDict).get? s.heap.objs.size = some PySem.W.emptyDict := Heap.get?_push_size s.heap rfl
  have e2 : ((s.heap.push PySem.W.emptyDict).push (PySem.W.instObj C s.heap.objs.size)).get? (s.heap.objs.size + 1) = some (PySem.W.instObj C s.heap.objs.size) := by
    have := Heap.get?_push_size (s.heap.push PySem.W.emptyDict) (o := PySem.W.instObj C s.heap.objs.size) rfl
    rwa [Heap.size_push] at this
  have e3 : (s.heap.push PySem.W.emptyDict).Ns s.heap.objs.size (fun _ => none) := ⟨PySem.W.emptyDict, #[], _, e1, rfl, (fun e he => absurd he (by simp)), fun _ => rfl⟩
  have I1 := I.laid (a := s.heap.objs.size) (o := .own (s.heap.objs.size + 1)) (h' := s.heap.push PySem.W.emptyDict) (t' := s.toks) (fun b u q => Heap.get?_push_of_some _ q) (Nat.le_refl _) ⟨_, e1⟩
  refine I1.laid (a := s.heap.objs.size + 1) (o := .ins C s.heap.objs.size []) (t' := s.toks) (fun b u q => Heap.get?_push_of_some _ q) (Nat.le_of_eq (Heap.size_push _ _)) ?_
  have ne : s.heap.objs.size ≠ s.heap.objs.size + 1 := Nat.ne_of_lt (Nat.lt_succ_self _)
  refine ⟨by rw [upd_ne ne, upd_same], Nat.zero_le _, ne, e2, fun _ => none, (Heap.Ns1.of_empty e3).at fun o q => Heap.get?_push_of_some _ q, fun _ => True.intro, fun y hy => absurd rfl hy⟩

/-- e.f where nothing but the object is asked: through attributeBase (super) and the last hold -/
theorem attr_of {prog : Program} {w : World} {env : Env} {e : Expr} {f : Str} {pos : Pos} {s : Shared} {Q : Value → Shared → Prop} (hb : attributeBase e f env (eval e env) = eval e env)
    (h : wpAny (model prog w) A (eval e env) (fun o s₁ => wpAny (model prog w) A (getAttr o f true) Q E s₁) E s) : wpAny (model prog w) A (eval (.Attribute e f pos) env) Q E s :=
  Attribute_any_ h (by rw [arm_eval_Attribute, hb])
end

/-! ### readings and rules -/
/-- e.f, an attribute of the instance -/
def tFld (K : PySem.W.Frag) (ta : TE) (f : Str) : TE := fun σ H Q => ta σ H fun x H1 => ∃ a C dx fs v, x = .ref a ∧ H1 a = some (.ins C dx fs) ∧ Cls K C ∧ NoAttr K C f ∧ fs.lookup f = some v ∧ Q v H1
/-- e.f = value -/
def sFld (K : PySem.W.Frag) (ta tv : TE) (f : Str) : TS := fun D σ H => tv σ H fun y H1 => ta σ H1 fun x H2 => ∃ a C dx fs, x = .ref a ∧ H2 a = some (.ins C dx fs) ∧ Cls K C ∧ NoAttr K C f ∧ fs.length < 1000 ∧
  D.nx σ (upd H2 a (.ins C dx (putF f y fs)))

section
variable {X : Cx} {o e value : Expr} {f : Str} {pos pos' tpos : Pos} {ta tv : TE}
theorem pe_fld (he : PE X e ta) (hb : attributeBase e f X.env (eval e X.env) = eval e X.env) : PE X (.Attribute e f pos) (tFld X.K ta f) := by
  intro pins s σ H Q I h
  refine attr_of hb (thn (he pins s σ H _ I h) fun u s1 ⟨x, H1, I1, rx, a, C, dx, fs, v, ex, ea, c, n, l, q⟩ => ?_)
  subst ex
  obtain rfl : u = Value.ref a := rx
  exact getattr_ok I1 ea c n l fun u' s2 I2 ru => ⟨v, H1, I2, ru, q⟩
theorem ps_fld (ha : PE X o ta) (hv : PE X value tv) (hs : swapsWith value (some (.Attribute o f pos')) pos.line X.env = pure false) : PS X (.Assign [.Attribute o f pos'] value pos) (sFld X.K ta tv f) := by
  intro pins s σ H D I h
  refine plainObj_wpAny_Assign_Attribute (thn (hv pins s σ H _ I h) fun u s1 ⟨y, H1, I1, ry, q⟩ => thn (ha pins s1 σ H1 _ I1 q) fun ov s2 ⟨x, H2, I2, rx, a, C, dx, fs, ex, ea, c, n, l, q2⟩ => ?_) hs
  subst ex
  obtain rfl : ov = Value.ref a := rx
  exact setattr_ok I2 ea c n l ry fun s3 I3 => ⟨σ, _, I3, q2⟩

end

/-! ### isinstance -/
section
variable {X : Cx} {pins : List (Addr × Obj)} {σ : St} {H : Hp} {s : Shared} {A : Around} {E : Value → Shared → Prop} {Q : Value → Shared → Prop} {c : Value} {b : Bool}
end
end L2

namespace L2
open PySem PySem.Spec PyProof.Rows

/-! ### room -/
structure Room (k : Nat) (A : Around) : Prop where
  hd : A.handled = none
  dp : A.depth + 3 * k + 5 < recursionLimit
  un : A.units + 16 * k + 200 < cLine
theorem Room.mono {j k : Nat} {A : Around} (r : Room k A) (h : j ≤ k) : Room j A := ⟨r.hd, by have := r.dp; omega, by have := r.un; omega⟩
theorem Room.deeper {k : Nat} {A : Around} (r : Room (k + 1) A) (env : Env) : Room k (A.deeper env) :=
  ⟨r.hd, by have := r.dp; show A.depth + 1 + 3 * k + 5 < _; omega, by have := r.un; show A.units + 3 + 16 * k + 200 < _; omega⟩
theorem make_depth {A : Around} {C : Addr} {us : List Value} {kw : List (Str × Value)} : (A.under (.builtin "type.__call__" ⟨.ref C :: us, kw⟩)).depth = A.depth + 1 := by
  first | rfl | simp [Around.under, Code.weight, Code.isCreation, Code.isGuard, Code.isCaller, Code.frames, Code.isFrame, guardIds]
theorem make_units {A : Around} {C : Addr} {us : List Value} {kw : List (Str × Value)} : (A.under (.builtin "type.__call__" ⟨.ref C :: us, kw⟩)).units = A.units + 1 := by
  first | rfl | simp [Around.under, Code.cUnits, Code.frames, Code.isFrame]
theorem Room.make {k : Nat} {A : Around} (r : Room (k + 1) A) (C : Addr) (us : List Value) (kw : List (Str × Value)) : Room k (A.under (.builtin "type.__call__" ⟨.ref C :: us, kw⟩)) :=
  ⟨r.hd, by have := r.dp; rw [make_depth]; omega, by have := r.un; rw [make_units]; omega⟩
theorem Room.depth {k : Nat} {A : Around} (r : Room k A) : A.depth < recursionLimit := by have := r.dp; omega

/-! ### argument lists and displays -/
def tNil : TA := fun _ H Q => Q [] H
def tCons (ta : TE) (tr : TA) : TA := fun σ H Q => ta σ H fun x H1 => tr σ H1 fun xs H2 => Q (x :: xs) H2
section
variable {X : Cx} {e : Expr} {es : List Expr} {te : TE} {t : TA} {pos : Pos}
theorem pa_nil : PA X [] tNil := fun _ _ _ _ H Q I h => Calls.spliced_nil ⟨[], H, I, .nil, h⟩
theorem pa_cons (ha : PE X e te) (hr : PA X es t) (hs : starEach (e :: es) X.env = (false, eval e X.env) :: starEach es X.env := by rfl) : PA X (e :: es) (tCons te t) := by
  intro pos pins s σ H Q I h
  rw [hs]
  show wpAny _ _ (spliced ((false, eval e X.env) :: backTo pos (starEach es X.env))) _ _ s
  refine Calls.spliced_cons (thn (ha pins s σ H _ I h) fun u s1 ⟨x, H1, I1, r1, q1⟩ => ?_)
  exact thn (hr pos pins s1 σ H1 _ I1 q1) fun us s2 ⟨xs, H2, I2, r2, q2⟩ => ⟨x :: xs, H2, I2, .cons r1 r2, q2⟩

/-- a tuple, a list of written items -/
def tTup (t : TA) : TE := fun σ H Q => t σ H fun xs H1 => xs.length ≤ sizeLine ∧ ∀ p, H1 p = none → Q (.ref p) (upd H1 p (.tup xs))
def tLst (t : TA) : TE := fun σ H Q => t σ H fun xs H1 => xs.length ≤ sizeLine ∧ ∀ p, H1 p = none → Q (.ref p) (upd H1 p (.lst xs))
theorem pe_tup {x1} (h : PA X es t) : PE X (.Tuple es x1 pos) (tTup t) := by
  intro pins s σ H Q I hq
  refine wpAny_Tuple_spliced (thn (h pos pins s σ H _ I hq) fun us s1 ⟨xs, H1, I1, r, z, q⟩ => ⟨by rw [← r.length]; exact z, ?_⟩)
  have hf : H1 s1.heap.objs.size = none := I1.hok.fresh (Nat.le_refl _)
  refine ⟨.ref s1.heap.objs.size, upd H1 s1.heap.objs.size (.tup xs), I1.laid (t' := s1.toks) (fun b u e => Heap.get?_push_of_some _ e) (Nat.le_refl _) ?_, rfl, q _ hf⟩
  exact ⟨z, us, r, ⟨_, Heap.get?_push_size _ rfl, rfl, _, rfl⟩⟩
theorem pe_lst (h : PA X es t) : PE X (.List es pos) (tLst t) := by
  intro pins s σ H Q I hq
  refine wpAny_List_spliced (thn (h pos pins s σ H _ I hq) fun us s1 ⟨xs, H1, I1, r, z, q⟩ => ⟨by rw [← r.length]; exact z, ?_⟩)
  have hf : H1 s1.heap.objs.size = none := I1.hok.fresh (Nat.le_refl _)
  refine ⟨.ref s1.heap.objs.size, upd H1 s1.heap.objs.size (.lst xs), I1.laid (t' := s1.toks) (fun b u e => Heap.get?_push_of_some _ e) (Nat.le_refl _) ?_, rfl, q _ hf⟩
  exact ⟨z, us, 0, r, Heap.get?_push_size _ rfl⟩
end

/-! ### what a def promises -/
/-- a def's promise: the bound arguments in the parameters' order, the heap, the wanted end, the wanted exception -/
abbrev Sp := List V → Hp → VK → XK → Prop
/-- how an exception lies behind a call (file 08 gives it): the callers' frames, abstract heap and state ahead of the call, the wish, the exception, the state -/
abbrev CXT := List Env → Hp → Shared → XK → Value → Shared → Prop

/-- the state at a call -/
structure Env0 (P : Program) (w : World) (K : PySem.W.Frag) (mg : Str → Option Value) (base : Heap) (A : Around) (outer : List Env) (s : Shared) (H : Hp) : Prop where
  frames : A.frames = some outer
  mod : Mod K mg base
  bs : ∀ b o, base.get? b = some o → s.heap.get? b = some o ∧ H b = none
  bsz : base.objs.size ≤ s.heap.objs.size
  funs : s.heap.FunFrames base outer
  frf : ∀ b ∈ frs outer, H b = none
  hok : HOk P w H s.heap
  bare : AllBare s.gens
/-- a call's end -/
def CE (outer : List Env) (P : Program) (w : World) (H : Hp) (s : Shared) (Q : VK) (u : Value) (s' : Shared) : Prop :=
  ∃ v H', s'.os = s.os ∧ AllBare s'.gens ∧ Un (frs outer) [] H H' s.heap s'.heap ∧ HOk P w H' s'.heap ∧ RelV v u ∧ Q v H'
def CR (CX : CXT) (outer : List Env) (P : Program) (w : World) (H : Hp) (s : Shared) (Q : VK) (E : XK) (r : Result) (s' : Shared) : Prop :=
  match r with
  | .ok (.ret u) => CE outer P w H s Q u s'
  | .ok _ => False
  | .error e => CX outer H s E e s'
structure FnOk (P : Program) (w : World) (K : PySem.W.Frag) (mg : Str → Option Value) (base : Heap) (CX : CXT) (k : Nat) (f : Addr) (fd : FuncData) (ps : List Str) (sp : Sp) : Prop where
  len : ∀ vs H Q E, sp vs H Q E → vs.length = ps.length
  run : ∀ (A : Around) (outer : List Env) (s : Shared) (H : Hp) (args : Args) (us : List Value) (vs : List V) (Q : VK) (E : XK), Room k A → Env0 P w K mg base A outer s H → BindsTo s fd args (ps.zip us) → Vals vs us → sp vs H Q E →
    codeAny (model P w) A (.call (.ref f) args) (CR CX outer P w H s Q E) s

theorem Env0.make {P : Program} {w : World} {K : PySem.W.Frag} {mg : Str → Option Value} {base : Heap} {A : Around} {outer : List Env} {s : Shared} {H : Hp} (e : Env0 P w K mg base A outer s H) (C : Addr) (us : List Value) (kw : List (Str × Value)) :
    Env0 P w K mg base (A.under (.builtin "type.__call__" ⟨.ref C :: us, kw⟩)) outer s H := ⟨by first | exact e.frames | (simpa [Around.under, Code.envs, Code.isFrame, pushEnvs] using e.frames), e.mod, e.bs, e.bsz, e.funs, e.frf, e.hok, e.bare⟩

section
variable {X : Cx} {pins : List (Addr × Obj)} {σ : St} {H : Hp} {s s' : Shared}
/-- from a body: what a callee wants -/
theorem Inv.env0 (I : Inv X pins σ H s) : Env0 X.prog X.w X.K X.mg X.base X.A X.stack s H :=
  ⟨I.ok.frames, I.ok.mod, I.bs, Nat.le_trans I.ok.bsz I.sz, I.stack, I.stkFree, I.hok, I.bare⟩
/-- behind a call -/
theorem Inv.after {Q : VK} {u : Value} (I : Inv X pins σ H s) (h : CE X.stack X.prog X.w H s Q u s') : EP X pins σ Q u s' := by
  obtain ⟨v, H', os, bare, un, hok, r, q⟩ := h
  obtain ⟨hh, g, d, t, os'⟩ := s'
  obtain rfl : os' = s.os := os
  exact ⟨v, H', I.call (h' := hh) (g' := g) (d' := d) (t' := t) (ch := []) un hok bare (fun b z => absurd z (by simp)), r, q⟩
end

/-! ### calls -/
/-- f(..): the written arguments, then the defaults dvs; E: what is wanted of an exception -/
def tCall (sp : Sp) (dvs : List V) (E : XK) (t : TA) : TE := fun σ H Q => t σ H fun vs H1 => sp (vs ++ dvs) H1 Q E
/-- o.m(..) of an instance of the class at C -/
def tMeth (C : Addr) (m : Str) (sp : Sp) (dvs : List V) (E : XK) (ta : TE) (t : TA) : TE := fun σ H Q => ta σ H fun x H1 => ∃ a dx fs, x = .ref a ∧ H1 a = some (.ins C dx fs) ∧ fs.lookup m = none ∧
  t σ H1 fun vs H2 => sp (x :: (vs ++ dvs)) H2 Q E
/-- C(..): a new instance and its dict, then __init__ -/
def tMake (C : Addr) (sp : Sp) (dvs : List V) (E : XK) (t : TA) : TE := fun σ H Q => t σ H fun vs H1 => ∀ x dx, H1 x = none → H1 dx = none → dx ≠ x →
  sp (.ref x :: (vs ++ dvs)) (upd (upd H1 dx (.own x)) x (.ins C dx [])) (fun v H2 => v = .non ∧ Q (.ref x) H2) E

/-- how the parameters are bound: us the positional arguments, kw the keywords' values by name, ds the defaults that fill up -/
def Binds (K : PySem.W.Frag) (fd : FuncData) (ps : List Str) (ds : List Value) : Prop :=
  ∀ (s : Shared) (us : List Value), K.In s.heap → (us ++ ds).length = ps.length → BindsTo s fd ⟨us, []⟩ (ps.zip (us ++ ds))
/-- every parameter is given -/
theorem Binds.all {K : PySem.W.Frag} {fd : FuncData} {ps : List Str} (h : ∀ us : List Value, us.length = ps.length → bindArgs fd ⟨us, []⟩ = pure (ps.zip us)) : Binds K fd ps [] := fun s us _ hl => by
  rw [List.append_nil] at hl ⊢
  exact .of_eq (h us hl)

/-- an exception of a callee reaches what this body wants of exceptions -/
def Passes (CX : CXT) (X : Cx) (E : XK) : Prop := ∀ (pins : List (Addr × Obj)) (σ : St) (H : Hp) (s : Shared) (e : Value) (s' : Shared), Inv X pins σ H s → CX X.stack H s E e s' → X.xe e s'

section
variable {X : Cx} {CX : CXT} {k : Nat} {f C : Addr} {fd : FuncData} {ps : List Str} {sp : Sp} {dvs : List V} {ds : List Value} {E : XK} {x m : Str} {p pos apos : Pos} {e o : Expr} {es : List Expr} {ta : TE} {t : TA}

/-- the callee runs -/
theorem run_fn {pins : List (Addr × Obj)} {σ : St} {H : Hp} {s : Shared} {Q : VK} {us : List Value} {vs : List V} (F : FnOk X.prog X.w X.K X.mg X.base CX k f fd ps sp) (hr : Room k X.A) (hb : Binds X.K fd ps ds) (hd : Vals dvs ds) (hx : Passes CX X E)
    (I : Inv X pins σ H s) (r : Vals vs us) (h : sp (vs ++ dvs) H Q E) : wpAny (model X.prog X.w) X.A (call (.ref f) us) (EP X pins σ Q) X.xe s := by
  have r2 : Vals (vs ++ dvs) (us ++ ds) := r.append hd
  have hl : (us ++ ds).length = ps.length := by rw [← r2.length]; exact F.len _ _ _ _ h
  refine wpAny_call (codeAny_mono (F.run X.A X.stack s H ⟨us, []⟩ (us ++ ds) (vs ++ dvs) Q E hr I.env0 (hb s us I.kIn hl) r2 h) fun r s' hq => ?_)
  cases r with
  | error e => exact hx pins σ H s e s' I hq
  | ok fl =>
    cases fl with
    | ret u => exact I.after hq
    | next => exact False.elim hq
    | brk => exact False.elim hq
    | cont => exact False.elim hq

theorem pe_call (F : FnOk X.prog X.w X.K X.mg X.base CX k f fd ps sp) (hr : Room k X.A) (hg : Gl X x) (hm : X.mg x = some (.ref f)) (hk : PySem.W.keepIn X.K (.ref f) = true) (hb : Binds X.K fd ps ds) (hd : Vals dvs ds) (hx : Passes CX X E)
    (ha : PA X (e :: es) t) (hdb : (x == ("__debug__" : Str)) = false := by decide) (he : starEach (e :: es) X.env = (false, eval e X.env) :: starEach es X.env := by rfl) (hpl : (backTo pos (starEach es X.env)).any (·.1) = false := by rfl) :
    PE X (.Call (.Name x p) (e :: es) [] pos) (tCall sp dvs E t) := by
  intro pins s σ H Q I h
  refine wpAny_Call_Name_kw (ld_glob I hg hm ?_ hdb)
  refine PySem.W.callWith_K (h₀ := X.base) I.ok.mod.kin hk (thn (ha pos pins s σ H _ I h) fun us s1 ⟨vs, H1, I1, r, q⟩ => ⟨I1.kIn, ?_⟩) he hpl
  exact run_fn F hr hb hd hx I1 r q

/-- o.m(e, ..) -/
theorem pe_meth {pl : Sem Bool} (he : PE X o ta) (c : Cls X.K C) (hm : Meth X.K C m f) (F : FnOk X.prog X.w X.K X.mg X.base CX k f fd ps sp) (hr : Room k X.A) (hb : Binds X.K fd ps ds) (hd : Vals dvs ds) (hx : Passes CX X E) (ha : PA X (e :: es) t)
    (hst : starEach (e :: es) X.env = (false, eval e X.env) :: starEach es X.env := by rfl) (hpl : (backTo pos (starEach es X.env)).any (·.1) = false := by rfl)
    (ht : eval (.Call (.Attribute o m apos) (e :: es) [] pos) X.env = (do
      let ov ← eval o X.env
      standAt apos.atName
      let (f, first) ← holding [ov] (getMethod ov m pl)
      callWith pos f first (backTo pos (starEach (e :: es) X.env)) (backToKw pos (keywordEach [] X.env))) := by rfl) :
    PE X (.Call (.Attribute o m apos) (e :: es) [] pos) (tMeth C m sp dvs E ta t) := by
  intro pins s σ H Q I h
  refine PySem.W.methodCall_KW (pl := pl) (thn (he pins s σ H _ I h) fun u s1 ⟨x, H1, I1, rx, a, dx, fs, ex, ea, l, q⟩ => ?_) ht
  subst ex
  obtain rfl : u = Value.ref a := rx
  refine getmeth_ok I1 ea c hm l ?_
  refine PySem.W.callWith_K (first := [.ref a]) (h₀ := X.base) I.ok.mod.kin hm.kp (thn (ha pos pins s1 σ H1 _ I1 q) fun us s2 ⟨vs, H2, I2, r, q2⟩ => ⟨I2.kIn, ?_⟩) hst hpl
  exact run_fn (us := .ref a :: us) (vs := .ref a :: vs) F hr hb hd hx I2 (.cons rfl r) q2
/-- o.m() -/
theorem pe_meth0 {pl : Sem Bool} (he : PE X o ta) (c : Cls X.K C) (hm : Meth X.K C m f) (F : FnOk X.prog X.w X.K X.mg X.base CX k f fd ps sp) (hr : Room k X.A) (hb : Binds X.K fd ps ds) (hd : Vals dvs ds) (hx : Passes CX X E)
    (ht : eval (.Call (.Attribute o m apos) [] [] pos) X.env = (do
      let ov ← eval o X.env
      standAt apos.atName
      let (f, first) ← holding [ov] (getMethod ov m pl)
      callWith pos f first (backTo pos (starEach [] X.env)) (backToKw pos (keywordEach [] X.env))) := by rfl) :
    PE X (.Call (.Attribute o m apos) [] [] pos) (tMeth C m sp dvs E ta tNil) := by
  intro pins s σ H Q I h
  refine PySem.W.methodCall_KW (pl := pl) (thn (he pins s σ H _ I h) fun u s1 ⟨x, H1, I1, rx, a, dx, fs, ex, ea, l, q⟩ => ?_) ht
  subst ex
  obtain rfl : u = Value.ref a := rx
  refine getmeth_ok I1 ea c hm l ?_
  exact PySem.W.callWith_K0 (first := [.ref a]) I1.kIn hm.kp (run_fn (us := [.ref a]) (vs := [.ref a]) F hr hb hd hx I1 (.cons rfl .nil) q)

/-- what a class must have to be made -/
structure Mk (K : PySem.W.Frag) (C f : Addr) : Prop where
  makes : PySem.W.makesIn K C = true
  init : PySem.W.findIn K (.ref C) "__init__" = some (some (.ref f))
  fn : PySem.W.isFn K (.ref f) = true
  kp : PySem.W.keepIn K (.ref C) = true

theorem run_make {pins : List (Addr × Obj)} {σ : St} {H : Hp} {s : Shared} {Q : VK} {us : List Value} {vs : List V} (M : Mk X.K C f) (F : FnOk X.prog X.w X.K X.mg X.base CX k f fd ps sp) (hr : Room (k + 1) X.A) (hb : Binds X.K fd ps ds) (hd : Vals dvs ds)
    (hx : Passes CX X E) (I : Inv X pins σ H s) (r : Vals vs us)
    (h : ∀ x dx, H x = none → H dx = none → dx ≠ x → sp (.ref x :: (vs ++ dvs)) (upd (upd H dx (.own x)) x (.ins C dx [])) (fun v H2 => v = .non ∧ Q (.ref x) H2) E) :
    wpAny (model X.prog X.w) X.A (call (.ref C) us) (EP X pins σ Q) X.xe s := by
  have hq := h (s.heap.objs.size + 1) s.heap.objs.size (I.hok.fresh (Nat.le_succ _)) (I.hok.fresh (Nat.le_refl _)) (Nat.ne_of_lt (Nat.lt_succ_self _))
  have I2 := Inv.made (C := C) I
  have r2 : Vals (V.ref (s.heap.objs.size + 1) :: (vs ++ dvs)) (Value.ref (s.heap.objs.size + 1) :: (us ++ ds)) := .cons rfl (r.append hd)
  have hl : (Value.ref (s.heap.objs.size + 1) :: us ++ ds).length = ps.length := by
    have e := r2.length
    rw [F.len _ _ _ _ hq] at e
    exact e.symm
  refine wpAny_call (make_map (f := f) I.kIn M.makes M.init (beq_iff_eq.mp M.fn) (codeAny_mono (F.run _ X.stack _ _ ⟨Value.ref (s.heap.objs.size + 1) :: us, []⟩ (Value.ref (s.heap.objs.size + 1) :: (us ++ ds)) _ _ E (hr.make C us [])
    (I2.env0.make C us []) (hb _ (Value.ref (s.heap.objs.size + 1) :: us) I2.kIn hl) r2 hq) fun r s' hq' => ?_))
  cases r with
  | error e => exact hx pins σ _ _ e s' I2 hq'
  | ok fl =>
    cases fl with
    | ret u =>
      obtain ⟨v, H', I3, rv, ev, q3⟩ := I2.after hq'
      subst ev
      exact ⟨rv, ⟨V.ref (s.heap.objs.size + 1), H', I3, rfl, q3⟩⟩
    | next => exact False.elim hq'
    | brk => exact False.elim hq'
    | cont => exact False.elim hq'
theorem pe_make0 (M : Mk X.K C f) (F : FnOk X.prog X.w X.K X.mg X.base CX k f fd ps sp) (hr : Room (k + 1) X.A) (hg : Gl X x) (hm : X.mg x = some (.ref C)) (hb : Binds X.K fd ps ds) (hd : Vals dvs ds) (hx : Passes CX X E)
    (hdb : (x == ("__debug__" : Str)) = false := by decide) : PE X (.Call (.Name x p) [] [] pos) (tMake C sp dvs E tNil) := by
  intro pins s σ H Q I h
  refine wpAny_Call_Name_kw (ld_glob I hg hm ?_ hdb)
  exact PySem.W.callWith_K0 I.kIn M.kp (run_make (us := []) M F hr hb hd hx I .nil h)
end

/-! ### keywords -/
section
variable {X : Cx} {CX : CXT} {k : Nat} {f C : Addr} {fd : FuncData} {ps ks : List Str} {sp : Sp} {E : XK} {x m : Str} {p pos apos kpos : Pos} {e o : Expr} {es : List Expr} {kws : List Keyword} {te ta : TE} {t tk : TA} {nm : Option Str}

variable {g : List Value → List Value → List Value} {gV : List V → List V → List V}
end

/-! ### a def's body keeps its promise -/
/-- names: the parameters first -/
structure FnScope (N P : List Str) (sc : Scope) : Prop where
  kind : sc.kind = .function
  co : sc.isCoroutine = false
  gen : sc.isGenerator = false
  nd : N.Nodup
  pre : N.take P.length = P
  par : ∀ x ∈ P, sc.names.lookup x = some .local ∨ sc.names.lookup x = some .cell
  nofree : ∀ y ∈ sc.names, y.2 ≠ .free

theorem bindL_out {kindOf : Str → Option NameKind} {x : Str} : ∀ {binds : List (Str × Value)} {m : Str → Option Value}, (∀ v, (x, v) ∉ binds) → bindL kindOf binds m x = m x
  | [], _, _ => rfl
  | (n, v) :: r, m, h => by
    unfold bindL
    rw [bindL_out fun w hw => h w (List.mem_cons_of_mem _ hw)]
    split
    · have : x ≠ n := by rintro rfl; exact h v List.mem_cons_self
      simp [this]
    · rfl
theorem bindC_out {kindOf : Str → Option NameKind} {x : Str} : ∀ {binds : List (Str × Value)} {m : Str → Option Value}, (∀ v, (x, v) ∉ binds) → bindC kindOf binds m x = m x
  | [], _, _ => rfl
  | (n, v) :: r, m, h => by
    unfold bindC
    rw [bindC_out fun w hw => h w (List.mem_cons_of_mem _ hw)]
    split
    · rfl
    · have : x ≠ n := by rintro rfl; exact h v List.mem_cons_self
      simp [this]
theorem bindL_get {kindOf : Str → Option NameKind} {x : Str} {v : Value} : ∀ {P : List Str} {vs : List Value} {i : Nat} {m : Str → Option Value}, P.Nodup → P[i]? = some x → vs[i]? = some v → kindOf x = some .local →
    bindL kindOf (P.zip vs) m x = some v
  | [], _, _, _, _, h, _, _ => by simp at h
  | _ :: _, [], _, _, _, _, h, _ => by simp at h
  | p :: P, w :: vs, 0, m, nd, h1, h2, hk => by
    simp at h1 h2; subst h1; subst h2
    show bindL kindOf ((p, w) :: P.zip vs) m p = _
    unfold bindL
    rw [bindL_out fun v hv => (List.nodup_cons.mp nd).1 (List.of_mem_zip hv).1, if_pos hk]
    simp
  | p :: P, w :: vs, i + 1, m, nd, h1, h2, hk => by
    show bindL kindOf ((p, w) :: P.zip vs) m x = _
    unfold bindL
    exact bindL_get (i := i) (List.nodup_cons.mp nd).2 (by simpa using h1) (by simpa using h2) hk
theorem bindC_get {kindOf : Str → Option NameKind} {x : Str} {v : Value} : ∀ {P : List Str} {vs : List Value} {i : Nat} {m : Str → Option Value}, P.Nodup → P[i]? = some x → vs[i]? = some v → kindOf x ≠ some .local →
    bindC kindOf (P.zip vs) m x = some v
  | [], _, _, _, _, h, _, _ => by simp at h
  | _ :: _, [], _, _, _, _, h, _ => by simp at h
  | p :: P, w :: vs, 0, m, nd, h1, h2, hk => by
    simp at h1 h2; subst h1; subst h2
    show bindC kindOf ((p, w) :: P.zip vs) m p = _
    unfold bindC
    rw [bindC_out fun v hv => (List.nodup_cons.mp nd).1 (List.of_mem_zip hv).1, if_neg hk]
    simp
  | p :: P, w :: vs, i + 1, m, nd, h1, h2, hk => by
    show bindC kindOf ((p, w) :: P.zip vs) m x = _
    unfold bindC
    exact bindC_get (i := i) (List.nodup_cons.mp nd).2 (by simpa using h1) (by simpa using h2) hk

/-- the names' values at the entry -/
def start (N : List Str) (vs : List V) : St := vs.map some ++ List.replicate (N.length - vs.length) none

/-- the context of a def's body, at its entry; an exception leaves the frame, then lies as CX says -/
def cxOf (CX : CXT) (P : Program) (w : World) (K : PySem.W.Frag) (mg : Str → Option Value) (base : Heap) (N : List Str) (qual : Str) (scope : Scope) (f : Addr) (cd : Value) (A : Around) (outer : List Env) (s : Shared) (H : Hp) (E : XK) : Cx where
  prog := P
  w := w
  K := K
  mg := mg
  base := base
  A := A.deeper (envOfC qual scope s.heap.objs.size f cd)
  N := N
  s_0 := s
  H_0 := H
  env := envOfC qual scope s.heap.objs.size f cd
  outer := outer
  stack := envOfC qual scope s.heap.objs.size f cd :: outer
  ex := []
  calm := true
  fn := fun _ => true
  pn := []
  xe := fun e s' => wpAny (model P w) (A.deeper (envOfC qual scope s.heap.objs.size f cd)) (leaving (envOfC qual scope s.heap.objs.size f cd) e) (fun _ s'' => CX outer H s E e s'') (fun e' s'' => CX outer H s E e' s'') s'

theorem cell_has {sc : Scope} {n : Nat} {x : Str} (h : sc.names.lookup x = some .cell) : ∃ c, (cellsFrom n sc.names []).lookup x = some c := by
  have q := PySem.W.cellsFrom_some sc.names n [] (.inl h)
  exact Option.isSome_iff_exists.mp q

theorem inv_start {CX : CXT} {P : Program} {w : World} {K : PySem.W.Frag} {mg : Str → Option Value} {base : Heap} {N ps : List Str} {qual : Str} {scope : Scope} {f : Addr} {cd : Value} {A : Around} {outer : List Env} {s s1 : Shared} {H : Hp} {E : XK} {us : List Value} {vs : List V}
    (S : FnScope N ps scope) (hd : A.handled = none) (e0 : Env0 P w K mg base A outer s H) (hl : vs.length = ps.length) (r : Vals vs us)
    (x : InCallC s s.heap.objs.size (bindL (envOfC qual scope s.heap.objs.size f cd).kindOf (ps.zip us) fun _ => none) (cellsFrom (s.heap.objs.size + 1) scope.names []) (bindC (envOfC qual scope s.heap.objs.size f cd).kindOf (ps.zip us) fun _ => none) s1) :
    Inv (cxOf CX P w K mg base N qual scope f cd A outer s H E) [] (start N vs) H s1 := by
  have hpl : ps.length ≤ N.length := by have := congrArg List.length S.pre; rw [List.length_take] at this; omega
  obtain ⟨h1, tk, rfl, hk⟩ := x.done
  have noA : ∀ b : Addr, b ∉ (cxOf CX P w K mg base N qual scope f cd A outer s H E).ex := fun b z => absurd (show b ∈ ([] : List Addr) from z) (by simp)
  refine ⟨⟨e0.mod, S.kind, rfl, rfl, Nat.le_refl _, fun y z c h1 h2 => ?_, fun y hy => ?_, fun y c _ h => ?_, fun _ => hd, Around.frames_deeper e0.frames, .inr ⟨rfl, rfl⟩, fun b z => absurd z (noA b), e0.bs, e0.bsz, fun b _ _ => noA b, fun b z => absurd z (noA b), e0.funs, e0.frf⟩,
    rfl, e0.bare, Un.kept hk, ⟨_, x.toInCall.ns, fun i y v h1 h2 h3 => ?_⟩, fun y c h => ⟨_, x.cell y c h⟩, e0.hok.fresh (Nat.le_refl _), fun y c h => ?_, fun p hp => absurd (show p ∈ ([] : List (Addr × Obj)) from hp) (by simp), e0.hok.kept hk, ?_⟩
  · exact name_of_addr x.apart (PySem.mem_of_lookup h1) (PySem.mem_of_lookup h2)
  · have hy : scope.names.lookup y = some .cell ∨ scope.names.lookup y = some .free := hy
    rcases hy with hy | hy
    · exact cell_has hy
    · exact absurd rfl (S.nofree _ (PySem.mem_of_lookup hy))
  · exact Nat.le_of_lt (x.above y c (PySem.mem_of_lookup h))
  · have hi : i < vs.length := by
      unfold start at h2
      by_cases hi : i < vs.length
      · exact hi
      · rw [List.getElem?_append_right (by simpa using hi)] at h2
        rw [List.getElem?_replicate] at h2
        split at h2 <;> cases h2
    have ha : vs[i]? = some v := by
      unfold start at h2
      rw [List.getElem?_append_left (by simpa using hi), List.getElem?_map] at h2
      cases e : vs[i]? with
      | none => rw [e] at h2; cases h2
      | some a => rw [e] at h2; cases h2; rfl
    obtain ⟨u, hu, rv⟩ := r.get ha
    have hp : ps[i]? = some y := by
      rw [← S.pre, List.getElem?_take_of_lt (by omega)]; exact h1
    have ndP : ps.Nodup := by rw [← S.pre]; exact S.nd.sublist (List.take_sublist _ _)
    refine ⟨u, rv, ?_⟩
    rcases S.par y (List.mem_of_getElem? hp) with k | k
    · exact .inl ⟨k, bindL_get ndP hp hu k⟩
    · obtain ⟨c, e⟩ := cell_has (n := s.heap.objs.size + 1) k
      refine .inr ⟨.inl k, c, e, ?_⟩
      have q := x.cell y c e
      rw [bindC_get ndP hp hu (by show scope.names.lookup y ≠ _; rw [k]; decide)] at q
      exact q
  · exact e0.hok.fresh (Nat.le_of_lt (x.above y c (PySem.mem_of_lookup h)))
  · unfold start
    show _ = N.length
    rw [List.length_append, List.length_map, List.length_replicate]
    omega

/-- THE RULE: a def (or a method) of the text, by its body. The body's reading t is chosen for each entry; it is run at the parameters' values -/
theorem fn_of {CX : CXT} {P : Program} {w : World} {K : PySem.W.Frag} {mg : Str → Option Value} {base : Heap} {k : Nat} {f : Addr} {name qual : Str} {params : Arguments} {body : List Stmt} {scope : Scope} {dV kV doc pm cdv ct oc : Value} {an od : Option Addr}
    {osl : Array (Option Value)} {N ps : List Str} {sp : Sp} (lk : K.lookup f = some ⟨oc, od, .func (PySem.W.fnOf name qual params body scope dV kV doc pm an cdv ct), osl⟩) (hcd : PySem.W.codeIn K cdv qual = true) (S : FnScope N ps scope)
    (len : ∀ vs H Q E, sp vs H Q E → vs.length = ps.length)
    (hbody : ∀ (A : Around) (outer : List Env) (s : Shared) (H : Hp) (vs : List V) (Q : VK) (E : XK), Room k (A.deeper (envOfC qual scope s.heap.objs.size f cdv)) → sp vs H Q E →
      ∃ t, PSs (cxOf CX P w K mg base N qual scope f cdv A outer s H E) body t ∧ t { nx := fun _ H' => Q .non H', rt := Q } (start N vs) H) :
    FnOk P w K mg base CX (k + 1) f (PySem.W.fnOf name qual params body scope dV kV doc pm an cdv ct) ps sp := by
  refine ⟨len, fun A outer s H args us vs Q E hr e0 hb r hsp => ?_⟩
  have hl := len _ _ _ _ hsp
  have KX : K.In s.heap := e0.mod.kin.keeps fun b o e => (e0.bs b o e).1
  have lim : s.heap.NoLimit := e0.mod.nolimit.keeps fun b o e => (e0.bs b o e).1
  have hkind : ∀ y ∈ ps.zip us, scope.names.lookup y.1 = some .local ∨ (scope.names.lookup y.1 = some .cell ∧ ((cellsFrom (s.heap.objs.size + 1) scope.names []).lookup y.1).isSome = true) := fun ⟨n, v⟩ hy => by
    rcases S.par n (List.of_mem_zip hy).1 with q | q
    · exact .inl q
    · exact .inr ⟨q, PySem.W.cellsFrom_some _ _ _ (.inl q)⟩
  refine codeAny_call_function hr.depth (KX _ _ lk) rfl S.co S.gen rfl (PySem.W.codeRec_of KX hcd) (hb _ _ _ _ ?_)
  refine wpAny_newFunctionEnv_cells S.kind hkind fun env he s1 x => ?_
  subst he
  refine ⟨lim.keeps x.toInCall.keep, codeAny_func ?_⟩
  obtain ⟨t, ht, hq⟩ := hbody A outer s H vs Q E (hr.deeper _) hsp
  have I : Inv (cxOf CX P w K mg base N qual scope f cdv A outer s H E) [] (start N vs) H s1 := inv_start S hr.hd e0 hl r x
  refine wpAny_mono (ht [] s1 (start N vs) H _ I hq) (fun fl s' hs => ?_) fun e s' hs => hs
  have fin : ∀ {σ' : St} {H' : Hp} {v : V} {u : Value}, Inv (cxOf CX P w K mg base N qual scope f cdv A outer s H E) [] σ' H' s' → RelV v u → Q v H' → CE outer P w H s Q u s' :=
    fun {σ' H' v u} J rv q => ⟨v, H', J.os, J.bare, J.base, J.hok, rv, q⟩
  cases fl with
  | ret u =>
    obtain ⟨v, σ', H', J, rv, q⟩ := hs
    exact fin J rv q
  | next =>
    obtain ⟨σ', H', J, q⟩ := hs
    exact fin (v := V.non) (u := Value.none) J rfl q
  | brk =>
    obtain ⟨_, _, _, q⟩ := hs
    exact False.elim q
  | cont =>
    obtain ⟨_, _, _, q⟩ := hs
    exact False.elim q
end L2

namespace L2
open PySem PySem.Spec PyProof.Rows
section
variable {X : Cx} {x : Str} {p pos : Pos} {e : Expr} {es : List Expr} {t : TA} {id T : String} {r : List V → Hp → VK → Prop}

def tCB (r : List V → Hp → VK → Prop) (t : TA) : TE := fun σ H Q => t σ H fun vs H1 => r vs H1 Q
/-- f(e, ..), f a built-in function -/
theorem pe_callB (hc : CallR X (.builtin id) r) (hg : Gl X x) (hm : X.mg x = none) (hv : bootBuiltins x = some (.builtin id)) (ha : PA X (e :: es) t) (hn : x ≠ "__name__" := by decide) (hdb : (x == ("__debug__" : Str)) = false := by decide)
    (he : starEach (e :: es) X.env = (false, eval e X.env) :: starEach es X.env := by rfl) (hpl : (backTo pos (starEach es X.env)).any (·.1) = false := by rfl) : PE X (.Call (.Name x p) (e :: es) [] pos) (tCB r t) := by
  intro pins s σ H Q I h
  refine wpAny_Call_Name_kw (ld_blt I hg hm hv ?_ hn hdb)
  exact PyProof.Rows.callWith_builtin1 (thn (ha pos pins s σ H _ I h) fun us s1 ⟨vs, H1, I1, r1, q1⟩ => hc pins s1 σ H1 vs us Q I1 r1 q1) he hpl
end
end L2

namespace HT
open PySem PyProof.Rows



section
open PySem.SeqAt
open PySem.AutoSeq1 (wpAny_loadPart')
open PySem.MeetsSeq PySem.MeetsSeq2 PySem.MeetsSeq3

end

section
variable {prog : Program} {w : World} {A : Around} {E : Value → Shared → Prop} {s : Shared}



/-! ### t[a:b], not the whole -/
/-- a slice's bound as a place among n (d where it is left out) -/
def sIx (n d : Nat) : Option Int → Nat
  | none => d
  | some v => if v < 0 then (v + (n : Int)).toNat else min v.toNat n
theorem sIx_nat (n d k : Nat) : sIx n d (some (k : Int)) = min k n := by
  show (if (k : Int) < 0 then ((k : Int) + (n : Int)).toNat else min (k : Int).toNat n) = min k n
  rw [if_neg (by omega), Int.toNat_natCast]

end
end HT

namespace L2
open PySem PySem.Spec PyProof.Rows

/-! ### the parts of a slice -/
abbrev TO := St → Hp → (Option Int → Hp → Prop) → Prop
/-- a slice's part (left out, or an int) -/
def PO (X : Cx) (e : Option Expr) (t : TO) : Prop :=
  ∀ (pins : List (Addr × Obj)) (s : Shared) (σ : St) (H : Hp) (Q : Option Int → Hp → Prop), Inv X pins σ H s → t σ H Q →
    wpAny (model X.prog X.w) X.A (evalPart e X.env) (fun u s' => ∃ o H', Inv X pins σ H' s' ∧ IsPart u o ∧ Q o H') X.xe s
def tPart (t : TE) : TO := fun σ H Q => t σ H fun x H1 => ∃ i, x = .int i ∧ Q (some i) H1


section
variable {X : Cx} {e : Expr} {te : TE} {lo hi : Option Expr} {tl th : TO} {pos p2 : Pos}

theorem po_some (h : PE X e te) : PO X (some e) (tPart te) := by
  intro pins s σ H Q I hw
  rw [evalPart_some]
  refine thn (h pins s σ H _ I hw) fun u s1 ⟨x, H1, I1, r1, q1⟩ => ?_
  obtain ⟨i, rfl, q⟩ := q1
  obtain ⟨t, rfl⟩ := r1
  exact ⟨some i, H1, I1, .int i t, q⟩

/-- what a slice of a value is, by values: the slice object stands at sl -/
def SlR (X : Cx) (r : V → Option Int → Option Int → Hp → VK → Prop) : Prop :=
  ∀ (pins : List (Addr × Obj)) (s : Shared) (σ : St) (H : Hp) (x : V) (v vl vu : Value) (lo hi : Option Int) (sl : Addr) (Q : VK), Inv X pins σ H s → RelV x v → s.heap.IsSliceOf sl vl vu .none → IsPart vl lo → IsPart vu hi → r x lo hi H Q →
    ∃ T id, typeLookup (.type T) "__getitem__" = pure (some (.builtin id)) ∧ s.TypeIs v T ∧ wpAny (model X.prog X.w) X.A (getItem v (.ref sl)) (EP X pins σ Q) X.xe s
def tSl (r : V → Option Int → Option Int → Hp → VK → Prop) (te : TE) (tl th : TO) : TE := fun σ H Q => te σ H fun x H1 => tl σ H1 fun l H2 => th σ H2 fun u H3 => r x l u H3 Q
/-- a[lo:hi], any a -/
theorem pe_slice {r : V → Option Int → Option Int → Hp → VK → Prop} (hr : SlR X r) (he : PE X e te) (hl : PO X lo tl) (hu : PO X hi th) : PE X (.Subscript e (.Slice lo hi none p2) pos) (tSl r te tl th) := by
  intro pins s σ H Q I h
  refine Subscript_ (thn (he pins s σ H _ I h) fun v s1 ⟨x, H1, I1, r1, q1⟩ => ?_)
  refine wpAny_Slice (thn (hl pins s1 σ H1 _ I1 q1) fun vl s2 ⟨l, H2, I2, pl, q2⟩ => thn (hu pins s2 σ H2 _ I2 q2) fun vu s3 ⟨u, H3, I3, pu, q3⟩ => ?_)
  rw [evalPart_none]
  refine wpAny_pure ?_
  have I4 : Inv X pins σ H3 { s3 with heap := s3.heap.push { cls := .type "slice", data := .fields #[vl, vu, .none] } } := I3.kept (t' := s3.toks) fun b ob q => Heap.get?_push_of_some _ q
  obtain ⟨T, id, hT, ht, hg⟩ := hr pins { s3 with heap := s3.heap.push { cls := .type "slice", data := .fields #[vl, vu, .none] } } σ H3 x v vl vu l u s3.heap.objs.size Q I4 r1 (Heap.IsSliceOf.new ..) pl pu q3
  show wpAny (model X.prog X.w) X.A (subscriptTail e (.Slice lo hi none p2) v (.ref s3.heap.objs.size)) (EP X pins σ Q) X.xe { s3 with heap := s3.heap.push { cls := .type "slice", data := .fields #[vl, vu, .none] } }
  exact tail_any (ops := [.ref s3.heap.objs.size, v]) ht hT hg (by with_unfolding_all rfl)

/-- the items of xs[lo:hi] -/
def cutV (xs : List V) (lo hi : Option Int) : List V := (xs.drop (HT.sIx xs.length 0 lo)).take (HT.sIx xs.length xs.length hi - HT.sIx xs.length 0 lo)
theorem cutV_length (xs : List V) (lo hi : Option Int) : (cutV xs lo hi).length ≤ xs.length := by
  unfold cutV
  rw [List.length_take, List.length_drop]
  omega

/-! ### t < u, t + u -/
end
end L2

namespace L2
open PySem PySem.Spec PyProof.Rows

/-! ### places -/
/-- the place that an index of any sign means -/
def ixN (n : Nat) (i : Int) : Option Nat := if 0 ≤ i then (if i < n then some i.toNat else none) else if -(n : Int) ≤ i then some (i + n).toNat else none
def atI {α : Type} (xs : List α) (i : Int) : Option α := (ixN xs.length i).bind fun j => xs[j]?
theorem ixN_seq {n : Nat} {i : Int} {j : Nat} (h : ixN n i = some j) : seqIndex? i n = some j ∧ j < n ∧ -(n : Int) ≤ i ∧ i < n := by
  unfold ixN at h
  by_cases h0 : 0 ≤ i
  · rw [if_pos h0] at h
    by_cases h1 : i < n
    · rw [if_pos h1] at h
      have e : i.toNat = j := Option.some.inj h
      exact ⟨by rw [seqIndex_of h0 h1, e], by omega, by omega, h1⟩
    · rw [if_neg h1] at h; cases h
  · rw [if_neg h0] at h
    by_cases h1 : -(n : Int) ≤ i
    · rw [if_pos h1] at h
      have e : (i + n).toNat = j := Option.some.inj h
      exact ⟨by rw [seqIndex_neg (by omega) h1, e], by omega, h1, by omega⟩
    · rw [if_neg h1] at h; cases h
theorem atI_get {α : Type} {xs : List α} {i : Int} {v : α} (h : atI xs i = some v) : ∃ j, seqIndex? i xs.length = some j ∧ xs[j]? = some v ∧ j < xs.length ∧ -(xs.length : Int) ≤ i ∧ i < xs.length := by
  unfold atI at h
  cases e : ixN xs.length i with
  | none => rw [e] at h; cases h
  | some j =>
    rw [e] at h
    obtain ⟨h1, h2, h3, h4⟩ := ixN_seq e
    exact ⟨j, h1, h, h2, h3, h4⟩
theorem atI_nat {α : Type} {xs : List α} {j : Nat} {v : α} (h : xs[j]? = some v) : atI xs (j : Int) = some v := by
  have hj : j < xs.length := (List.getElem?_eq_some_iff.mp h).1
  have e : ixN xs.length (j : Int) = some j := by
    unfold ixN
    rw [if_pos (by omega), if_pos (by omega)]; simp
  unfold atI; rw [e]; exact h

/-! ### what may be subscripted -/
/-- what stands as an index of a plain subscript -/
def PlainIx (b : Expr) : Prop := ∀ o i, subscripted b false o i = operate [o, i] (getItem o i)
/-- a subscript by values -/
def IxR (X : Cx) (r : R2) : Prop :=
  ∀ (value slice : Expr) (pins : List (Addr × Obj)) (s : Shared) (σ : St) (H : Hp) (x y : V) (v u : Value) (Q : VK), Inv X pins σ H s → RelV x v → RelV y u → r x y H Q →
    subscripted slice false v u = operate [v, u] (getItem v u) → wpAny (model X.prog X.w) X.A (subscriptTail value slice v u) (EP X pins σ Q) X.xe s
/-- a call of a builtin's method by values: the receiver, the arguments -/
def MtR (X : Cx) (id : String) (r : V → List V → Hp → VK → Prop) : Prop :=
  ∀ (pins : List (Addr × Obj)) (s : Shared) (σ : St) (H : Hp) (x : V) (xs : List V) (v : Value) (us : List Value) (Q : VK), Inv X pins σ H s → RelV x v → Vals xs us → r x xs H Q →
    wpAny (model X.prog X.w) X.A (call (.builtin id) (v :: us)) (EP X pins σ Q) X.xe s
section
variable {X : Cx} {a b : Expr} {ta tb : TE} {pos : Pos}
/-- a[b] -/
theorem pe_ix {r : R2} (hr : IxR X r) (ha : PE X a ta) (hb : PE X b tb) (hs : PlainIx b) : PE X (.Subscript a b pos) (tOp r ta tb) := by
  intro pins s σ H Q I h
  exact Subscript_ (binT ha hb I h fun v u s2 x y H2 I2 rx ry q => hr a b pins s2 σ H2 x y v u Q I2 rx ry q (hs _ _))

def rIxL (K : PySem.W.Frag) : R2 := fun x y H Q => ∃ p xs i v, x = .ref p ∧ y = .int i ∧ SqL K H p xs ∧ atI xs i = some v ∧ Q v H
def rIxT (K : PySem.W.Frag) : R2 := fun x y H Q => ∃ p xs i v, x = .ref p ∧ y = .int i ∧ SqT K H p xs ∧ atI xs i = some v ∧ Q v H
theorem ix_list : IxR X (rIxL X.K) := by
  intro value slice pins s σ H x y v u Q I rx ry h hs
  obtain ⟨p, xs, i, z, rfl, rfl, hq, he, q⟩ := h
  cases rx
  obtain ⟨t, rfl⟩ := ry
  obtain ⟨its, r, pl, hz⟩ := I.list hq
  obtain ⟨j, h1, h2, h3, h4, h5⟩ := atI_get he
  obtain ⟨w, ew, rw'⟩ := r.get h2
  have hl := r.length
  have hn := line63
  have fin : EP X pins σ Q w s := ⟨z, H, I, rw', q⟩
  by_cases h0 : 0 ≤ i
  · have hj : i.toNat = j := by
      rw [seqIndex_of h0 h5] at h1
      exact Option.some.inj h1
    exact item_listR pl.isList h0 (by omega) (by rw [hj]; simpa using ew) fin hs
  · have hj : (i + (its.toArray.size : Int)).toNat = j := by
      rw [seqIndex_neg (by omega) h4] at h1
      rw [List.size_toArray, ← hl]
      exact Option.some.inj h1
    exact subscriptTail_builtinR (x := w) pl.isList.typeIs slot_list_getitem.lookup
      (wpAny_getItem_list_neg (Q := fun r s' => r = w ∧ EP X pins σ Q r s') pl.isList (by omega) (by rw [List.size_toArray] <;> omega) (by omega) (by rw [hj]; simpa using ew) ⟨rfl, fin⟩) hs
theorem ix_tup : IxR X (rIxT X.K) := by
  intro value slice pins s σ H x y v u Q I rx ry h hs
  obtain ⟨p, xs, i, z, rfl, rfl, hq, he, q⟩ := h
  cases rx
  obtain ⟨t, rfl⟩ := ry
  obtain ⟨its, r, pl, hz⟩ := I.tuple hq
  obtain ⟨j, h1, h2, h3, h4, h5⟩ := atI_get he
  obtain ⟨w, ew, rw'⟩ := r.get h2
  have hl := r.length
  have hn := line63
  have fin : EP X pins σ Q w s := ⟨z, H, I, rw', q⟩
  exact subscriptTail_builtinR (x := w) pl.typeIs slot_tuple_getitem.lookup
    (getItem_tuple (j := j) (Q := fun r s' => r = w ∧ EP X pins σ Q r s') pl (by omega) (by omega) (by rw [List.size_toArray, ← hl]; exact h1) (by simpa using ew) ⟨rfl, fin⟩) hs

/-! ### xs[i] = v, any sign -/

/-! ### slices -/
theorem slice_bounds (lo hi : Option Int) (n : Nat) : (sliceBounds lo hi none n).1 = ((HT.sIx n 0 lo : Nat) : Int) ∧ (sliceBounds lo hi none n).2.1 = ((HT.sIx n n hi : Nat) : Int) ∧ (sliceBounds lo hi none n).2.2 = 1 := by
  refine ⟨?_, ?_, rfl⟩
  · cases lo with
    | none => simp [sliceBounds, HT.sIx]
    | some i =>
      simp only [sliceBounds, HT.sIx, Option.getD_none, show (1 : Int) > 0 by decide, if_true]
      by_cases h : i < 0
      · simp only [h, if_true] <;> omega
      · simp only [h, if_false] <;> omega
  · cases hi with
    | none => simp [sliceBounds, HT.sIx]
    | some i =>
      simp only [sliceBounds, HT.sIx, Option.getD_none, show (1 : Int) > 0 by decide, if_true]
      by_cases h : i < 0
      · simp only [h, if_true] <;> omega
      · simp only [h, if_false] <;> omega
theorem slicePick_cut (its : List Value) (lo hi : Option Int) : slicePick its.toArray lo hi none = ((its.drop (HT.sIx its.length 0 lo)).take (HT.sIx its.length its.length hi - HT.sIx its.length 0 lo)).toArray := by
  obtain ⟨h1, h2, h3⟩ := slice_bounds lo hi its.toArray.size
  unfold slicePick
  rw [h1, h2, h3]
  simp only [sliceRange_one, pick_run, List.size_toArray] <;> rfl
/-- xs[lo:hi] of a list: a new list -/
def rSlL (K : PySem.W.Frag) : V → Option Int → Option Int → Hp → VK → Prop := fun x lo hi H Q => ∃ a xs, x = .ref a ∧ SqL K H a xs ∧ ∀ p, H p = none → Q (.ref p) (upd H p (.lst (cutV xs lo hi)))
theorem sl_list : SlR X (rSlL X.K) := by
  intro pins s σ H x v vl vu lo hi sl Q I rx hs pl pu h
  obtain ⟨a, xs, rfl, hx, q⟩ := h
  cases rx
  obtain ⟨its, r, ht, hz⟩ := I.list hx
  have hlen := r.length
  refine ⟨"list", _, slot_list_getitem.lookup, ht.isList.typeIs, ?_⟩
  refine wpAny_getItem_list_slice ht.isList hs pl pu .none (by simp) ?_ (by rw [List.size_toArray] <;> omega)
  rw [slicePick_cut, ← hlen]
  refine ⟨.ref s.heap.objs.size, _, I.laid (t' := s.toks) (o := .lst (cutV xs lo hi)) (fun b ob q => Heap.get?_push_of_some _ q) (Nat.le_refl _) ?_, rfl, q _ (I.hok.fresh (Nat.le_refl _))⟩
  exact ⟨Nat.le_trans (cutV_length xs lo hi) hz, _, 0, (r.drop (HT.sIx xs.length 0 lo)).take (HT.sIx xs.length xs.length hi - HT.sIx xs.length 0 lo), Heap.get?_push_size _ rfl⟩

/-! ### in, not in: flat items -/

/-! ### len, list(x), tuple(x) of any list or tuple that is read -/
theorem call_len_seq : CallR X (.builtin "len") (fun xs H Q => ∃ p ys, xs = [.ref p] ∧ (SqL X.K H p ys ∨ SqT X.K H p ys) ∧ Q (.int ys.length) H) := by
  intro pins s σ H xs us Q I r h
  obtain ⟨p, ys, rfl, hq, q⟩ := h
  obtain ⟨u, rfl, rx⟩ := vals1 r
  cases rx
  have hn := line63
  rcases hq with hq | hq
  · obtain ⟨its, r', pl, hz⟩ := I.list hq
    have hlen := r'.length
    exact Calls.call_len_list pl.isList (by simp only [List.size_toArray] <;> omega) ⟨.int ys.length, H, I.tok _, ⟨s.toks + 1, by rw [List.size_toArray, hlen]⟩, q⟩
  · obtain ⟨its, r', pl, hz⟩ := I.tuple hq
    have hlen := r'.length
    exact len_tuple pl (by simp only [List.size_toArray] <;> omega) ⟨.int ys.length, H, I.tok _, ⟨s.toks + 1, by rw [List.size_toArray, hlen]⟩, q⟩

/-! ### the call of a builtin's method: o.m(..) -/
/-- the value is of that builtin type -/
def tyV (K : PySem.W.Frag) (T : String) (x : V) (H : Hp) : Prop := match x with
  | .str _ => T = "str"
  | .int _ => T = "int"
  | .ref p => (T = "list" ∧ ∃ xs, SqL K H p xs) ∨ (T = "tuple" ∧ ∃ o, K.lookup p = some o ∧ o.cls = .type "tuple" ∧ o.dict = none) ∨
      (T = "dict" ∧ ((∃ kvs, H p = some (.dK kvs)) ∨ ∃ kvs, H p = some (.dT kvs))) ∨ (T = "set" ∧ ∃ S n, H p = some (.set S n))
  | _ => False
theorem tyV_is {pins : List (Addr × Obj)} {σ : St} {H : Hp} {s : Shared} {T : String} {x : V} {v : Value} (I : Inv X pins σ H s) (r : RelV x v) (ty : tyV X.K T x H) :
    s.TypeIs v T ∧ ∀ a, v = .ref a → ∃ ob, s.heap.get? a = some ob ∧ ob.dict = none := by
  cases x with
  | str z =>
    obtain ⟨t, rfl⟩ := r
    cases (show T = "str" from ty)
    exact ⟨typeIs_str s z t, fun _ e => nomatch e⟩
  | int i =>
    obtain ⟨t, rfl⟩ := r
    cases (show T = "int" from ty)
    exact ⟨typeIs_int s i t, fun _ e => nomatch e⟩
  | ref p =>
    cases r
    rcases ty with ⟨rfl, xs, hq⟩ | ⟨rfl, o, hk, hc, hd⟩ | ⟨rfl, hk⟩ | ⟨rfl, S, n, hk⟩
    · obtain ⟨its, _, pl, _⟩ := I.list hq
      refine ⟨pl.isList.typeIs, fun a e => ?_⟩
      cases e
      obtain ⟨o, n, e, c, hd, _⟩ := pl
      exact ⟨o, e, hd⟩
    · refine ⟨⟨o, I.kIn p o hk, hc⟩, fun a e => ?_⟩
      cases e
      exact ⟨o, I.kIn _ o hk, hd⟩
    · have z : ∃ o, s.heap.get? p = some o ∧ o.ExactDict := by
        rcases hk with ⟨kvs, hk⟩ | ⟨kvs, hk⟩
        · obtain ⟨_, _, _, _, o, _, _, e, ex, _⟩ := I.hok p _ hk
          exact ⟨o, e, ex⟩
        · obtain ⟨_, _, _, _, o, _, _, e, ex, _⟩ := I.hok p _ hk
          exact ⟨o, e, ex⟩
      obtain ⟨o, e, ex⟩ := z
      refine ⟨⟨o, e, ex.1⟩, fun a e2 => ?_⟩
      cases e2
      exact ⟨o, e, ex.2.1⟩
    · obtain ⟨o, _, _, _, e, ex, _⟩ := I.hok p _ hk
      refine ⟨⟨o, e, ex.1⟩, fun a e2 => ?_⟩
      cases e2
      exact ⟨o, e, ex.2.1⟩
  | _ => exact False.elim ty
def tBM0 (K : PySem.W.Frag) (T : String) (r : V → List V → Hp → VK → Prop) (to : TE) : TE := fun σ H Q => to σ H fun x H1 => tyV K T x H1 ∧ r x [] H1 Q
def tBM (K : PySem.W.Frag) (T : String) (r : V → List V → Hp → VK → Prop) (to : TE) (t : TA) : TE := fun σ H Q => to σ H fun x H1 => tyV K T x H1 ∧ t σ H1 fun xs H2 => r x xs H2 Q
variable {o e : Expr} {es : List Expr} {to : TE} {t : TA} {name : Str} {apos cpos : Pos} {T id : String} {r : V → List V → Hp → VK → Prop}
theorem pe_bm0 (pa : PlainAttrs T) (slot : Slot T name id) (hty : typeOf (.builtin id) = pure (.type "method_descriptor")) (hm : MtR X id r) (ho : PE X o to)
    (hbase : attributeBase o name X.env (eval o X.env) = eval o X.env := by rfl) (hline : (apos.endLine == cpos.line) = true := by rfl) : PE X (.Call (.Attribute o name apos) [] [] cpos) (tBM0 X.K T r to) := by
  intro pins s σ H Q I h
  refine wpAny_Call_method0_late hbase hline (thn (ho pins s σ H _ I h) fun v s1 ⟨x, H1, I1, r1, ty, q1⟩ => ?_)
  obtain ⟨h1, h2⟩ := tyV_is I1 r1 ty
  exact ⟨T, id, pa, slot, hty, h1, h2, Calls.callWith_builtin rfl (PySem.evalArgs_none (hm pins s1 σ H1 x [] v [] Q I1 r1 .nil q1))⟩
theorem pe_bm (pa : PlainAttrs T) (slot : Slot T name id) (hty : typeOf (.builtin id) = pure (.type "method_descriptor")) (hm : MtR X id r) (ho : PE X o to) (ha : PA X (e :: es) t)
    (hbase : attributeBase o name X.env (eval o X.env) = eval o X.env := by rfl)
    (hfew : ((backTo cpos (starEach (e :: es) X.env)).all (fun x => !x.1) && (backToKw cpos (keywordEach [] X.env)).all (fun x => x.1.isSome)
      && decide ((e :: es).length + ([] : List Keyword).length + (if ([] : List Keyword).isEmpty then 0 else 1) < 30)) = true := by rfl)
    (hline : (apos.endLine == cpos.line) = true := by rfl) (hs : starEach (e :: es) X.env = (false, eval e X.env) :: starEach es X.env := by rfl) (hplain : (backTo cpos (starEach es X.env)).any (·.1) = false := by rfl) :
    PE X (.Call (.Attribute o name apos) (e :: es) [] cpos) (tBM X.K T r to t) := by
  intro pins s σ H Q I h
  refine wpAny_Call_method_late hbase hfew hline rfl (thn (ho pins s σ H _ I h) fun v s1 ⟨x, H1, I1, r1, ty, q1⟩ => ?_)
  obtain ⟨h1, h2⟩ := tyV_is I1 r1 ty
  refine ⟨T, id, pa, slot, hty, h1, h2, ?_⟩
  have hA := ha cpos pins s1 σ H1 _ I1 q1
  rw [hs] at hA ⊢
  refine Calls.callWith_builtin (by show (false || (backTo cpos (starEach es X.env)).any (·.1)) = false; rw [hplain] <;> rfl) (Calls.evalArgs_plain ?_)
  exact thn hA fun us s2 ⟨vs, H2, I2, r2, q2⟩ => hm pins s2 σ H2 x vs v us Q I2 r1 r2 q2
/- xs.append(e), list.index on a module's tuple .. are MtR facts of 06m -/
end
end L2

namespace L2
open PySem PySem.Spec PyProof.Rows

def MtM (X : Cx) (id : String) (r : V → List V → Hp → VK → Prop) : Prop :=
  ∀ (pins : List (Addr × Obj)) (s : Shared) (σ : St) (H : Hp) (x : V) (xs : List V) (v : Value) (us : List Value) (Q : VK), Inv X pins σ H s → RelV x v → Vals xs us → r x xs H Q →
    wpAny (model X.prog X.w) X.A (call (.builtin id) (v :: us)) (EP X pins σ Q) X.xe s

/-! ### lists of values -/
theorem Vals.one : ∀ {x : V} {us : List Value}, Vals [x] us → ∃ u, us = [u] ∧ RelV x u
  | _, _, .cons r .nil => ⟨_, rfl, r⟩
theorem Vals.zero : ∀ {us : List Value}, Vals [] us → us = []
  | _, .nil => rfl
theorem Vals.dropLast {xs : List V} {us : List Value} (h : Vals xs us) : Vals xs.dropLast us.dropLast := by
  induction h with
  | nil => exact .nil
  | cons r t ih =>
    cases t with
    | nil => exact .nil
    | cons q t' => exact .cons r ih
theorem erase_last {α : Type} (l : List α) : l.eraseIdx (l.length - 1) = l.dropLast := by
  induction l with
  | nil => rfl
  | cons a r ih =>
    cases r with
    | nil => rfl
    | cons b r =>
      have e : (a :: b :: r).length - 1 = ((b :: r).length - 1) + 1 := by
        have h1 : (a :: b :: r).length = r.length + 2 := rfl
        have h2 : (b :: r).length = r.length + 1 := rfl
        omega
      rw [e, List.eraseIdx_cons_succ, ih]
      all_goals rfl

section
variable {X : Cx} {pins : List (Addr × Obj)} {σ : St} {H : Hp} {s : Shared} {l b : Addr} {xs ys zs : List V}

/-! ### the two steps: a tracked list is rewritten, a new list is laid -/
theorem Inv.lset {its its' : List Value} {n : Nat} {f : Array Value → Array Value} {t' : Nat} (I : Inv X pins σ H s) (hH : H l = some (.lst xs))
    (e : s.heap.get? l = some { cls := .type "list", data := .seq its.toArray n }) (hf : f its.toArray = its'.toArray) (hv : Vals ys its') (hz : ys.length ≤ sizeLine) :
    Inv X pins σ (upd H l (.lst ys)) { s with heap := s.heap.update l (Obj.mapSeq f), toks := t' } := by
  have q := PySem.IsL.update e f
  rw [hf] at q
  refine I.write (x := l) (e := l) (by rw [hH]; exact trivial) (.inl rfl) (fun b' u hb hu => (Heap.get?_update_other s.heap (Obj.mapSeq f) (Ne.symm hb)).trans hu) ⟨_, q⟩ ?_
  exact ⟨hz, its', _, hv, q⟩
theorem Inv.lstM (I : Inv X pins σ H s) (hH : H l = some (.lst xs)) : xs.length ≤ sizeLine ∧ ∃ (its : List Value) (n : Nat), Vals xs its ∧ xs.length = its.length ∧ s.heap.get? l = some { cls := .type "list", data := .seq its.toArray n } := by
  obtain ⟨z, its, n, r, e⟩ := I.hok l _ hH
  exact ⟨z, its, n, r, r.length, e⟩

theorem notLongL {n : Nat} (h : n ≤ sizeLine) : Builtin.List.listTooLong n = false := by
  unfold Builtin.List.listTooLong
  exact decide_eq_false (by omega)
end

section
variable {X : Cx}

/-! ### methods -/
def rAppend : V → List V → Hp → VK → Prop := fun x vs H Q => ∃ l xs y, x = .ref l ∧ vs = [y] ∧ H l = some (.lst xs) ∧ xs.length < sizeLine ∧ Q .non (upd H l (.lst (xs ++ [y])))
theorem mt_append : MtM X "list.append" rAppend := by
  intro pins s σ H x vs v us Q I rx rv h
  obtain ⟨l, xs, y, rfl, rfl, hH, hz, q⟩ := h
  cases rx
  obtain ⟨u, rfl, ru⟩ := rv.one
  obtain ⟨z, its, n, r, hl, e⟩ := I.lstM hH
  refine call_meets F.slot_list_append ⟨_, e, rfl⟩ F.entry_list_append (F.args_list_append_2 _ _) (PySem.list_append l its.toArray n u (by rw [List.size_toArray]; omega)) ⟨e, ?_⟩
  refine ⟨.non, _, I.lset (its' := its ++ [u]) hH e (by simp) (r.append (.cons ru .nil)) ?_, rfl, q⟩
  rw [List.length_append, List.length_singleton]
  omega

def rExtend : V → List V → Hp → VK → Prop := fun x vs H Q => ∃ l b xs zs, x = .ref l ∧ vs = [.ref b] ∧ H l = some (.lst xs) ∧ H b = some (.lst zs) ∧ xs.length + zs.length ≤ sizeLine ∧ Q .non (upd H l (.lst (xs ++ zs)))
theorem mt_extend : MtM X "list.extend" rExtend := by
  intro pins s σ H x vs v us Q I rx rv h
  obtain ⟨l, b, xs, zs, rfl, rfl, hH, hB, hz, q⟩ := h
  cases rx
  obtain ⟨u, rfl, ru⟩ := rv.one
  cases ru
  obtain ⟨z, its, n, r, hl, e⟩ := I.lstM hH
  obtain ⟨z2, its2, n2, r2, hl2, e2⟩ := I.lstM hB
  have hsz : its.toArray.size + its2.toArray.size ≤ sizeLine := by rw [List.size_toArray, List.size_toArray]; omega
  have hlong : ¬ (!its.toArray.isEmpty && Builtin.List.listTooLong (its.toArray.size + its2.toArray.size)) = true := by
    rw [notLongL hsz, Bool.and_false]
    exact Bool.false_ne_true
  refine call_meets F.slot_list_extend ⟨_, e, rfl⟩ F.entry_list_extend (F.args_list_extend_2 _ _)
    (AutoSeq1.list_extend_list_list_0 l its.toArray n b its2.toArray n2 hlong (by rw [List.size_toArray]; omega) (by omega)) ⟨e, e2, ?_⟩
  refine ⟨.non, _, I.lset (its' := its ++ its2) hH e (by simp) (r.append r2) ?_, rfl, q⟩
  rw [List.length_append]
  omega

def rPop : V → List V → Hp → VK → Prop := fun x vs H Q => ∃ l xs y, x = .ref l ∧ vs = [] ∧ H l = some (.lst xs) ∧ xs[xs.length - 1]? = some y ∧ Q y (upd H l (.lst xs.dropLast))
theorem mt_pop : MtM X "list.pop" rPop := by
  intro pins s σ H x vs v us Q I rx rv h
  obtain ⟨l, xs, y, rfl, rfl, hH, hy, q⟩ := h
  cases rx
  have hus := rv.zero
  subst hus
  obtain ⟨z, its, n, r, hl, e⟩ := I.lstM hH
  obtain ⟨u, hu, ru⟩ := r.get hy
  have hy' : its.toArray[its.toArray.size - 1]? = some u := by
    show its.toArray[its.length - 1]? = some u
    rw [← Array.getElem?_toList, ← hl]
    exact hu
  refine call_meets F.slot_list_pop ⟨_, e, rfl⟩ F.entry_list_pop (F.args_list_pop_1 _) (MeetsSeq.list_pop_last l its.toArray n u hy' (by rw [List.size_toArray]; omega)) ⟨e, ?_⟩
  refine ⟨y, _, I.lset (its' := its.dropLast) hH e ?_ r.dropLast ?_, ru, q⟩
  · show its.toArray.eraseIdxIfInBounds (its.toArray.size - 1) = its.dropLast.toArray
    rw [List.size_toArray, List.eraseIdxIfInBounds_toArray, erase_last]
  · rw [List.length_dropLast]
    omega




/-! ### list + list, list += list, list * int -/

/-! ### del xs[i] -/
end

/-! ### xs[a:b] = ys -/
section
variable {prog : Program} {w : World} {A : Around} {E : Value → Shared → Prop} {s : Shared}
end

section
variable {X : Cx}
end
end L2

namespace L2
open PySem PySem.Spec PyProof.Rows

theorem Vals.ints : ∀ {ns : List Int} {us : List Value}, Vals (ns.map V.int) us → IntsAre us ns
  | [], us, h => by
    rw [List.map_nil] at h
    cases h
    exact IntsAre.nil
  | n :: ns, us, h => by
    rw [List.map_cons] at h
    cases h with
    | cons r t =>
      obtain ⟨k, rfl⟩ := r
      exact IntsAre.cons n k (Vals.ints t)

/-! ### the library's walks over a list of ints, kept objects alone -/
section
variable {prog : Program} {w : World} {A : Around} {E : Value → Shared → Prop} {s : Shared} {l : Addr} {its : List Value} {ns : List Int} {Q : Value → Shared → Prop}
end

/-! ### the calls, by values (CallR of 03t; MtR of 06l) -/
section
variable {X : Cx}

/-! sorted, sort (fewer than 64 items: the library's own bound) -/
end

/-! ### list.index, flat items -/
section
variable {X : Cx}
end

/-! ### type(x) of an own instance; is, is not of a module's class -/
section
variable {X : Cx}
end

/-! ### any(xs), all(xs) of a list of bools -/
section
variable {X : Cx}
end

/-! ### == and != of data at any depth: none, bools, ints, texts, lists, tuples -/
section
variable {X : Cx} {pins : List (Addr × Obj)} {σ : St} {H : Hp} {s : Shared}
end
section
variable {X : Cx}
end
end L2

namespace L2
open PySem PySem.Spec PyProof.Rows
abbrev CellAt (h : Heap) (c : Addr) (v : Option Value) : Prop := h.IsCell c v
def relS (scope sc : Scope) : Scope :=
  { scope with names := scope.names.map fun (n, k) => if (k == .free && sc.kind == .function && sc.names.lookup n == some .cell) then (n, .cell) else (n, k) }

def cloFrom (cells : List (Str × Addr)) : List (Str × NameKind) → List (Str × Addr) → List (Str × Addr)
  | [], acc => acc
  | (n, k) :: r, acc => if k == .free then cloFrom cells r ((n, (cells.lookup n).getD 0) :: acc) else cloFrom cells r acc

theorem closure_loop (env : Env) (f : Str × NameKind → List (Str × Addr) → Sem (ForInStep (List (Str × Addr))))
    (hf : ∀ n k c, f (n, k) c = if k == .free then (do let a ← cellOf env n; pure (.yield ((n, a) :: c))) else pure (.yield c)) :
    ∀ (names : List (Str × NameKind)) (acc : List (Str × Addr)), (∀ y ∈ names, y.2 = .free → ∃ c, env.cells.lookup y.1 = some c) → forIn names acc f = pure (cloFrom env.cells names acc)
  | [], acc, _ => by rw [List.forIn_nil]; rfl
  | (n, k) :: r, acc, h => by
    rw [List.forIn_cons, hf]
    have ih := fun acc => closure_loop env f hf r acc fun y hy => h y (List.mem_cons_of_mem _ hy)
    unfold cloFrom
    by_cases hk : (k == NameKind.free) = true
    · rw [if_pos hk, if_pos hk]
      obtain ⟨c, hc⟩ := h (n, k) List.mem_cons_self (by simpa using hk)
      have e : cellOf env n = pure c := by unfold cellOf; rw [hc]
      rw [e]
      have e2 : (env.cells.lookup n).getD 0 = c := by rw [hc]; rfl
      rw [e2]
      exact ih _
    · rw [if_neg hk, if_neg hk]
      exact ih _
theorem closure_ok {scope : Scope} {env : Env} (h : ∀ y ∈ scope.names, y.2 = .free → ∃ c, env.cells.lookup y.1 = some c) : closureFor scope env = pure (cloFrom env.cells scope.names []) := by
  simp only [closureFor]
  rw [closure_loop env _ (fun n k c => rfl) scope.names [] h]
  rfl

theorem mem_lookup {α : Type} : ∀ {l : List (Str × α)} {n : Str} {c : α}, (n, c) ∈ l → ∃ c', l.lookup n = some c'
  | (k, v) :: r, n, c, h => by
    rw [List.lookup_cons]
    cases hb : n == k with
    | true => exact ⟨_, rfl⟩
    | false =>
      rcases List.mem_cons.mp h with e | h
      · cases e; simp at hb
      · exact mem_lookup h

theorem cloFrom_mem {cells : List (Str × Addr)} : ∀ {names : List (Str × NameKind)} {acc : List (Str × Addr)} {n : Str} {c : Addr}, (n, c) ∈ cloFrom cells names acc → (n, c) ∈ acc ∨ ((n, .free) ∈ names ∧ c = (cells.lookup n).getD 0)
  | [], _, _, _, h => .inl h
  | (m, k) :: r, acc, n, c, h => by
    unfold cloFrom at h
    split at h
    · rename_i hk
      have hk : k = .free := by simpa using hk
      rcases cloFrom_mem h with h | ⟨h1, h2⟩
      · rcases List.mem_cons.mp h with e | h
        · cases e; exact .inr ⟨hk ▸ List.mem_cons_self, rfl⟩
        · exact .inl h
      · exact .inr ⟨List.mem_cons_of_mem _ h1, h2⟩
    · rcases cloFrom_mem h with h | ⟨h1, h2⟩
      · exact .inl h
      · exact .inr ⟨List.mem_cons_of_mem _ h1, h2⟩
theorem cloFrom_acc {cells : List (Str × Addr)} : ∀ {names : List (Str × NameKind)} {acc : List (Str × Addr)} {p : Str × Addr}, p ∈ acc → p ∈ cloFrom cells names acc
  | [], _, _, h => h
  | (m, k) :: r, acc, p, h => by
    unfold cloFrom
    split
    · exact cloFrom_acc (List.mem_cons_of_mem _ h)
    · exact cloFrom_acc h
theorem cloFrom_has {cells : List (Str × Addr)} : ∀ {names : List (Str × NameKind)} {acc : List (Str × Addr)} {n : Str}, (n, .free) ∈ names → (n, (cells.lookup n).getD 0) ∈ cloFrom cells names acc
  | (m, k) :: r, acc, n, h => by
    unfold cloFrom
    rcases List.mem_cons.mp h with e | h
    · cases e
      exact cloFrom_acc List.mem_cons_self
    · split
      · exact cloFrom_has h
      · exact cloFrom_has h

theorem cells_mem : ∀ {names : List (Str × NameKind)} {h : Heap} {acc : List (Str × Addr)} {x : Str} {c : Addr}, (x, c) ∈ cellsFrom h.objs.size names acc →
    (x, c) ∈ acc ∨ ((x, .cell) ∈ names ∧ h.objs.size ≤ c ∧ CellAt (pushCells h names) c none)
  | [], _, _, _, _, h => .inl h
  | (n, k) :: r, h, acc, x, c, hm => by
    unfold cellsFrom at hm
    unfold pushCells
    split at hm
    · rename_i hk
      rw [if_pos hk]
      have hk : k = .cell := by simpa using hk
      rw [← Heap.size_push h { cls := .type "cell", data := .cell none }] at hm
      rcases cells_mem hm with hm | ⟨h1, h2, h3⟩
      · rcases List.mem_cons.mp hm with e | hm
        · cases e
          exact .inr ⟨hk ▸ List.mem_cons_self, Nat.le_refl _, _, pushCells_keeps r _ _ _ (Heap.get?_push_size _ rfl), rfl⟩
        · exact .inl hm
      · rw [Heap.size_push] at h2
        exact .inr ⟨List.mem_cons_of_mem _ h1, Nat.le_of_succ_le h2, h3⟩
    · rename_i hk
      rw [if_neg hk]
      rcases cells_mem hm with hm | ⟨h1, h2, h3⟩
      · exact .inl hm
      · exact .inr ⟨List.mem_cons_of_mem _ h1, h2, h3⟩
theorem cells_acc : ∀ {names : List (Str × NameKind)} {n : Nat} {acc : List (Str × Addr)} {p : Str × Addr}, p ∈ acc → p ∈ cellsFrom n names acc
  | [], _, _, _, h => h
  | (m, k) :: r, n, acc, p, h => by
    unfold cellsFrom
    split
    · exact cells_acc (List.mem_cons_of_mem _ h)
    · exact cells_acc h
theorem cells_has : ∀ {names : List (Str × NameKind)} {n : Nat} {acc : List (Str × Addr)} {x : Str}, (x, .cell) ∈ names → ∃ c, (x, c) ∈ cellsFrom n names acc
  | (m, k) :: r, n, acc, x, h => by
    unfold cellsFrom
    rcases List.mem_cons.mp h with e | h
    · cases e
      exact ⟨n, cells_acc List.mem_cons_self⟩
    · split
      · exact cells_has h
      · exact cells_has h
theorem cells_inj : ∀ {names : List (Str × NameKind)} {h : Heap} {acc : List (Str × Addr)} {x y : Str} {c : Addr}, (∀ p ∈ acc, p.2 < h.objs.size) → (∀ x y c, (x, c) ∈ acc → (y, c) ∈ acc → x = y) →
    (x, c) ∈ cellsFrom h.objs.size names acc → (y, c) ∈ cellsFrom h.objs.size names acc → x = y
  | [], _, _, _, _, _, _, hi, h1, h2 => hi _ _ _ h1 h2
  | (n, k) :: r, h, acc, x, y, c, hl, hi, h1, h2 => by
    unfold cellsFrom at h1 h2
    split at h1
    · rename_i hk
      rw [if_pos hk] at h2
      rw [← Heap.size_push h { cls := .type "cell", data := .cell none }] at h1 h2
      refine cells_inj (h := h.push _) (fun p hp => ?_) (fun x y c a b => ?_) h1 h2
      · rw [Heap.size_push]
        rcases List.mem_cons.mp hp with rfl | hp
        · exact Nat.lt_succ_self _
        · exact Nat.lt_succ_of_lt (hl p hp)
      · rcases List.mem_cons.mp a with e | a <;> rcases List.mem_cons.mp b with e' | b
        · cases e; cases e'; rfl
        · cases e; exact absurd (hl _ b) (Nat.lt_irrefl _)
        · cases e'; exact absurd (hl _ a) (Nat.lt_irrefl _)
        · exact hi _ _ _ a b
    · rename_i hk
      rw [if_neg hk] at h2
      exact cells_inj hl hi h1 h2

theorem newEnv_comp {M : Model} {A : Around} {E : Value → Shared → Prop} {s : Shared} {scope : Scope} {globals : Addr} {closure : List (Str × Addr)} {qual : Str} {func : Option Addr} {code : Value} {around : Env} {builtins : Addr} {Q : Env → Shared → Prop}
    (h : Q (newEnv scope s.heap.objs.size globals (cellsFrom (s.heap.objs.size + 1) scope.names closure) qual func code (some around) builtins)
      { s with heap := pushCells (s.heap.push { cls := .type "dict", data := .dict #[] }) scope.names }) :
    wpAny M A (newFunctionEnv scope globals closure [] qual func code (some around) builtins) Q E s := by
  simp only [newFunctionEnv, Option.isSome_some, if_true]
  refine wpAny_bind (wpAny_alloc ?_)
  refine wpAny_bind (wpAny_layCells _ (fun n k c => rfl) scope.names closure _ _ ?_)
  rw [show ({ s with heap := s.heap.push { cls := .type "dict", data := .dict #[] } } : Shared).heap.objs.size = s.heap.objs.size + 1 from Heap.size_push ..]
  rw [List.forIn_nil]
  exact wpAny_bind (wpAny_pure (wpAny_pure h))

/-- every name of the written scope, in the scope that runs -/
theorem lookup_relS {sc : Scope} : ∀ {names : List (Str × NameKind)} {x : Str} {k : NameKind},
    (names.map fun (n, k) => if (k == NameKind.free && sc.kind == .function && sc.names.lookup n == some .cell) then (n, NameKind.cell) else (n, k)).lookup x = some k →
    ∃ k', names.lookup x = some k' ∧ (k = k' ∨ (k' = .free ∧ k = .cell))
  | [], _, _, h => by simp at h
  | (n, k₀) :: r, x, k, h => by
    have ih := @lookup_relS sc r x k
    have h' : List.lookup x ((if (k₀ == NameKind.free && sc.kind == .function && sc.names.lookup n == some .cell) = true then (n, NameKind.cell) else (n, k₀)) :: (r.map _)) = some k := h
    cases hx : x == n with
    | true =>
      simp only [List.lookup_cons, hx]
      by_cases hc : (k₀ == NameKind.free && sc.kind == .function && sc.names.lookup n == some .cell) = true
      · rw [if_pos hc] at h'
        simp only [List.lookup_cons, hx] at h'
        cases h'
        simp only [Bool.and_eq_true, beq_iff_eq] at hc
        exact ⟨k₀, rfl, .inr ⟨hc.1.1, rfl⟩⟩
      · rw [if_neg hc] at h'
        simp only [List.lookup_cons, hx] at h'
        cases h'
        exact ⟨_, rfl, .inl rfl⟩
    | false =>
      simp only [List.lookup_cons, hx]
      by_cases hc : (k₀ == NameKind.free && sc.kind == .function && sc.names.lookup n == some .cell) = true
      · rw [if_pos hc] at h'
        simp only [List.lookup_cons, hx] at h'
        exact ih h'
      · rw [if_neg hc] at h'
        simp only [List.lookup_cons, hx] at h'
        exact ih h'



/-- the names of a comprehension's block: its own (with their places in N), or captured -/
structure BlkOk (N : List Str) (sc scope : Scope) (own : List (Str × Nat)) : Prop where
  kind : scope.kind = .function
  uniq : ∀ y ∈ scope.names, scope.names.lookup y.1 = some y.2
  ix : ∀ p ∈ own, N[p.2]? = some p.1
  free : ∀ y ∈ scope.names, y.2 = .free → sc.names.lookup y.1 = some .cell ∨ sc.names.lookup y.1 = some .free
  own : ∀ y ∈ scope.names, y.2 = .local ∨ y.2 = .cell → y.1 ∈ own.map (·.1) ∨ y.1 ∉ N
/-- the slots of the block's own names forgotten -/
def wipe (σ : St) : List Nat → St
  | [] => σ
  | v :: vs => (wipe σ vs).set v none
theorem wipe_length (σ : St) : ∀ vs : List Nat, (wipe σ vs).length = σ.length
  | [] => rfl
  | v :: vs => by unfold wipe; rw [List.length_set, wipe_length σ vs]
theorem wipe_some {σ : St} {i : Nat} {x : V} : ∀ {vs : List Nat}, (wipe σ vs)[i]? = some (some x) → σ[i]? = some (some x) ∧ i ∉ vs
  | [], h => ⟨h, by simp⟩
  | v :: vs, h => by
    unfold wipe at h
    by_cases hi : v = i
    · subst hi
      by_cases hv : v < (wipe σ vs).length
      · rw [List.getElem?_set_self hv] at h; cases h
      · rw [List.getElem?_eq_none (by simpa using hv)] at h; cases h
    · rw [List.getElem?_set_ne hi] at h
      obtain ⟨h1, h2⟩ := wipe_some h
      exact ⟨h1, by simp only [List.mem_cons, not_or]; exact ⟨fun e => hi e.symm, h2⟩⟩

/-- the context of a block that starts at s, its iterator's objects at fp -/
abbrev Cx.blk (X : Cx) (s : Shared) (H : Hp) (scope : Scope) (cenv : Env) (fp : List Addr) : Cx := { X with s_0 := s, H_0 := H, env := cenv, outer := X.stack, ex := fp, fn := fun x => scope.names.lookup x == some .cell, pn := [], xe := fun _ _ => False }
section
variable {X : Cx} {pins : List (Addr × Obj)} {σ : St} {H : Hp} {s : Shared}
theorem block_start {scope : Scope} {own : List (Str × Nat)} {fp : List Addr} (I : Inv X pins σ H s) (ok : BlkOk X.N X.env.scope scope own) (hN : X.N.Nodup) (hfp : ∀ b ∈ fp, FpOk X pins H b ∧ b < s.heap.objs.size) :
    Inv (X.blk s H scope (compEnvC scope (cellsFrom (s.heap.objs.size + 1) scope.names (cloFrom X.env.cells scope.names [])) s.heap.objs.size X.env) fp) [] (wipe σ (own.map (·.2))) H { s with heap := pushCells (s.heap.push { cls := .type "dict", data := .dict #[] }) scope.names } := by
  have hfree : ∀ y ∈ scope.names, y.2 = .free → ∃ c, X.env.cells.lookup y.1 = some c := fun y hy e => by
    rcases ok.free y hy e with k | k
    · exact I.ok.has _ (.inl k)
    · exact I.ok.has _ (.inr k)
  generalize hcenv : compEnvC scope (cellsFrom (s.heap.objs.size + 1) scope.names (cloFrom X.env.cells scope.names [])) s.heap.objs.size X.env = cenv
  have kp : ∀ b o, s.heap.get? b = some o → (pushCells (s.heap.push { cls := .type "dict", data := .dict #[] }) scope.names).get? b = some o := fun b o e => pushCells_keeps _ _ _ _ (Heap.get?_push_of_some _ e)
  have hL : cenv.locals = s.heap.objs.size := by rw [← hcenv]; rfl
  have hcl : cenv.cells = cellsFrom (s.heap.objs.size + 1) scope.names (cloFrom X.env.cells scope.names []) := by rw [← hcenv]; rfl
  have hsc : cenv.scope = relS scope X.env.scope := by rw [← hcenv]; rfl
  rw [← Heap.size_push s.heap { cls := .type "dict", data := .dict #[] }] at hcl
  have cm : ∀ {y c}, (y, c) ∈ cloFrom X.env.cells scope.names [] → X.env.cells.lookup y = some c ∧ c < s.heap.objs.size := fun {y c} hm => by
    rcases cloFrom_mem hm with hm | ⟨h1, rfl⟩
    · cases hm
    · obtain ⟨c, hc⟩ := hfree _ h1 rfl
      rw [hc]
      obtain ⟨w, z⟩ := I.cell _ _ hc
      exact ⟨rfl, z.lt⟩
  have mem : ∀ {y c}, cenv.cells.lookup y = some c → (X.env.cells.lookup y = some c ∧ c < s.heap.objs.size) ∨ (s.heap.objs.size + 1 ≤ c ∧ CellAt (pushCells (s.heap.push { cls := .type "dict", data := .dict #[] }) scope.names) c none) := fun {y c} e => by
    rw [hcl] at e
    rcases cells_mem (PySem.mem_of_lookup e) with hm | ⟨_, h2, h3⟩
    · exact .inl (cm hm)
    · rw [Heap.size_push] at h2; exact .inr ⟨h2, h3⟩
  have look : ∀ {y}, scope.names.lookup y = some .free → ∃ c, cenv.cells.lookup y = some c ∧ X.env.cells.lookup y = some c := fun {y} hl => by
    have hy : (y, NameKind.free) ∈ scope.names := PySem.mem_of_lookup hl
    obtain ⟨c', e'⟩ := mem_lookup (cells_acc (names := scope.names) (n := (s.heap.push { cls := .type "dict", data := .dict #[] }).objs.size) (cloFrom_has (cells := X.env.cells) (acc := []) hy))
    rw [← hcl] at e'
    refine ⟨c', e', ?_⟩
    rw [hcl] at e'
    rcases cells_mem (PySem.mem_of_lookup e') with hm | ⟨h1, _, _⟩
    · exact (cm hm).1
    · have := ok.uniq _ h1
      rw [hl] at this; cases this
  have okB : (X.blk s H scope cenv fp).Ok := by
    refine ⟨I.ok.mod, by show cenv.scope.kind = _; rw [hsc]; exact ok.kind, by show cenv.globals = _; rw [← hcenv]; exact I.ok.glob, by show cenv.builtins = _; rw [← hcenv]; exact I.ok.blt, by show s.heap.objs.size ≤ cenv.locals; rw [hL]; exact Nat.le_refl _,
      fun y z c e1 e2 => ?_, fun y hy => ?_, fun y c z e => ?_, I.ok.hd, I.ok.frames, .inl rfl, fun b hb => ⟨?_, fun y c e z => ?_⟩, I.bs, Nat.le_trans I.ok.bsz I.sz, fun b o e hb => ?_, fun b hb z => ?_, I.stack, I.stkFree⟩
    · have e1 : cenv.cells.lookup y = some c := e1
      have e2 : cenv.cells.lookup z = some c := e2
      rw [hcl] at e1 e2
      refine cells_inj (fun p hp => ?_) (fun y z c a b => I.ok.inj y z c (cm a).1 (cm b).1) (PySem.mem_of_lookup e1) (PySem.mem_of_lookup e2)
      rw [Heap.size_push]
      exact Nat.lt_succ_of_lt (cm (y := p.1) (c := p.2) hp).2
    · show ∃ c, cenv.cells.lookup y = some c
      have key : ∀ k, cenv.kindOf y = some k → (k = .cell ∨ k = .free) → ∃ c, cenv.cells.lookup y = some c := fun k hk hk' => by
        unfold Env.kindOf at hk
        rw [hsc] at hk
        obtain ⟨k', e, r⟩ := lookup_relS hk
        have : k' = .cell ∨ k' = .free := by
          rcases r with rfl | ⟨rfl, _⟩
          · exact hk'
          · exact .inr rfl
        rcases this with rfl | rfl
        · obtain ⟨c, hm⟩ := cells_has (n := (s.heap.push { cls := .type "dict", data := .dict #[] }).objs.size) (acc := cloFrom X.env.cells scope.names []) (PySem.mem_of_lookup e)
          obtain ⟨c', e'⟩ := mem_lookup hm
          exact ⟨c', by rw [hcl]; exact e'⟩
        · obtain ⟨c, h1, _⟩ := look e
          exact ⟨c, h1⟩
      rcases hy with hy | hy
      · exact key _ hy (.inl rfl)
      · exact key _ hy (.inr rfl)
    · have z : (scope.names.lookup y == some NameKind.cell) = true := z
      have z : scope.names.lookup y = some .cell := by simpa using z
      have e : cenv.cells.lookup y = some c := e
      rw [hcl] at e
      rcases cells_mem (PySem.mem_of_lookup e) with hm | ⟨_, h2, _⟩
      · rcases cloFrom_mem hm with hm | ⟨h1, _⟩
        · cases hm
        · have q := ok.uniq _ h1
          rw [z] at q; cases q
      · rw [Heap.size_push] at h2
        exact Nat.le_of_succ_le h2
    · show b ≠ cenv.locals
      rw [hL]; exact Nat.ne_of_lt (hfp b hb).2
    · have e : cenv.cells.lookup y = some c := e
      rcases mem e with ⟨h1, _⟩ | ⟨h1, _⟩
      · exact (hfp b hb).1.2.2.2.2.1 y c h1 z
      · have h2 : s.heap.objs.size + 1 ≤ b := by rw [← z]; exact h1
        exact absurd (Nat.lt_of_lt_of_le (hfp b hb).2 (Nat.le_of_succ_le h2)) (Nat.lt_irrefl _)
    · rcases (hfp b hb).1.2.2.2.1 with z | z
      · exact I.ok.noex b o e z
      · exact absurd (Nat.lt_of_lt_of_le (Heap.lt_size e) (Nat.le_trans I.ok.bsz z)) (Nat.lt_irrefl _)
    · rcases List.mem_cons.mp (I.stkSub b z) with z | z
      · exact (hfp b hb).1.2.1 z
      · exact (hfp b hb).1.2.2.1 z
  refine ⟨okB, rfl, I.bare, Un.kept kp, ⟨fun _ => none, ?_, fun i y av e1 e2 e3 => ?_⟩, fun y c e => ?_, ?_, fun y c e => ?_, fun p hp => ?_, I.hok.kept kp, by rw [wipe_length]; exact I.len⟩
  · show Heap.Ns _ cenv.locals _
    rw [hL]
    exact Heap.Ns.keeps (Heap.Ns.new ..) fun b o e => pushCells_keeps _ _ _ _ e
  · obtain ⟨e2, hne⟩ := wipe_some e2
    have hfr : scope.names.lookup y = some .free ∧ (cenv.kindOf y = some .cell ∨ cenv.kindOf y = some .free) := by
      have key : ∀ k, cenv.scope.names.lookup y = some k → k = .local ∨ k = .cell ∨ k = .free → scope.names.lookup y = some .free ∧ (cenv.kindOf y = some .cell ∨ cenv.kindOf y = some .free) := fun k hk hk' => by
        have hk0 := hk
        rw [hsc] at hk
        obtain ⟨k', e, r⟩ := lookup_relS hk
        have no : ¬ (k' = .local ∨ k' = .cell) := fun hh => by
          rcases ok.own _ (PySem.mem_of_lookup e) hh with e' | e'
          · obtain ⟨p, hp, hpy⟩ := List.mem_map.mp e'
            have e3 := ok.ix p hp
            have : p.1 = y := hpy
            rw [this] at e3
            exact hne (List.mem_map.mpr ⟨p, hp, nodup_ix hN e3 e1⟩)
          · exact e' (List.mem_of_getElem? e1)
        rcases r with rfl | ⟨rfl, rfl⟩
        · rcases hk' with rfl | rfl | rfl
          · exact absurd (.inl rfl) no
          · exact absurd (.inr rfl) no
          · exact ⟨e, .inr hk0⟩
        · exact ⟨e, .inl hk0⟩
      have e3 : Vis cenv.scope y := e3
      rcases e3 with e3 | e3 | e3
      · exact key _ e3 (.inl rfl)
      · exact key _ e3 (.inr (.inl rfl))
      · exact key _ e3 (.inr (.inr rfl))
    obtain ⟨m, hn, hl⟩ := I.loc
    have hvis : Vis X.env.scope y := (ok.free _ (PySem.mem_of_lookup hfr.1) rfl).elim (fun k => .inr (.inl k)) (fun k => .inr (.inr k))
    obtain ⟨w, r, q⟩ := hl i y av e1 e2 hvis
    refine ⟨w, r, .inr ⟨hfr.2, ?_⟩⟩
    obtain ⟨c, h1, h2⟩ := look hfr.1
    rcases q with ⟨k, _⟩ | ⟨_, c', e', z⟩
    · have k : X.env.scope.names.lookup y = some .local := k
      rcases ok.free _ (PySem.mem_of_lookup hfr.1) rfl with k' | k' <;> rw [show X.env.scope.names.lookup y = _ from k'] at k <;> cases k
    · rw [h2] at e'; cases e'
      exact ⟨c, h1, z.keeps kp⟩
  · have e : cenv.cells.lookup y = some c := e
    rcases mem e with ⟨h1, _⟩ | ⟨_, z⟩
    · obtain ⟨w, z⟩ := I.cell y c h1
      exact ⟨w, z.keeps kp⟩
    · exact ⟨_, z⟩
  · show H cenv.locals = none
    rw [hL]; exact I.hok.fresh (Nat.le_refl _)
  · have e : cenv.cells.lookup y = some c := e
    rcases mem e with ⟨h1, _⟩ | ⟨h1, _⟩
    · exact I.freeC y c h1
    · exact I.hok.fresh (Nat.le_of_succ_le h1)
  · exact absurd (show p ∈ ([] : List (Addr × Obj)) ++ [] from hp) (by simp)

/-- an item appended to a tracked list -/
theorem app_ok {E : Value → Shared → Prop} {D : Addr} {xs : List V} {y : V} {v : Value} {Q : Value → Shared → Prop} (I : Inv X pins σ H s) (hD : H D = some (.lst xs)) (hz : xs.length < sizeLine) (r : RelV y v)
    (h : ∀ s', Inv X pins σ (upd H D (.lst (xs ++ [y]))) s' → Q .none s') : wpAny (model X.prog X.w) X.A (call (.builtin "list.append") [.ref D, v]) Q E s := by
  obtain ⟨hz', its, n, ri, e⟩ := I.hok D _ hD
  have hl := ri.length
  refine append_at (hsz := by rw [List.size_toArray]; omega) e fun h' sb ho' => ?_
  refine h { s with heap := h' } (I.write (t' := s.toks) (by rw [hD]; trivial) (.inl rfl) (fun b u hb q => (sb.2 b hb).trans q) ⟨_, ho'⟩ ⟨by rw [List.length_append]; exact hz, its ++ [v], n + 1, ri.append (.cons r .nil), ?_⟩)
  rw [ho']
  simp

/-- a clause's tests -/
def PTs (X : Cx) (ifs : List Expr) (t : TT) : Prop :=
  ∀ (pins : List (Addr × Obj)) (s : Shared) (σ : St) (H : Hp) (Q : Bool → Hp → Prop), Inv X pins σ H s → t σ H Q →
    wpAny (model X.prog X.w) X.A (forIn ifs true fun c r => if r = true then do let ok ← isTrue c X.env (eval c X.env); pure (ForInStep.yield ok) else pure (ForInStep.yield r)) (TP X pins σ Q) X.xe s
def tYes : TT := fun _ H Q => Q true H
theorem pts_nil : PTs X [] tYes := fun _ _ _ H _ I h => wpAny_tests_nil ⟨H, I, h⟩
theorem pts_one {c : Expr} {t : TT} (h : PT X c t) : PTs X [c] t := fun pins s σ H Q I hw => wpAny_tests_one (h pins s σ H Q I hw)
end

theorem thnF {α : Type} {t : Sem α} {Q Q' : α → Shared → Prop} {M : Model} {A : Around} {E : Value → Shared → Prop} {s : Shared} (h : wpAny M A t Q (fun _ _ => False) s) (hQ : ∀ a s, Q a s → Q' a s) : wpAny M A t Q' E s := wpAny_mono h hQ fun _ _ z => False.elim z

/-- the loop of a list comprehension's block, the target of any form (codeAny_compLoop_tests asks a target that no tuple goes to; statement and proof follow it, PyProof/CompMap.lean:41-61, with the step letOwnedTupleGo kept) -/
theorem compLoop_any {prog : Program} {w : World} {A : Around} {R : Result → Shared → Prop} {s : Shared} {elt target iter : Expr} {ifs : List Expr} {scope : Scope} {pos : Pos} {it acc : Value} {env : Env} (I : Nat → Shared → Prop)
    (turn : ∀ n s, I n s → wpAny (model prog w) A (pyNext it) (fun r s₁ => match r with
      | none => R (.ok .next) s₁
      | some v => wpAny (model prog w) A (letOwnedTupleGo target it v) (fun _ s₁' => wpAny (model prog w) A (assign target env v) (fun _ s₂ =>
          wpAny (model prog w) A (forIn ifs true fun c r => if r = true then do let ok ← isTrue c env (eval c env); pure (ForInStep.yield ok) else pure (ForInStep.yield r)) (fun ok s₃ =>
            if ok = true then wpAny (model prog w) A (eval elt env) (fun x s₄ =>
              wpAny (model prog w) A (call (.builtin "list.append") [acc, x]) (fun _ s₅ => ∃ m, m < n ∧ I m s₅) (notedBy (model prog w) A env fun e s' => R (.error e) s') s₄) (notedBy (model prog w) A env fun e s' => R (.error e) s') s₃
            else ∃ m, m < n ∧ I m s₃) (notedBy (model prog w) A env fun e s' => R (.error e) s') s₂) (notedBy (model prog w) A env fun e s' => R (.error e) s') s₁') (notedBy (model prog w) A env fun e s' => R (.error e) s') s₁) (notedBy (model prog w) A env fun e s' => R (.error e) s') s)
    (n : Nat) (h : I n s) :
    codeAny (model prog w) A (.compLoop (.ListComp elt [⟨target, iter, ifs, 0⟩] scope pos) 0 it acc env) R s := by
  refine codeAny_loop rfl I (fun n s hI => ?_) n h
  show wpAny _ A ((compTurn (.ListComp elt [⟨target, iter, ifs, 0⟩] scope pos) 0 it acc env).onRaise (fun x => do noteFrame x env; theTreesLotGoes x)) _ _ s
  refine wpAny_noted ?_
  rw [compTurn_list]
  refine wpAny_bind (wpAny_standAt (wpAny_bind (wpAny_mono (turn n s hI) (fun r s₁ h₁ => ?_) fun _ _ h' => h')))
  cases r with
  | none => exact wpAny_pure h₁
  | some v =>
    refine wpAny_bind (wpAny_mono h₁ (fun _ s₁' h₁' => ?_) fun _ _ h' => h')
    refine wpAny_bind (wpAny_mono h₁' (fun _ s₂ h₂ => wpAny_bind (wpAny_mono h₂ (fun ok s₃ h₃ => ?_) fun _ _ h' => h')) fun _ _ h' => h')
    cases ok with
    | false => exact wpAny_pure ⟨rfl, h₃⟩
    | true =>
      exact wpAny_bind (wpAny_bind (wpAny_mono h₃ (fun x s₄ h₄ => wpAny_bind (wpAny_mono h₄ (fun _ s₅ h₅ => wpAny_pure (wpAny_pure ⟨rfl, h₅⟩)) fun _ _ h' => h')) fun _ _ h' => h'))

section
variable {X : Cx}
/-- [elt for target in iter if ..]: D the new list; W by the turn and a measure, Nx what a turn is to reach -/
def tLc (wi : TI) (g : TG) (tt : TT) (te : TE) (vs : List Nat) : TE := fun σ H Q => wi σ H fun J H1 => ∀ D, H1 D = none → ∃ W : Nat → Nat → Hp → Prop, (∃ m, W 0 m (upd H1 D (.lst []))) ∧ ∀ i m H, W i m H →
  (J.stop i H ∧ Q (.ref D) H) ∨ (J.go i H ∧ ∃ Nx : Hp → Prop, (∀ H', Nx H' → ∃ m', m' < m ∧ W (i + 1) m' H') ∧ ∀ x H', J.yld i H x H' → g x (wipe σ vs) H' fun σ2 H2 => wipe σ2 vs = wipe σ vs ∧ tt σ2 H2 fun b H3 =>
    if b = true then te σ2 H3 fun y H4 => ∃ acc, H4 D = some (.lst acc) ∧ acc.length < sizeLine ∧ Nx (upd H4 D (.lst (acc ++ [y]))) else Nx H3)
theorem lc_core {pins : List (Addr × Obj)} {s : Shared} {σ : St} {H : Hp} {Q : VK} {elt tg iter : Expr} {ifs : List Expr} {scope : Scope} {own : List (Str × Nat)} {pos pos' : Pos} {wi : TI} {g : TG} {tt : TT} {te : TE} {use : Option (Value → Sem Unit)} {Qf : Value → Shared → Prop}
    (hc : X.calm = true) (hN : X.N.Nodup) (I : Inv X pins σ H s) (hi : PI X tg iter wi) (ok : BlkOk X.N X.env.scope scope own)
    (hg : ∀ (s : Shared) (H : Hp) (C : Addr) (cl : List (Str × Addr)) (fp : List Addr), PG (X.blk s H scope (compEnvC scope cl C X.env) fp) tg g) (ht : ∀ (s : Shared) (H : Hp) (C : Addr) (cl : List (Str × Addr)) (fp : List Addr), PTs (X.blk s H scope (compEnvC scope cl C X.env) fp) ifs tt)
    (he : ∀ (s : Shared) (H : Hp) (C : Addr) (cl : List (Str × Addr)) (fp : List Addr), PE (X.blk s H scope (compEnvC scope cl C X.env) fp) elt te) (hs : ∀ x, foldedSetIterable iter X.env x = pure x)
    (h : tLc wi g tt te (own.map (·.2)) σ H Q)
    (hRR : ∀ D C s' m H', Inv X pins σ H' s' → Q (.ref D) H' → s'.heap.Ns C m → FpOk X pins H' C → compPost (model X.prog X.w) X.A X.xe use Qf (.ref D) C (.ok .next) s') :
    wpAny (model X.prog X.w) X.A (comprehension (.ListComp elt [⟨tg, iter, ifs, 0⟩] scope pos) scope X.env pos' (newList []) false (eval iter X.env) use) Qf X.xe s := by
  have hfree : ∀ y ∈ scope.names, y.2 = .free → ∃ c, X.env.cells.lookup y.1 = some c := fun y hy e => by
    rcases ok.free y hy e with k | k
    · exact I.ok.has _ (.inl k)
    · exact I.ok.has _ (.inr k)
  refine wpAny_comprehension_free (use := use) rfl hs (closure_ok hfree) ok.kind (fun y hy e => by rw [ok.uniq y hy, e])
    (thn (hi pins s σ H _ I h) fun xv s1 hx => thn hx fun itv s2 h2 => ?_)
  obtain ⟨it, fp, tn, J, H2, e, I2, T, st2, f2, q⟩ := h2
  subst e
  refine wpAny_newObj_type (newEnv_comp ?_) (by show 0 ≤ sizeLine; decide)
  generalize hD : s2.heap.objs.size = D
  have hDn : H2 D = none := I2.hok.fresh (Nat.le_of_eq hD)
  obtain ⟨W, ⟨m0, w0⟩, turn⟩ := q D hDn
  -- the new list
  generalize hs3 : ({ s2 with heap := s2.heap.push { cls := .type "list", data := .seq ([] : List Value).toArray } } : Shared) = s3
  have I3 : Inv X pins σ (upd H2 D (.lst [])) s3 := by
    rw [← hs3]
    refine I2.laid (t' := s2.toks) (fun b o e => Heap.get?_push_of_some _ e) (Nat.le_of_eq hD) ⟨Nat.zero_le _, [], 0, .nil, ?_⟩
    rw [← hD]
    exact Heap.get?_push_size _ rfl
  have h3 : s3.heap = s2.heap.push { cls := .type "list", data := .seq ([] : List Value).toArray } := by rw [← hs3]
  have sz : ∀ b ∈ fp, b < s2.heap.objs.size := fun b hb => by
    obtain ⟨o, e, _⟩ := T.obj _ _ st2 b hb
    exact Heap.lt_size e
  have f3 : ∀ b ∈ fp, FpOk X pins (upd H2 D (.lst [])) b ∧ b < s3.heap.objs.size := fun b hb => by
    have hlt := sz b hb
    refine ⟨⟨?_, (f2 b hb).2⟩, by rw [h3, Heap.size_push]; exact Nat.lt_succ_of_lt hlt⟩
    rw [upd_ne (by rw [← hD]; exact Nat.ne_of_lt hlt)]
    exact (f2 b hb).1
  have st3 : tn 0 s3.heap := T.keep _ _ _ st2 fun b _ o e => by rw [h3]; exact Heap.get?_push_of_some _ e
  have I4 := block_start I3 ok hN f3
  have pg := hg s3 (upd H2 D (.lst [])) s3.heap.objs.size (cellsFrom (s3.heap.objs.size + 1) scope.names (cloFrom X.env.cells scope.names [])) fp
  have pt := ht s3 (upd H2 D (.lst [])) s3.heap.objs.size (cellsFrom (s3.heap.objs.size + 1) scope.names (cloFrom X.env.cells scope.names [])) fp
  have pe := he s3 (upd H2 D (.lst [])) s3.heap.objs.size (cellsFrom (s3.heap.objs.size + 1) scope.names (cloFrom X.env.cells scope.names [])) fp
  show codeAny _ _ (.compStart (.ListComp elt [⟨tg, iter, ifs, 0⟩] scope pos) 0 (.ref it) (.ref D) (compEnvC scope (cellsFrom (s3.heap.objs.size + 1) scope.names (cloFrom X.env.cells scope.names [])) s3.heap.objs.size X.env)) (compPost (model X.prog X.w) X.A X.xe use Qf (.ref D) s3.heap.objs.size) { s3 with heap := pushCells (s3.heap.push { cls := .type "dict", data := .dict #[] }) scope.names }
  have nfp : ∀ b ∈ fp, (upd H2 D (.lst [])) b = none := fun b hb => (f3 b hb).1.1
  generalize hce : compEnvC scope (cellsFrom (s3.heap.objs.size + 1) scope.names (cloFrom X.env.cells scope.names [])) s3.heap.objs.size X.env = ce at I4 pg pt pe ⊢
  have cL : ce.locals = s3.heap.objs.size := by subst hce; rfl
  generalize hH3 : upd H2 D (.lst []) = H3 at I3 I4 pg pt pe w0 nfp f3
  generalize hs4 : ({ s3 with heap := pushCells (s3.heap.push { cls := .type "dict", data := .dict #[] }) scope.names } : Shared) = s4 at I4 ⊢
  have st4 : tn 0 s4.heap := T.keep _ _ _ st3 fun b _ o e => by rw [← hs4]; exact pushCells_keeps _ _ _ _ (Heap.get?_push_of_some _ e)
  have stat : ∀ {σ' : St} {H' : Hp} {s' : Shared}, Inv (X.blk s3 H3 scope ce fp) [] σ' H' s' → (∀ b ∈ fp, H' b = none) → ∀ b ∈ fp, FpOk (X.blk s3 H3 scope ce fp) [] H' b := fun {σ' H' s'} I' hn b hb =>
    ⟨hn b hb, (I'.ok.exf b hb).1, I'.ok.exfs b hb, .inl hb, fun x c e => (I'.ok.exf b hb).2 x c e, fun p hp => absurd (show p ∈ ([] : List (Addr × Obj)) ++ [] from hp) (by simp)⟩
  have loop : codeAny (model X.prog X.w) X.A (.compLoop (.ListComp elt [⟨tg, iter, ifs, 0⟩] scope pos) 0 (.ref it) (.ref D) ce) (compPost (model X.prog X.w) X.A X.xe use Qf (.ref D) s3.heap.objs.size) s4 := by
    refine compLoop_any (fun n s' => ∃ i H', Inv (X.blk s3 H3 scope ce fp) [] (wipe σ (own.map (·.2))) H' s' ∧ tn i s'.heap ∧ (∀ b ∈ fp, H' b = none) ∧ W i n H') ?_ m0 ⟨0, H3, I4, st4, nfp, w0⟩
    rintro n s5 ⟨i, H5, I5, st5, n5, w5⟩
    rcases turn i n H5 w5 with ⟨stop, qq⟩ | ⟨go, Nx, hNx, step⟩
    · have td := T.done (X.blk s3 H3 scope ce fp) rfl rfl rfl hc i [] s5 _ H5 (fun _ _ => False) I5 (stat I5 n5) st5 stop
      refine thnF td fun r s6 ⟨hr, I6⟩ => ?_
      subst hr
      -- back in the def's context
      have I7 : Inv X pins σ H5 s6 := I3.call' (ch := fp) I6.os I6.base I6.hok I6.bare fun b hb => ⟨(f3 b hb).1.2.2.2.1, (f3 b hb).1.2.1, (f3 b hb).1.2.2.2.2.1, (f3 b hb).1.2.2.2.2.2⟩
      have nC : H5 s3.heap.objs.size = none := by
        have z : H5 ce.locals = none := I6.free
        rw [cL] at z
        exact z
      obtain ⟨m, hn, _⟩ := I6.loc
      have hn : s6.heap.Ns ce.locals m := hn
      rw [cL] at hn
      exact hRR D s3.heap.objs.size s6 m H5 I7 qq hn (I3.fpOk (Nat.le_refl _) nC)
    · have ti := T.item (X.blk s3 H3 scope ce fp) rfl rfl rfl hc i [] s5 _ H5 (fun _ _ => False) I5 (stat I5 n5) st5 go
      refine thnF ti fun r s6 ⟨u, hr, h6⟩ => ?_
      subst hr
      refine thnF h6 fun _ s7 ⟨x, H7, I7, r7, y7, st7, n7⟩ => ?_
      have I7' := I7.pinned (stat I7 n7) (T.obj _ _ st7)
      refine thnF (pg _ s7 _ H7 x u _ I7' r7 (step x H7 y7)) fun _ s8 ⟨σ8, H8, I8, hw8, q8⟩ => ?_
      refine thnF (pt _ s8 σ8 H8 _ I8 q8) fun b s9 ⟨H9, I9, q9⟩ => ?_
      -- the turn's end
      have fin : ∀ {s' : Shared} {H' : Hp}, Inv (X.blk s3 H3 scope ce fp) ([] ++ pinsAt fp s7.heap) σ8 H' s' → Nx H' → ∃ m, m < n ∧ ∃ i H', Inv (X.blk s3 H3 scope ce fp) [] (wipe σ (own.map (·.2))) H' s' ∧ tn i s'.heap ∧ (∀ b ∈ fp, H' b = none) ∧ W i m H' := fun {s' H'} I' nx => by
        obtain ⟨m', hm, w'⟩ := hNx H' nx
        have pin' : ∀ b ∈ fp, ∀ o, s7.heap.get? b = some o → s'.heap.get? b = some o ∧ H' b = none := fun b hb o e =>
          let z := I'.pin (b, o) (List.mem_append_right _ (List.mem_append_right _ (mem_pinsAt hb e)))
          ⟨z.1, z.2.1⟩
        have hl : (wipe σ (own.map (·.2))).length = σ8.length := by rw [← hw8, wipe_length]
        refine ⟨m', hm, i + 1, H', (I'.unpinned (pins := [])).weak hl (fun j v e => ?_), T.keep _ _ _ st7 fun b hb o e => (pin' b hb o e).1, fun b hb => ?_, w'⟩
        · rw [← hw8] at e
          exact (wipe_some e).1
        · obtain ⟨o, e, _⟩ := T.obj _ _ st7 b hb
          exact (pin' b hb o e).2
      cases b with
      | false =>
        simp only [Bool.false_eq_true, if_false] at q9 ⊢
        exact fin I9 q9
      | true =>
        simp only [if_true] at q9 ⊢
        refine thnF (pe _ s9 σ8 H9 _ I9 q9) fun z s10 ⟨yv, H10, I10, r10, acc, hD10, hz10, nx⟩ => ?_
        exact app_ok (X := X.blk s3 H3 scope ce fp) I10 hD10 hz10 r10 fun s11 I11 => fin I11 nx
  exact codeAny_compStart_list loop (T.self X.A 0 _ _ _ st4 loop)
/-- as a value -/
theorem pe_lc {elt tg iter : Expr} {ifs : List Expr} {scope : Scope} {own : List (Str × Nat)} {pos : Pos} {wi : TI} {g : TG} {tt : TT} {te : TE} (hc : X.calm = true) (hN : X.N.Nodup) (hi : PI X tg iter wi) (ok : BlkOk X.N X.env.scope scope own)
    (hg : ∀ (s : Shared) (H : Hp) (C : Addr) (cl : List (Str × Addr)) (fp : List Addr), PG (X.blk s H scope (compEnvC scope cl C X.env) fp) tg g) (ht : ∀ (s : Shared) (H : Hp) (C : Addr) (cl : List (Str × Addr)) (fp : List Addr), PTs (X.blk s H scope (compEnvC scope cl C X.env) fp) ifs tt)
    (he : ∀ (s : Shared) (H : Hp) (C : Addr) (cl : List (Str × Addr)) (fp : List Addr), PE (X.blk s H scope (compEnvC scope cl C X.env) fp) elt te) (hs : ∀ x, foldedSetIterable iter X.env x = pure x := by intro _; rfl) :
    PE X (.ListComp elt [⟨tg, iter, ifs, 0⟩] scope pos) (tLc wi g tt te (own.map (·.2))) := by
  intro pins s σ H Q I h
  rw [eval_ListComp]
  refine lc_core hc hN I hi ok hg ht he hs h fun D C s' m H' I' q hn f => ⟨m, hn, fun h'' sb => ?_⟩
  obtain ⟨f0, f1, f2, f3, f4, f5⟩ := f
  exact ⟨.ref D, H', I'.turned (t' := s'.toks) (fun b o hb e => (sb.2 b hb).trans e) f0 f1 f3 f4 f5, rfl, q⟩
/-- name = [..] on one line, the name a local -/
theorem ps_setLc {i : Nat} {y : Str} {py : Pos} {elt tg iter : Expr} {ifs : List Expr} {scope : Scope} {own : List (Str × Nat)} {pos spos : Pos} {wi : TI} {g : TG} {tt : TT} {te : TE} (hc : X.calm = true) (hN : X.N.Nodup) (hy : X.N[i]? = some y) (hyl : X.env.scope.names.lookup y = some .local)
    (hsw : swapsWith (.ListComp elt [⟨tg, iter, ifs, 0⟩] scope pos) (some (.Name y py)) spos.line X.env = pure true) (hi : PI X tg iter wi) (ok : BlkOk X.N X.env.scope scope own)
    (hg : ∀ (s : Shared) (H : Hp) (C : Addr) (cl : List (Str × Addr)) (fp : List Addr), PG (X.blk s H scope (compEnvC scope cl C X.env) fp) tg g) (ht : ∀ (s : Shared) (H : Hp) (C : Addr) (cl : List (Str × Addr)) (fp : List Addr), PTs (X.blk s H scope (compEnvC scope cl C X.env) fp) ifs tt)
    (he : ∀ (s : Shared) (H : Hp) (C : Addr) (cl : List (Str × Addr)) (fp : List Addr), PE (X.blk s H scope (compEnvC scope cl C X.env) fp) elt te) (hs : ∀ x, foldedSetIterable iter X.env x = pure x := by intro _; rfl) :
    PS X (.Assign [.Name y py] (.ListComp elt [⟨tg, iter, ifs, 0⟩] scope pos) spos) (tAsg (tLc wi g tt te (own.map (·.2))) (gName i)) := by
  intro pins s σ H D I h
  rw [exec_Assign_Name_used _ _ _ _ hsw]
  refine wpAny_bind (wpAny_standAt (wpAny_bind ?_))
  show wpAny _ X.A (do let _ ← comprehension (.ListComp elt [⟨tg, iter, ifs, 0⟩] scope pos) scope X.env (firstIterPos [⟨tg, iter, ifs, 0⟩] pos) (newList []) false (eval iter X.env) (some (assign (.Name y py) X.env))) _ _ s
  have h : tLc wi g tt te (own.map (·.2)) σ H (fun x H1 => gName i x σ H1 D.nx) := h
  refine wpAny_bind (thn (lc_core (Qf := fun _ s' => SP X pins D .next s') hc hN I hi ok hg ht he hs h fun L C s' m H' I' q hn f => ?_) fun _ s' hq => wpAny_pure (wpAny_pure hq))
  show wpAny _ _ (assign (.Name y py) X.env (.ref L)) _ _ _
  refine wpAny_assign_Name (store_ok2 (v := V.ref L) I' hN hy (.inl hyl) rfl (fun s2 I2 ⟨a, sb, ha⟩ => ?_) (.inr hyl))
  obtain ⟨f0, f1, f2, f3, f4, f5⟩ := f
  have haC : C ≠ a := by
    rcases ha with z | z
    · rw [z]; exact f1
    · exact fun e => f4 y a z e.symm
  refine ⟨m, hn.sameBut sb haC, fun h3 sb3 => ?_⟩
  exact ⟨_, H', I2.turned (t' := s2.toks) (fun b o hb e => (sb3.2 b hb).trans e) f0 f1 f3 f4 f5, q⟩
theorem sw_true {elt : Expr} {gs : List Comprehension} {scope : Scope} {pos py : Pos} {y : Str} {l : Nat} {env : Env} (hk : env.scope.kind = .function) (hy : env.scope.names.lookup y = some .local) (hl : (py.line == pos.line) = true)
    (ha : (scope.names.any fun (n, k) => n == y && (k == .local || k == .cell)) = false) : swapsWith (.ListComp elt gs scope pos) (some (.Name y py)) l env = pure true := by
  have ky : env.kindOf y = some .local := hy
  have hb : env.blockKind = .function := by unfold Env.blockKind; rw [hk]; rfl
  unfold swapsWith
  simp only [hb, ky, ha, Expr.pos, hl]
  rfl
end

/-! ### the forms one uses -/
/-- over a range: Pv by the turn and the heap (the new list at D within) -/
theorem lc_range {lo : Int} {n : Nat} {g : TG} {tt : TT} {te : TE} {vs : List Nat} {σ : St} {H1 : Hp} {D : Addr} {Qd : Hp → Prop} (Pv : Nat → Hp → Prop) (h0 : Pv 0 (upd H1 D (.lst [])))
    (hs : ∀ i H, i < n → Pv i H → g (.int (lo + i)) (wipe σ vs) H fun σ2 H2 => wipe σ2 vs = wipe σ vs ∧ tt σ2 H2 fun b H3 =>
      if b = true then te σ2 H3 fun y H4 => ∃ acc, H4 D = some (.lst acc) ∧ acc.length < sizeLine ∧ Pv (i + 1) (upd H4 D (.lst (acc ++ [y]))) else Pv (i + 1) H3) (hd : ∀ H, Pv n H → Qd H) :
    ∃ W : Nat → Nat → Hp → Prop, (∃ m, W 0 m (upd H1 D (.lst []))) ∧ ∀ i m H, W i m H →
      ((Itr lo n).stop i H ∧ Qd H) ∨ ((Itr lo n).go i H ∧ ∃ Nx : Hp → Prop, (∀ H', Nx H' → ∃ m', m' < m ∧ W (i + 1) m' H') ∧ ∀ x H', (Itr lo n).yld i H x H' → g x (wipe σ vs) H' fun σ2 H2 => wipe σ2 vs = wipe σ vs ∧ tt σ2 H2 fun b H3 =>
        if b = true then te σ2 H3 fun y H4 => ∃ acc, H4 D = some (.lst acc) ∧ acc.length < sizeLine ∧ Nx (upd H4 D (.lst (acc ++ [y]))) else Nx H3) := by
  refine ⟨fun i m H => m = n - i ∧ i ≤ n ∧ Pv i H, ⟨n, by simp, Nat.zero_le _, h0⟩, ?_⟩
  rintro i m H ⟨rfl, hi, p⟩
  by_cases hlt : i < n
  · refine .inr ⟨hlt, Pv (i + 1), fun H' p' => ⟨n - (i + 1), by omega, rfl, hlt, p'⟩, fun x H' y => ?_⟩
    obtain ⟨e, y⟩ := y
    subst e y
    exact hs i _ hlt p
  · have e : i = n := by omega
    subst e
    exact .inl ⟨Nat.le_refl _, hd H p⟩
def blkC (N : List Str) (sc scope : Scope) (own : List (Str × Nat)) : Bool :=
  (match scope.kind with | .function => true | _ => false) && (scope.names.all fun y => decide (scope.names.lookup y.1 = some y.2)) && (own.all fun p => decide (N[p.2]? = some p.1)) &&
    (scope.names.all fun y => match y.2 with
      | .free => (match sc.names.lookup y.1 with | some .cell => true | some .free => true | _ => false)
      | .local => decide (y.1 ∈ own.map (·.1)) || decide (y.1 ∉ N)
      | .cell => decide (y.1 ∈ own.map (·.1)) || decide (y.1 ∉ N)
      | _ => true)
theorem blkOk_by {N : List Str} {sc scope : Scope} {own : List (Str × Nat)} (h : blkC N sc scope own = true) : BlkOk N sc scope own := by
  unfold blkC at h
  simp only [Bool.and_eq_true, List.all_eq_true, decide_eq_true_eq] at h
  obtain ⟨⟨⟨h1, h2⟩, h3⟩, h4⟩ := h
  refine ⟨?_, h2, h3, fun y hy e => ?_, fun y hy e => ?_⟩
  · split at h1
    · assumption
    · cases h1
  · have q := h4 y hy
    simp only [e] at q
    split at q <;> first | exact .inl (by assumption) | exact .inr (by assumption) | cases q
  · have q := h4 y hy
    rcases e with e | e <;> (simp only [e, Bool.or_eq_true, decide_eq_true_eq] at q; exact q)
end L2

namespace L2
open PySem PySem.Spec PyProof.Rows


section
variable {prog : Program} {w : World} {A : Around} {R : Result → Shared → Prop} {s : Shared} {elt t0 i0 t1 i1 : Expr} {ifs0 ifs1 : List Expr} {scope : Scope} {pos : Pos} {it acc : Value} {env : Env}
end

section
variable {X : Cx}
end
end L2

namespace L2
open PySem PySem.Spec PyProof.Rows

/-! ### lists of pairs as tables -/
section
variable {κ : Type} [DecidableEq κ]



end


/-! ### a tracked dict, its keys ints and texts or tuples of these -/


section
variable {P : Program} {w : World} {H : Hp} {h : Heap} {a : Addr}
end



section
variable {X : Cx} {pins : List (Addr × Obj)} {σ : St} {H : Hp} {s : Shared} {a : Addr} {y v : V} {u r : Value} {o : Option V} {A : Around} {E : Value → Shared → Prop}


end

section
variable {X : Cx} {pins : List (Addr × Obj)} {σ : St} {H : Hp} {s : Shared} {a : Addr} {kvs : List (Key × V)} {k : Key} {u : Value} {A : Around} {E : Value → Shared → Prop}
end


/-! ### readings and rules -/



section
variable {X : Cx} {o i e value : Expr} {pos pos' tpos : Pos} {td ty tv : TE}
end


/-! ### displays -/
section
variable {X : Cx} {pos : Pos}
end




/-! ### methods -/


section
variable {X : Cx} {pins : List (Addr × Obj)} {σ : St} {H : Hp} {s : Shared} {a : Addr} {y d : V} {u r : Value} {o : Option V} {A : Around} {E : Value → Shared → Prop}
end

section
variable {X : Cx} {o e f : Expr} {apos cpos : Pos} {td ty tx : TE}
end

/-! ### dict(d): a copy -/
section
variable {X : Cx} {pins : List (Addr × Obj)} {σ : St} {H : Hp} {s : Shared} {a : Addr} {kvs : List (Key × V)} {A : Around} {E : Value → Shared → Prop}
end


section
variable {X : Cx} {pins : List (Addr × Obj)} {σ : St} {H : Hp} {s : Shared} {a : Addr} {y : V} {u : Value} {A : Around} {E : Value → Shared → Prop}
end
end L2

namespace L2
open PySem PySem.Spec PyProof.Rows


section
variable {prog : Program} {w : World} {A : Around} {E : Value → Shared → Prop}


end

section
variable {X : Cx}
end
end L2

namespace L2
open PySem PySem.Spec PyProof.Rows


section
variable {X : Cx} {pins : List (Addr × Obj)} {σ : St} {H : Hp} {s : Shared} {h' : Heap}
/-- .. and one new object is laid -/
theorem Inv.turnedNew {t' : Nat} {ch : List Addr} {T : Addr} {ob : HO} (I : Inv X pins σ H s) (k : ∀ b o, b ∉ ch → s.heap.get? b = some o → h'.get? b = some o) (hf : ∀ b ∈ ch, FpOk X pins H b) (hT : s.heap.objs.size ≤ T)
    (new : ObjOk X.prog X.w (upd H T ob) h' T ob) : Inv X pins σ (upd H T ob) { s with heap := h', toks := t' } := by
  have hn : H T = none := I.hok.fresh hT
  have nit : ∀ b u, H b = some u → b ∉ ch := fun b u e z => by
    have q := (hf b z).1
    rw [q] at e; cases e
  refine I.step (g' := s.gens) (d' := s.drawn) (ch := ch) (fun b hb => ⟨(hf b hb).2.2.2.1, (hf b hb).2.1, (hf b hb).2.2.2.2.1, (hf b hb).2.2.2.2.2⟩) (fun b o _ _ hc e _ => k b o hc e) (fun b o _ _ hc e _ => ⟨o.slots, k b o hc e⟩)
    (fun b o _ e n => ?_) (fun b o hc e => ⟨o, k b o hc e⟩) (fun b xs e => ?_) (fun b o u e => ?_) (fun b ps e => ⟨#[], ?_⟩) (fun m hm => ?_) (fun b u e => ?_) I.bare
  · rw [upd_ne (Nat.ne_of_lt (Nat.lt_of_lt_of_le (Heap.lt_size e) hT))]; exact n
  · rw [upd_ne (ne_of_none e hn)]; exact e
  · rw [upd_ne (ne_of_none e hn)]; exact e
  · rw [upd_ne (ne_of_none e hn), e]; simp
  · obtain ⟨o, es, ep, ho, r⟩ := hm
    exact ⟨o, es, ep, k _ o (fun z => (hf _ z).2.1 rfl) ho, r⟩
  · by_cases hb : b = T
    · subst hb
      rw [upd_same] at e
      cases e
      exact new
    · rw [upd_ne hb] at e
      refine (I.hok b u e).stay (fun c v hc q => k c v ?_ q) (fun c q => by rw [upd_ne (ne_of_none q hn)]; exact q) fun c xs q => by rw [upd_ne (ne_of_none q hn)]; exact q
      rcases hc with z | z
      · rw [z]; exact nit b u e
      · exact nit c _ z

/-! ### locking a thing while a statement runs -/
end
section
variable {X : Cx}

/-! ### one iterator just laid -/
end

/-! ### range with a step -/
section
variable {X : Cx} {tg : Expr}
end

/-! ### reversed(list) -/
section
variable {X : Cx} {tg : Expr}
end

/-! ### a str -/

/-! ### a dict's keys: any dict's entries -/
section
variable {prog : Program} {w : World} {A : Around} {E : Value → Shared → Prop} {s : Shared}
end

/-! ### a locked dict -/
section
variable {X : Cx} {pins : List (Addr × Obj)} {σ : St} {H : Hp} {s : Shared} {d : Addr} {o : Obj}
end

section
variable {P : Program} {w : World} {K : PySem.W.Frag} {tg : Expr} {d : Addr} {o : Obj} {es : Array DictEntry} {ep : Nat}
end

/-! ### for k in d, d.keys(), d.values(), d.items() -/
section
variable {X : Cx} {tg e : Expr} {td : TE} {apos cpos : Pos}
end

/-! ### enumerate(list) -/
/-- the list at a as it stands at each turn, each item in a new pair -/
def Ite (K : PySem.W.Frag) (a : Addr) : It :=
  ⟨fun i H => ∃ (xs : List V) (x : V), SqL K H a xs ∧ xs[i]? = some x, fun i H v H' => ∃ T x, v = .ref T ∧ H T = none ∧ H' = upd H T (.tup [.int (i : Nat), x]) ∧ ∀ xs, SqL K H a xs → xs[i]? = some x, fun i H => ∃ xs : List V, SqL K H a xs ∧ xs.length ≤ i⟩
theorem turn_enum {P : Program} {w : World} {K : PySem.W.Frag} {elts : List Expr} {kk : Nat} {tpos : Pos} (a e it : Addr) :
    Turn P w K (.Tuple elts kk tpos) (Ite K a) [e, it] e (fun i h => (∃ old, IsEnum h e it ((i : Nat) : Int) old) ∧ h.IsListIter it a i ∧ e ≠ it) where
  mem := by simp
  obj := fun i h st b hb => by
    obtain ⟨⟨old, he⟩, ⟨o, ho, hc, hd⟩, _⟩ := st
    have e' : b = e ∨ b = it := by simpa using hb
    rcases e' with z | z
    · rw [z]; exact ⟨_, he, fun v q => nomatch q⟩
    · rw [z]; exact ⟨o, ho, fun v q => by rw [hd] at q; cases q⟩
  keep := fun i h h' st k => let ⟨⟨old, he⟩, hi, hne⟩ := st; ⟨⟨old, k e (by simp) _ he⟩, hi.at fun o q => k it (by simp) o q, hne⟩
  item := by
    intro X hP hw hK hc i pins s σ H E I hf st hg
    subst hP hw hK
    obtain ⟨⟨old, he⟩, hit, hne⟩ := st
    obtain ⟨xs, x, hq, hx⟩ := hg
    obtain ⟨its, rv, p, hz⟩ := I.list hq
    obtain ⟨u, hu, ru⟩ := rv.get hx
    have hel : e < s.heap.objs.size := Heap.lt_size he
    have hil : it < s.heap.objs.size := by obtain ⟨_, q, _⟩ := hit; exact Heap.lt_size q
    refine wpAny_pyNext_enum_item he hit p.isList (x := u) (by simpa using hu) hne fun h' ho hit' hT hsz hk => ?_
    refine ⟨_, rfl, wpAny_letOwnedTupleGo_enum (s := { s with heap := h', toks := s.toks + 1 }) ho fun h'' he' sb => ?_⟩
    have hT2 : h''.get? s.heap.objs.size = some { cls := .type "tuple", data := .seq #[.int i s.toks, u] } := (sb.2 _ (Nat.ne_of_gt hel)).trans hT
    have new : ObjOk X.prog X.w (upd H s.heap.objs.size (.tup [.int (i : Nat), x])) h'' s.heap.objs.size (.tup [.int (i : Nat), x]) :=
      ⟨by show 2 ≤ sizeLine; decide, [.int i s.toks, u], .cons ⟨_, rfl⟩ (.cons ru .nil), ⟨_, hT2, rfl, _, rfl⟩⟩
    have I1 : Inv X pins σ (upd H s.heap.objs.size (.tup [.int (i : Nat), x])) { s with heap := h'', toks := s.toks + 1 } :=
      I.turnedNew (ch := [e, it]) (fun b ob hb q => (sb.2 b (fun z => hb (by simp [z]))).trans (hk b ob (fun z => hb (by simp [z])) (fun z => hb (by simp [z])) q)) hf (Nat.le_refl _) new
    refine ⟨.ref s.heap.objs.size, _, I1, rfl, ⟨_, x, rfl, I.hok.fresh (Nat.le_refl _), rfl, fun ys hy => by rw [I.list_inj hy hq]; exact hx⟩, ⟨⟨u, ?_⟩, hit'.at fun o q => (sb.2 it (Ne.symm hne)).trans q, hne⟩, fun b hb => ?_⟩
    · have e1 : ((i + 1 : Nat) : Int) = (i : Int) + 1 := by omega
      rw [e1]; exact he'
    · have hb' : b < s.heap.objs.size := by
        have e' : b = e ∨ b = it := by simpa using hb
        rcases e' with z | z
        · rw [z]; exact hel
        · rw [z]; exact hil
      rw [upd_ne (Nat.ne_of_lt hb')]
      exact (hf b hb).1
  done := by
    intro X hP hw hK hc i pins s σ H E I hf st hg
    subst hP hw hK
    obtain ⟨⟨old, he⟩, hit, hne⟩ := st
    obtain ⟨xs, hq, hx⟩ := hg
    obtain ⟨its, rv, p, hz⟩ := I.list hq
    obtain ⟨f0, f1, f2, f3, f4, f5⟩ := hf it (by simp)
    have hl := rv.length
    exact wpAny_pyNext_enum_end (I.ok.hd hc) he hit p.isList (by simp; omega) fun h' eb => ⟨rfl, I.turned (t' := s.toks) (fun b o hb q => eb b o hb q) f0 f1 f3 f4 f5⟩
  self := fun A i s Q E st h => let ⟨⟨_, he⟩, _⟩ := st; wpAny_pyIter_enum he h
def iEnum (K : PySem.W.Frag) (ta : TA) : TI := fun σ H R => ta σ H fun vs H1 => ∃ a xs, vs = [.ref a] ∧ SqL K H1 a xs ∧ R (Ite K a) H1
theorem pi_enum {X : Cx} {e : Expr} {ta : TA} {p pos tpos : Pos} {elts : List Expr} {kk : Nat} (hg : Gl X "enumerate") (hm : X.mg "enumerate" = none) (ha : PA X [e] ta) (hs : starEach [e] X.env = [(false, eval e X.env)] := by rfl) :
    PI X (.Tuple elts kk tpos) (.Call (.Name "enumerate" p) [e] [] pos) (iEnum X.K ta) := by
  intro pins s σ H R I h
  refine Call_ (ld_blt I hg hm boot_enumerate (PyProof.Rows.callWith_type1 (thn (ha pos pins s σ H _ I h) fun us s1 ⟨vs, H1, I1, r1, q1⟩ => ?_) hs rfl))
  obtain ⟨a, xs, ex, hq, q⟩ := q1
  subst ex
  cases r1 with
  | cons r rr =>
    cases rr
    cases r
    obtain ⟨its, rv, p', hz⟩ := I1.list hq
    refine call_enumerate_list p'.isList fun h' he hit hsz hk => wpAny_pyIter_enum he ?_
    have I2 : Inv X pins σ H1 { s1 with heap := h' } := I1.kept (t' := s1.toks) hk
    refine ⟨s1.heap.objs.size + 1, [s1.heap.objs.size + 1, s1.heap.objs.size], _, _, H1, rfl, I2, turn_enum a (s1.heap.objs.size + 1) s1.heap.objs.size, ⟨⟨.none, he⟩, hit, Nat.succ_ne_self _⟩, fun b hb => ?_, q⟩
    have e' : b = s1.heap.objs.size + 1 ∨ b = s1.heap.objs.size := by simpa using hb
    have hle : s1.heap.objs.size ≤ b := by
      rcases e' with z | z
      · rw [z]; exact Nat.le_add_right _ _
      · rw [z]; exact Nat.le_refl _
    exact I1.fpOk hle (I1.hok.fresh hle)
/-! ### zip(list, list) -/
end L2

section 
namespace Bits
open PySem PyProof.Rows








end Bits
end 

section 
namespace TL
open PySem PySem.Builtin PySem.Builtin.Str PySem.StrLaws


/-! ### the list functions -/




/-! ### the model's split and partition are these -/




/-! ### computing spl and par -/


/-! ### digits -/

/-! ### words: x.split() -/
end TL
end 

namespace L2
open PySem PySem.Spec PyProof.Rows




section
variable {X : Cx} {pins : List (Addr × Obj)} {σ : St} {H : Hp} {s : Shared} {Q : VK}
end

section
variable {X : Cx}





/-! ### of a text alone -/

/-! ### of a text and a text -/

end

section
variable {X : Cx} {o e : Expr} {to te : TE}

end
end L2

namespace L2
open PySem PySem.Spec PyProof.Rows

section
variable {X : Cx}
end

/-! ### slices of a text -/


end L2

namespace Att
open PySem PySem.W PySem.Calls PyProof.Rows

/-! ### the script -/



/-! ### the attachment: holds_open's last premise (the goal 'hc' behind k_head) from a wpAny of the law's body -/



/-! ### rules over ANY heap (no ledger) from facts about the written part K: the library's own take a ledger (News) for what they write -/
section
variable {prog : Program} {w : World} {A : Around} {E : Value → Shared → Prop} {s : Shared} {K : Frag}





/-! the whole heap as the ledger: makes every rule that writes through a ledger a rule over any heap -/

end
end Att

namespace L2
open PySem PySem.Spec PyProof.Rows



end L2

namespace L2
open PySem PySem.Spec PyProof.Rows


end L2

/- THE LAST THEOREM (shape; LID, My.* are yours):
   My.Adr: a structure of the addresses that your layer names (classes, functions); My.Txt K t: a structure (Prop) of the equations over K;
   My.txt_mk : {K} {implicit addresses ..} (e1 : nsIn K mainGlobals "law" = some (some (.ref f))) (e2 : K.lookup f = some ⟨oc, od, .func (fnOf "law" "law" params body scope dV kV doc pm an cdv ct), sl⟩) (e3 : codeIn K cdv "law" = true) .. : ∃ t, My.Txt K t

set_option maxRecDepth 100000 in
set_option maxHeartbeats 0 in
theorem PySem.Challenge.cw_LID_holds : PySem.Challenge.rw_LID.Holds := by
  w_on; o_law; k_head; (case hw => w_witness2)
  k_fill
  refine L2.walk_of (l := PySem.Challenge.rw_LID) (n := 63) (k := 40) (x := "script") (CX := fun w => ..) (sp := fun _ => My.sp_law) rfl (by decide) rfl ⟨rfl, by decide, by decide⟩ (fun w h Y => PySem.W.kIn_of Y) ?F ?S ?C
  case F =>
    intro w mg fa h KX G hmg
    have T : ∃ t, My.Txt (L2.KOf KX) t := by
      dsimp only [L2.KOf]                          -- K must stand as «<heap const> w.params» for k_is
      refine' My.txt_mk ?e1 ?e2 ?e3 ..
      (case e1 => PySem.W.k_is)                    -- in the order: a name -> its address -> its object -> its parts
      (case e2 => PySem.W.k_is)
      ..
    obtain ⟨t, T⟩ := T
    have e0 := hmg.symm.trans (PySem.W.mg_of KX G T.law)
    cases e0                                       -- fa is the law's own address
    exact ⟨_, fun s u => .of_eq rfl, fun base kb nb => My.law_fn T kb nb⟩     -- if «.of_eq rfl» comes too early: refine' ⟨_, ?b, fun base kb nb => My.law_fn T kb nb⟩; exact fun s u => .of_eq rfl
  case S => exact fun w H a ns hl hO hS => ..
  case C => exact ..
(the tactic k_is has no namespace: write k_is) -/

/-! SHORT WORDS over the layer: a def of the text, its body, what a loop and a test want. -/
namespace L2
open PySem PySem.Spec PyProof.Rows

/-! ### the text by places -/
/-- the j-th statement of a class's body -/
def inClass (s : Stmt) (j : Nat) : Stmt := match s with
  | .ClassDef _ _ _ body _ _ _ _ _ _ _ => body.getD j (.Pass ⟨0, 0, 0, 0⟩)
  | _ => .Pass ⟨0, 0, 0, 0⟩
def defArgs (s : Stmt) : Arguments := match s with
  | .FunctionDef _ a _ _ _ _ _ _ _ _ => a
  | _ => { posonlyargs := [], args := [], vararg := none, kwonlyargs := [], kw_defaults := [], kwarg := none, defaults := [] }
def defBody (s : Stmt) : List Stmt := match s with
  | .FunctionDef _ _ b _ _ _ _ _ _ _ => b
  | _ => []
def defScope (s : Stmt) : Scope := match s with
  | .FunctionDef _ _ _ _ _ _ sc _ _ _ => sc
  | _ => { kind := .function, names := [], isGenerator := false, isCoroutine := false }

/-! ### no exception leaves a def -/
abbrev CX0 : CXT := fun _ _ _ _ _ _ => False
abbrev E0 : XK := fun _ _ _ => False
theorem pass0 {X : Cx} : Passes CX0 X E0 := fun _ _ _ _ _ _ _ h => h.elim

/-! ### a def (or method) of the text as it stands behind the top -/
structure Fun (K : PySem.W.Frag) (x qual : Str) (st : Stmt) (f : Addr) (fd : FuncData) : Prop where
  ex : ∃ (oc : Value) (od : Option Addr) (kV doc pm : Value) (an : Option Addr) (cdv ct : Value) (osl : Array (Option Value)),
    fd = PySem.W.fnOf x qual (defArgs st) (defBody st) (defScope st) .none kV doc pm an cdv ct ∧ K.lookup f = some ⟨oc, od, .func fd, osl⟩ ∧ PySem.W.codeIn K cdv qual = true
  kp : PySem.W.keepIn K (.ref f) = true
section
variable {P : Program} {w : World} {K : PySem.W.Frag} {mg : Str → Option Value} {base : Heap}
/-- THE RULE for a def: its body as a term of rules, and the reading of that term -/
theorem Fun.ok {x qual : Str} {st : Stmt} {f : Addr} {fd : FuncData} {N ps : List Str} {k : Nat} {sp : Sp} (F : Fun K x qual st f fd) (S : FnScope N ps (defScope st)) (len : ∀ vs H Q E, sp vs H Q E → vs.length = ps.length)
    (hbody : ∀ (cdv : Value) (A : Around) (outer : List Env) (s : Shared) (H : Hp) (vs : List V) (Q : VK) (E : XK), Room k (A.deeper (envOfC qual (defScope st) s.heap.objs.size f cdv)) → sp vs H Q E →
      ∃ t, PSs (cxOf CX0 P w K mg base N qual (defScope st) f cdv A outer s H E).nox (defBody st) t ∧ t { nx := fun _ H' => Q .non H', rt := Q } (start N vs) H) : FnOk P w K mg base CX0 (k + 1) f fd ps sp := by
  obtain ⟨oc, od, kV, doc, pm, an, cdv, ct, osl, rfl, lk, hcd⟩ := F.ex
  refine fn_of lk hcd S len fun A outer s H vs Q E hr hsp => ?_
  obtain ⟨t, h, q⟩ := hbody cdv A outer s H vs Q E hr hsp
  exact ⟨t, h.nox, q⟩
/-- how its arguments bind (no defaults): h is «fun _ _ _ _ _ _ us hl => match us, hl with | [_, _], _ => rfl», one _ a parameter -/
theorem Fun.binds {x qual : Str} {st : Stmt} {f : Addr} {fd : FuncData} {ps : List Str} (F : Fun K x qual st f fd)
    (h : ∀ (kV doc pm : Value) (an : Option Addr) (cdv ct : Value) (us : List Value), us.length = ps.length → bindArgs (PySem.W.fnOf x qual (defArgs st) (defBody st) (defScope st) .none kV doc pm an cdv ct) ⟨us, []⟩ = pure (ps.zip us)) : Binds K fd ps [] := by
  obtain ⟨oc, od, kV, doc, pm, an, cdv, ct, osl, rfl, lk, hcd⟩ := F.ex
  exact .all (h kV doc pm an cdv ct)
theorem fun_mk {x qual : Str} {st : Stmt} {f : Addr} {oc : Value} {od an : Option Addr} {osl : Array (Option Value)} {kV doc pm cdv ct : Value} (l : K.lookup f = some ⟨oc, od, .func (PySem.W.fnOf x qual (defArgs st) (defBody st) (defScope st) .none kV doc pm an cdv ct), osl⟩)
    (c : PySem.W.codeIn K cdv qual = true) (k : PySem.W.keepIn K (.ref f) = true) : Fun K x qual st f (PySem.W.fnOf x qual (defArgs st) (defBody st) (defScope st) .none kV doc pm an cdv ct) := ⟨⟨oc, od, kV, doc, pm, an, cdv, ct, osl, rfl, l, c⟩, k⟩
end

/-! ### expressions in short: the name that stands in the i-th slot -/
section
variable {X : Cx}
theorem pv (i : Nat) {x : Str} {pos : Pos} (hN : X.N[i]? = some x := by rfl) (hv : Vis X.env.scope x := by first | exact Or.inl rfl | exact Or.inr (Or.inl rfl) | exact Or.inr (Or.inr rfl)) (hd : (x == ("__debug__" : Str)) = false := by decide)
    (hcd : (x == ("__classdict__" : Str)) = false := by decide) : PE X (.Name x pos) (tVar i) := pe_var hN hv hd hcd
end

/-! ### tests -/
theorem iteF {A B : Prop} (h : B) : if false = true then A else B := by
  rw [if_neg Bool.false_ne_true]
  exact h
theorem iteT {A B : Prop} (h : A) : if true = true then A else B := by
  rw [if_pos rfl]
  exact h
theorem ite2 {c A B : Prop} [Decidable c] (h1 : c → A) (h2 : ¬ c → B) : if c then A else B := by
  by_cases h : c
  · rw [if_pos h]
    exact h1 h
  · rw [if_neg h]
    exact h2 h

/-! ### heaps -/
/-- all that was tracked is as it was -/
def Same (H H' : Hp) : Prop := ∀ b o, H b = some o → H' b = some o
theorem Same.trans {H H1 H2 : Hp} (a : Same H H1) (b : Same H1 H2) : Same H H2 := fun c o h => b c o (a c o h)
theorem Same.free {H H' : Hp} (e : Same H H') {l : Addr} (h : H' l = Option.none) : H l = Option.none := by
  cases q : H l with
  | none => rfl
  | some o =>
    rw [e l o q] at h
    cases h
theorem Same.seq {K : PySem.W.Frag} {H H' : Hp} {a : Addr} {xs : List V} (e : Same H H') (h : SqL K H a xs) : SqL K H' a xs := by
  rcases h with (h | ⟨o, h⟩) | h
  · exact .inl (.inl (e _ _ h))
  · exact .inl (.inr ⟨o, e _ _ h⟩)
  · exact .inr h

/-! ### a dict's pairs: keys that differ -/
section
variable {κ : Type} [DecidableEq κ]
end
/-! ### lists -/
theorem at_of {xs : List V} {z : Int} {j : Nat} {v : V} (e : z = (j : Int)) (h : xs[j]? = some v) : atI xs z = some v := by
  rw [e]
  exact atI_nat h
/-- a new instance and its __init__ leave all that was tracked as it was -/
theorem Same.made {H H1 : Hp} {x dx C : Addr} (nx : H x = Option.none) (nd : H dx = Option.none) (k : ∀ b o, (upd (upd H dx (.own x)) x (.ins C dx [])) b = some o → b ≠ x → H1 b = some o) : Same H H1 := fun b o e =>
  k b o (by rw [upd_ne (ne_of_none e nx), upd_ne (ne_of_none e nd)]; exact e) (ne_of_none e nx)
end L2

set_option maxHeartbeats 2000000
namespace L2
open PySem PySem.Spec PyProof.Rows
open PySem.W (WData Codec OpenSpec Well WellAll ReadsW ReadsAllW)
/-! ### an answer as data -/
mutual
/-- x stands for the datum d, lists and tuples all the way -/
inductive Dw (K : PySem.W.Frag) (H : Hp) : V → WData → Prop
  | non : Dw K H .non .none
  | bl (b : Bool) : Dw K H (.bl b) (.bool b)
  | int (i : Int) : Dw K H (.int i) (.int i)
  | str (x : Str) : Dw K H (.str x) (.str x)
  | byt (b : Array UInt8) : Dw K H (.byt b) (.bytes b.toList)
  | lst {a : Addr} {xs : List V} {ds : List WData} : SqL K H a xs → DwAll K H xs ds → Dw K H (.ref a) (.list ds)
  | tup {a : Addr} {xs : List V} {ds : List WData} : SqT K H a xs → DwAll K H xs ds → Dw K H (.ref a) (.tuple ds)
inductive DwAll (K : PySem.W.Frag) (H : Hp) : List V → List WData → Prop
  | nil : DwAll K H [] []
  | cons {v : V} {vs : List V} {d : WData} {ds : List WData} : Dw K H v d → DwAll K H vs ds → DwAll K H (v :: vs) (d :: ds)
end
theorem dw_ints {K : PySem.W.Frag} {H : Hp} : ∀ ns : List Int, DwAll K H (ns.map V.int) (ns.map WData.int)
  | [] => .nil
  | n :: r => .cons (.int n) (dw_ints r)
theorem ints_dw {K : PySem.W.Frag} {H : Hp} : ∀ (ns : List Int) (xs : List V), DwAll K H xs (ns.map WData.int) → xs = ns.map V.int
  | [], xs, h => by
    cases h
    rfl
  | n :: r, xs, h => by
    cases h with
    | cons h1 h2 =>
      cases h1
      rw [ints_dw r _ h2] <;> rfl
section
variable {P : Program} {w : World} {K : PySem.W.Frag} {H : Hp} {h : Heap} {R : PySem.W.WRecords} {cl : Str → Option Addr}
theorem sqL_at {a : Addr} {xs : List V} (hok : HOk P w H h) (KX : K.In h) (q : SqL K H a xs) : ∃ (its : List Value) (o : Obj) (n : Nat), Vals xs its ∧ h.get? a = some o ∧ o.cls = .type "list" ∧ o.data = .seq its.toArray n := by
  rcases q with q | ⟨o, its, n, e, hc, _, hd, _, hv⟩
  · obtain ⟨_, its, n, hv, e⟩ := (show ObjOk P w H h a (.lst xs) from q.ok hok)
    exact ⟨its, _, n, hv, e, rfl, rfl⟩
  · exact ⟨its.toList, o, n, hv, KX _ _ e, hc, by simp [hd]⟩
theorem sqT_at {a : Addr} {xs : List V} (hok : HOk P w H h) (KX : K.In h) (q : SqT K H a xs) : ∃ (its : List Value) (o : Obj) (n : Nat), Vals xs its ∧ h.get? a = some o ∧ o.cls = .type "tuple" ∧ o.data = .seq its.toArray n := by
  rcases q with q | ⟨o, its, n, e, hc, hd, _, hv⟩
  · obtain ⟨_, its, hv, o, e, hc, n, hd⟩ := (show ObjOk P w H h a (.tup xs) from q.ok hok)
    exact ⟨its, o, n, hv, e, hc, hd⟩
  · exact ⟨its.toList, o, n, hv, KX _ _ e, hc, by simp [hd]⟩
mutual
theorem Dw.reads (hok : HOk P w H h) (KX : K.In h) : ∀ (d : WData) (v : V) (u : Value), Dw K H v d → RelV v u → ∃ as, ReadsW R cl h u d as
  | .none, _, _, x, r => by
    cases x
    cases r
    exact ⟨_, ReadsW.none⟩
  | .bool b, _, _, x, r => by
    cases x
    cases r
    exact ⟨_, ReadsW.bool b⟩
  | .int i, _, _, x, r => by
    cases x
    obtain ⟨t, rfl⟩ := r
    exact ⟨_, ReadsW.int i t⟩
  | .str s, _, _, x, r => by
    cases x
    obtain ⟨t, rfl⟩ := r
    exact ⟨_, ReadsW.str s t⟩
  | .bytes b, _, _, x, r => by
    cases x
    obtain ⟨t, rfl⟩ := r
    exact ⟨_, ReadsW.bytes _ t⟩
  | .list ds, _, _, x, r => by
    cases x with
    | lst hs ha =>
      cases r
      obtain ⟨its, o, n, rv, ho, hc, hd⟩ := sqL_at hok KX hs
      obtain ⟨as, hr⟩ := Dw.readsAll hok KX ds _ its ha rv
      exact ⟨_, ReadsW.list ho hc hd hr⟩
  | .tuple ds, _, _, x, r => by
    cases x with
    | tup hs ha =>
      cases r
      obtain ⟨its, o, n, rv, ho, hc, hd⟩ := sqT_at hok KX hs
      obtain ⟨as, hr⟩ := Dw.readsAll hok KX ds _ its ha rv
      exact ⟨_, ReadsW.tuple ho hc hd hr⟩
  | .float _, _, _, x, _ => by cases x
  | .dict _, _, _, x, _ => by cases x
  | .bytearray _, _, _, x, _ => by cases x
  | .set _, _, _, x, _ => by cases x
  | .frozenset _, _, _, x, _ => by cases x
  | .obj _ _, _, _, x, _ => by cases x
theorem Dw.readsAll (hok : HOk P w H h) (KX : K.In h) : ∀ (ds : List WData) (vs : List V) (us : List Value), DwAll K H vs ds → Vals vs us → ∃ as, ReadsAllW R cl h us ds as
  | [], _, _, x, r => by
    cases x
    cases r
    exact ⟨_, ReadsAllW.nil⟩
  | d :: ds, _, _, x, r => by
    cases x with
    | cons h1 h2 =>
      cases r with
      | cons r1 r2 =>
        obtain ⟨as, q1⟩ := Dw.reads hok KX d _ _ h1 r1
        obtain ⟨bs, q2⟩ := Dw.readsAll hok KX ds _ _ h2 r2
        exact ⟨_, ReadsAllW.cons q1 q2⟩
end
end
/-! ### the arguments -/
mutual
/-- data that a codec tells -/
def plW : WData → Bool
  | .none => true
  | .bool _ => true
  | .int _ => true
  | .str _ => true
  | .bytes _ => true
  | .list xs => plWs xs
  | .tuple xs => plWs xs
  | _ => false
def plWs : List WData → Bool
  | [] => true
  | x :: r => plW x && plWs r
end
theorem plWs_map {α : Type} {f : α → WData} (h : ∀ a, plW (f a) = true) : ∀ l : List α, plWs (l.map f) = true
  | [] => rfl
  | x :: r => by
    show (plW (f x) && plWs (r.map f)) = true
    rw [h x, plWs_map h r] <;> rfl
theorem pl_enc : ∀ (c : Codec) (a : c.denote), plW (c.enc a) = true
  | .unit, _ => rfl
  | .bool, _ => rfl
  | .int _ _, _ => rfl
  | .nat _ _, _ => rfl
  | .u8, _ => rfl
  | .bytes _ _, _ => rfl
  | .text _ _ _ _, _ => rfl
  | .list _ _ c, a => plWs_map (fun x => pl_enc c x) a
  | .pair c d, a => by
    show (plW (c.enc a.1) && (plW (d.enc a.2) && true)) = true
    rw [pl_enc c a.1, pl_enc d a.2] <;> rfl
  | .triple c d e, a => by
    show (plW (c.enc a.1) && (plW (d.enc a.2.1) && (plW (e.enc a.2.2) && true))) = true
    rw [pl_enc c a.1, pl_enc d a.2.1, pl_enc e a.2.2] <;> rfl
  | .option c, none => rfl
  | .option c, some x => pl_enc c x
theorem pl_encAll : ∀ (cs : List Codec) (a : Codec.denoteAll cs), plWs (Codec.encAll cs a) = true
  | [], _ => rfl
  | c :: cs, a => by
    show (plW (c.enc a.1) && plWs (Codec.encAll cs a.2)) = true
    rw [pl_enc c a.1, pl_encAll cs a.2] <;> rfl
theorem weight_mem : ∀ {xs : List WData} {d : WData}, d ∈ xs → d.weight ≤ WData.weightAll xs
  | [], d, h => absurd h (by simp)
  | x :: r, d, h => by
    show d.weight ≤ x.weight + 1 + WData.weightAll r
    rcases List.mem_cons.mp h with e | m
    · rw [e]
      omega
    · have z := weight_mem m
      omega
def toV : Value → V
  | .none => .non
  | .bool b => .bl b
  | .int i _ => .int i
  | .str x _ => .str x
  | .bytes b _ => .byt b
  | .ref a => .ref a
  | _ => .non
/-- a value of the arguments, its objects among A -/
def OkU (A : List Addr) : Value → Prop
  | .none => True
  | .bool _ => True
  | .int _ _ => True
  | .str _ _ => True
  | .bytes _ _ => True
  | .ref a => a ∈ A
  | _ => False
theorem OkU.mono {A B : List Addr} (h : ∀ a ∈ A, a ∈ B) : ∀ {u : Value}, OkU A u → OkU B u := fun {u} x => by
  cases u with
  | ref a => exact h a x
  | none => trivial
  | bool b => trivial
  | int i t => trivial
  | str s t => trivial
  | bytes b t => trivial
  | _ => exact False.elim x
theorem relV_toV {A : List Addr} {u : Value} (x : OkU A u) : RelV (toV u) u := by
  cases u with
  | ref a => rfl
  | none => rfl
  | bool b => rfl
  | int i t => exact ⟨t, rfl⟩
  | str s t => exact ⟨t, rfl⟩
  | bytes b t => exact ⟨t, rfl⟩
  | _ => exact False.elim x
theorem vals_toV {A : List Addr} : ∀ {vs : List Value}, (∀ u ∈ vs, OkU A u) → Vals (vs.map toV) vs
  | [], _ => .nil
  | u :: r, h => .cons (relV_toV (h u (List.mem_cons_self ..))) (vals_toV fun x hx => h x (List.mem_cons_of_mem _ hx))
/-- an object of the arguments -/
def ArgOb (h : Heap) (A : List Addr) (a : Addr) : Prop := ∃ vs : List Value, vs.length ≤ sizeLine ∧ (∀ u ∈ vs, OkU A u) ∧
  (h.get? a = some { cls := .type "list", data := .seq vs.toArray } ∨ h.get? a = some { cls := .type "tuple", data := .seq vs.toArray })
theorem ArgOb.mono {h : Heap} {A B : List Addr} {a : Addr} (k : ∀ a ∈ A, a ∈ B) (x : ArgOb h A a) : ArgOb h B a := by
  obtain ⟨vs, h1, h2, h3⟩ := x
  exact ⟨vs, h1, fun u hu => (h2 u hu).mono k, h3⟩
theorem wellAll_len {P : Params} {h : Heap} : ∀ {vs : List Value} {ds : List WData}, WellAll P h vs ds → vs.length = ds.length
  | _, _, .nil => rfl
  | _, _, .cons _ b => by
    show _ + 1 = _ + 1
    rw [wellAll_len b]
theorem well_list {P : Params} {h : Heap} {v : Value} {ds : List WData} (x : Well P h v (.list ds)) : ∃ (a : Addr) (vs : List Value), v = .ref a ∧ h.get? a = some { cls := .type "list", data := .seq vs.toArray } ∧ WellAll P h vs ds := by
  cases x with
  | list ho hall => exact ⟨_, _, rfl, ho, hall⟩
theorem well_tuple {P : Params} {h : Heap} {v : Value} {ds : List WData} (x : Well P h v (.tuple ds)) : ∃ (a : Addr) (vs : List Value), v = .ref a ∧ h.get? a = some { cls := .type "tuple", data := .seq vs.toArray } ∧ WellAll P h vs ds := by
  cases x with
  | tuple ho hall => exact ⟨_, _, rfl, ho, hall⟩
theorem well_cons {P : Params} {h : Heap} {us : List Value} {d : WData} {ds : List WData} (x : WellAll P h us (d :: ds)) : ∃ (v : Value) (vs : List Value), us = v :: vs ∧ Well P h v d ∧ WellAll P h vs ds := by
  cases x with
  | cons a b => exact ⟨_, _, rfl, a, b⟩
theorem line_of {n : Nat} (h : n ≤ 1048576) : n ≤ sizeLine := Nat.le_trans h (by decide)
section
variable {P : Params} {h : Heap}
mutual
theorem area_one : ∀ (d : WData) (v : Value), Well P h v d → plW d = true → d.weight ≤ 1048576 → ∃ A : List Addr, OkU A v ∧ ∀ a ∈ A, ArgOb h A a
  | .none, _, x, _, _ => by
    cases x
    exact ⟨[], trivial, fun a m => absurd m (by simp)⟩
  | .bool b, _, x, _, _ => by
    cases x
    exact ⟨[], trivial, fun a m => absurd m (by simp)⟩
  | .int i, _, x, _, _ => by
    cases x
    exact ⟨[], trivial, fun a m => absurd m (by simp)⟩
  | .str s, _, x, _, _ => by
    cases x
    exact ⟨[], trivial, fun a m => absurd m (by simp)⟩
  | .bytes b, _, x, _, _ => by
    cases x
    exact ⟨[], trivial, fun a m => absurd m (by simp)⟩
  | .list ds, _, x, p, z => by
    obtain ⟨a, vs, rfl, ho, hall⟩ := well_list x
    have z2 : WData.weightAll ds ≤ 1048576 := z
    obtain ⟨A, h1, h2⟩ := area_all ds _ hall p fun d hd => Nat.le_trans (weight_mem hd) z2
    have k : ∀ b ∈ A, b ∈ a :: A := fun b hb => List.mem_cons_of_mem _ hb
    refine ⟨a :: A, List.mem_cons_self .., fun b hb => ?_⟩
    rcases List.mem_cons.mp hb with e | m
    · rw [e]
      exact ⟨vs, line_of (by rw [wellAll_len hall]; exact Nat.le_trans (PySem.W.length_le_weightAllW ds) z2), fun u hu => (h1 u hu).mono k, .inl ho⟩
    · exact (h2 b m).mono k
  | .tuple ds, _, x, p, z => by
    obtain ⟨a, vs, rfl, ho, hall⟩ := well_tuple x
    have z2 : WData.weightAll ds ≤ 1048576 := z
    obtain ⟨A, h1, h2⟩ := area_all ds _ hall p fun d hd => Nat.le_trans (weight_mem hd) z2
    have k : ∀ b ∈ A, b ∈ a :: A := fun b hb => List.mem_cons_of_mem _ hb
    refine ⟨a :: A, List.mem_cons_self .., fun b hb => ?_⟩
    rcases List.mem_cons.mp hb with e | m
    · rw [e]
      exact ⟨vs, line_of (by rw [wellAll_len hall]; exact Nat.le_trans (PySem.W.length_le_weightAllW ds) z2), fun u hu => (h1 u hu).mono k, .inr ho⟩
    · exact (h2 b m).mono k
  | .float _, _, _, p, _ => Bool.noConfusion (show false = true from p)
  | .dict _, _, _, p, _ => Bool.noConfusion (show false = true from p)
  | .bytearray _, _, _, p, _ => Bool.noConfusion (show false = true from p)
  | .set _, _, _, p, _ => Bool.noConfusion (show false = true from p)
  | .frozenset _, _, _, p, _ => Bool.noConfusion (show false = true from p)
  | .obj _ _, _, _, p, _ => Bool.noConfusion (show false = true from p)
theorem area_all : ∀ (ds : List WData) (vs : List Value), WellAll P h vs ds → plWs ds = true → (∀ d ∈ ds, d.weight ≤ 1048576) → ∃ A : List Addr, (∀ u ∈ vs, OkU A u) ∧ ∀ a ∈ A, ArgOb h A a
  | [], _, x, _, _ => by
    cases x
    exact ⟨[], fun u m => absurd m (by simp), fun a m => absurd m (by simp)⟩
  | d :: ds, _, x, p, z => by
    obtain ⟨v, vs, rfl, x1, x2⟩ := well_cons x
    have q : plW d = true ∧ plWs ds = true := Bool.and_eq_true_iff.mp p
    obtain ⟨A, a1, a2⟩ := area_one d v x1 q.1 (z d (List.mem_cons_self ..))
    obtain ⟨B, b1, b2⟩ := area_all ds vs x2 q.2 fun e he => z e (List.mem_cons_of_mem _ he)
    have kA : ∀ b ∈ A, b ∈ A ++ B := fun b hb => List.mem_append.mpr (.inl hb)
    have kB : ∀ b ∈ B, b ∈ A ++ B := fun b hb => List.mem_append.mpr (.inr hb)
    refine ⟨A ++ B, fun u hu => ?_, fun b hb => ?_⟩
    · rcases List.mem_cons.mp hu with e | m
      · rw [e]
        exact a1.mono kA
      · exact (b1 u m).mono kB
    · rcases List.mem_append.mp hb with m | m
      · exact (a2 b m).mono kA
      · exact (b2 b m).mono kB
end
end
/-- what is tracked of an argument's object -/
def hoOf (o : Obj) : Option HO := match o.data with
  | .seq vs _ => if (o.cls == Value.type "list") = true then some (.frz o (.lst (vs.toList.map toV))) else some (.frz o (.tup (vs.toList.map toV)))
  | _ => none
def argH (K : PySem.W.Frag) (h : Heap) (A : List Addr) : Hp := fun b => if b ∈ A then (if (K.lookup b).isNone = true then (h.get? b).bind hoOf else none) else none
/-- nothing is tracked but what is known to the object -/
def OnlyF (H : Hp) : Prop := ∀ b, H b = none ∨ ∃ o u, H b = some (.frz o u)
theorem hoOf_lst (vs : List Value) : hoOf { cls := .type "list", data := .seq vs.toArray } = some (.frz { cls := .type "list", data := .seq vs.toArray } (.lst (vs.map toV))) := by
  show (if (Value.type "list" == Value.type "list") = true then some (HO.frz { cls := .type "list", data := .seq vs.toArray } (.lst (vs.toArray.toList.map toV))) else some (HO.frz { cls := .type "list", data := .seq vs.toArray } (.tup (vs.toArray.toList.map toV)))) = _
  rw [if_pos (beq_self_eq_true _)]
theorem hoOf_tup (vs : List Value) : hoOf { cls := .type "tuple", data := .seq vs.toArray } = some (.frz { cls := .type "tuple", data := .seq vs.toArray } (.tup (vs.map toV))) := by
  show (if (Value.type "tuple" == Value.type "list") = true then some (HO.frz { cls := .type "tuple", data := .seq vs.toArray } (.lst (vs.toArray.toList.map toV))) else some (HO.frz { cls := .type "tuple", data := .seq vs.toArray } (.tup (vs.toArray.toList.map toV)))) = _
  rw [if_neg (by decide)]
section
variable {P : Program} {w : World} {K : PySem.W.Frag} {h : Heap} {A : List Addr}
theorem argH_at {b : Addr} {o : Obj} (hb : b ∈ A) (hk : K.lookup b = none) (e : h.get? b = some o) : argH K h A b = hoOf o := by
  unfold argH
  rw [if_pos hb, hk, if_pos (show (none : Option Obj).isNone = true from rfl), e] <;> rfl
theorem of_argH {b : Addr} {u : HO} (q : argH K h A b = some u) : b ∈ A ∧ K.lookup b = none := by
  unfold argH at q
  by_cases hb : b ∈ A
  · rw [if_pos hb] at q
    cases hk : K.lookup b with
    | none => exact ⟨hb, rfl⟩
    | some o =>
      rw [hk, if_neg (by simp)] at q
      cases q
  · rw [if_neg hb] at q
    cases q
/-- what stands tracked -/
theorem argH_is (ar : ∀ a ∈ A, ArgOb h A a) {b : Addr} {u : HO} (q : argH K h A b = some u) : K.lookup b = none ∧ ∃ vs : List Value, vs.length ≤ sizeLine ∧ (∀ u ∈ vs, OkU A u) ∧
    ((h.get? b = some { cls := .type "list", data := .seq vs.toArray } ∧ u = .frz { cls := .type "list", data := .seq vs.toArray } (.lst (vs.map toV))) ∨
     (h.get? b = some { cls := .type "tuple", data := .seq vs.toArray } ∧ u = .frz { cls := .type "tuple", data := .seq vs.toArray } (.tup (vs.map toV)))) := by
  obtain ⟨hb, hk⟩ := of_argH q
  obtain ⟨vs, h1, h2, h3⟩ := ar b hb
  refine ⟨hk, vs, h1, h2, ?_⟩
  rcases h3 with e | e
  · rw [argH_at hb hk e, hoOf_lst] at q
    exact .inl ⟨e, (Option.some.inj q).symm⟩
  · rw [argH_at hb hk e, hoOf_tup] at q
    exact .inr ⟨e, (Option.some.inj q).symm⟩
theorem argH_only (ar : ∀ a ∈ A, ArgOb h A a) : OnlyF (argH K h A) := fun b => by
  cases q : argH K h A b with
  | none => exact .inl rfl
  | some u =>
    obtain ⟨_, vs, _, _, ⟨_, e⟩ | ⟨_, e⟩⟩ := argH_is ar q
    · exact .inr ⟨_, _, by rw [e]⟩
    · exact .inr ⟨_, _, by rw [e]⟩
theorem argH_ok (ar : ∀ a ∈ A, ArgOb h A a) : HOk P w (argH K h A) h := fun b u q => by
  obtain ⟨_, vs, h1, h2, ⟨e, rfl⟩ | ⟨e, rfl⟩⟩ := argH_is ar q
  · exact ⟨e, by rw [List.length_map]; exact h1, vs, _, vals_toV h2, e⟩
  · exact ⟨e, by rw [List.length_map]; exact h1, vs, vals_toV h2, _, e, rfl, _, rfl⟩
theorem seq_inj {c c' : Value} {vs us : List Value} (e : (some { cls := c, data := .seq vs.toArray } : Option Obj) = some { cls := c', data := .seq us.toArray }) : c = c' ∧ vs = us := by
  have e1 := Option.some.inj e
  have e2 : c = c' := congrArg Obj.cls e1
  have e3 : Data.seq vs.toArray = Data.seq us.toArray := congrArg Obj.data e1
  injection e3 with e4
  refine ⟨e2, ?_⟩
  have e5 := congrArg Array.toList e4
  simpa using e5
/-- a list argument -/
theorem argL (KX : K.In h) (ar : ∀ a ∈ A, ArgOb h A a) {a : Addr} {vs : List Value} (ha : a ∈ A) (e : h.get? a = some { cls := .type "list", data := .seq vs.toArray }) : (∀ u ∈ vs, OkU A u) ∧ SqL K (argH K h A) a (vs.map toV) := by
  obtain ⟨us, h1, h2, h3⟩ := ar a ha
  have hu : us = vs := by
    rcases h3 with q | q
    · rw [e] at q
      exact (seq_inj q).2.symm
    · rw [e] at q
      exact absurd (Value.type.inj (seq_inj q).1) (by decide)
  subst hu
  refine ⟨h2, ?_⟩
  cases hk : K.lookup a with
  | none => exact .inl (.inr ⟨_, by rw [argH_at ha hk e, hoOf_lst]⟩)
  | some o =>
    have e2 := KX a o hk
    rw [e] at e2
    obtain rfl := Option.some.inj e2
    exact .inr ⟨_, us.toArray, _, hk, rfl, rfl, rfl, by rw [List.size_toArray]; exact h1, by simpa using vals_toV h2⟩
theorem argT (KX : K.In h) (ar : ∀ a ∈ A, ArgOb h A a) {a : Addr} {vs : List Value} (ha : a ∈ A) (e : h.get? a = some { cls := .type "tuple", data := .seq vs.toArray }) : (∀ u ∈ vs, OkU A u) ∧ SqT K (argH K h A) a (vs.map toV) := by
  obtain ⟨us, h1, h2, h3⟩ := ar a ha
  have hu : us = vs := by
    rcases h3 with q | q
    · rw [e] at q
      exact absurd (Value.type.inj (seq_inj q).1) (by decide)
    · rw [e] at q
      exact (seq_inj q).2.symm
  subst hu
  refine ⟨h2, ?_⟩
  cases hk : K.lookup a with
  | none => exact .inl (.inr ⟨_, by rw [argH_at ha hk e, hoOf_tup]⟩)
  | some o =>
    have e2 := KX a o hk
    rw [e] at e2
    obtain rfl := Option.some.inj e2
    exact .inr ⟨_, us.toArray, _, hk, rfl, rfl, by rw [List.size_toArray]; exact h1, by simpa using vals_toV h2⟩
mutual
theorem dw_one {Pm : Params} (KX : K.In h) (ar : ∀ a ∈ A, ArgOb h A a) : ∀ (d : WData) (v : Value), Well Pm h v d → plW d = true → OkU A v → Dw K (argH K h A) (toV v) d
  | .none, _, x, _, _ => by
    cases x
    exact .non
  | .bool b, _, x, _, _ => by
    cases x
    exact .bl b
  | .int i, _, x, _, _ => by
    cases x
    exact .int i
  | .str s, _, x, _, _ => by
    cases x
    exact .str s
  | .bytes b, _, x, _, _ => by
    cases x
    have z := Dw.byt (K := K) (H := argH K h A) b.toArray
    exact z
  | .list ds, _, x, p, hu => by
    obtain ⟨a, vs, rfl, ho, hall⟩ := well_list x
    obtain ⟨h2, hs⟩ := argL KX ar hu ho
    exact .lst hs (dw_all KX ar ds _ hall p h2)
  | .tuple ds, _, x, p, hu => by
    obtain ⟨a, vs, rfl, ho, hall⟩ := well_tuple x
    obtain ⟨h2, hs⟩ := argT KX ar hu ho
    exact .tup hs (dw_all KX ar ds _ hall p h2)
  | .float _, _, _, p, _ => Bool.noConfusion (show false = true from p)
  | .dict _, _, _, p, _ => Bool.noConfusion (show false = true from p)
  | .bytearray _, _, _, p, _ => Bool.noConfusion (show false = true from p)
  | .set _, _, _, p, _ => Bool.noConfusion (show false = true from p)
  | .frozenset _, _, _, p, _ => Bool.noConfusion (show false = true from p)
  | .obj _ _, _, _, p, _ => Bool.noConfusion (show false = true from p)
theorem dw_all {Pm : Params} (KX : K.In h) (ar : ∀ a ∈ A, ArgOb h A a) : ∀ (ds : List WData) (vs : List Value), WellAll Pm h vs ds → plWs ds = true → (∀ u ∈ vs, OkU A u) → DwAll K (argH K h A) (vs.map toV) ds
  | [], _, x, _, _ => by
    cases x
    exact .nil
  | d :: ds, _, x, p, hu => by
    obtain ⟨v, vs, rfl, x1, x2⟩ := well_cons x
    have q : plW d = true ∧ plWs ds = true := Bool.and_eq_true_iff.mp p
    exact .cons (dw_one KX ar d v x1 q.1 (hu _ (List.mem_cons_self ..))) (dw_all KX ar ds vs x2 q.2 fun u m => hu u (List.mem_cons_of_mem _ m))
end
end
/-! ### the call -/
theorem spec_call {P : Program} {w : World} {K : PySem.W.Frag} {mg mb : Str → Option Value} {CX : CXT} {k : Nat} {fa : Addr} {fd : FuncData} {ps : List Str} {sp : Sp} {s₁ : Shared} {vals : List Value} {ds : List WData} {R : PySem.W.WRecords} {cl : Str → Option Addr} {d0 : WData}
    (KX : K.In s₁.heap) (hns : s₁.heap.Ns mainGlobals mg) (hb : s₁.heap.Ns builtinsNs mb) (hbb : ∀ x : Str, x ≠ "__name__" → mb x = bootBuiltins x) (hlim : s₁.heap.NoLimit) (hg : s₁.gens = #[])
    (hwl : WellAll w.params s₁.heap vals ds) (hpl : plWs ds = true) (hwt : ∀ d ∈ ds, d.weight ≤ 1048576) (hr : Room k callerA)
    (F : ∀ base : Heap, K.In base → base.Ns mainGlobals mg → FnOk P w K mg base CX k fa fd ps sp) (hbind : ∀ (s : Shared) (us : List Value), us.length = ps.length → BindsTo s fd ⟨us, []⟩ (ps.zip us)) (hlen : ds.length = ps.length)
    (hsp : ∀ (H : Hp) (xs : List V), OnlyF H → DwAll K H xs ds → sp xs H (fun v H' => Dw K H' v d0) fun _ _ _ => False)
    (hCX : ∀ H e s', CX [] H s₁ (fun _ _ _ => False) e s' → False) :
    codeAny (model P w) callerA (.call (.ref fa) ⟨vals, []⟩) (fun r s' => ∃ u as, r = .ok (.ret u) ∧ ReadsW R cl s'.heap u d0 as ∧ OldK s₁.heap s'.heap ∧ s'.os = s₁.os ∧ AllBare s'.gens) s₁ := by
  obtain ⟨A, ho, ar⟩ := area_all ds vals hwl hpl hwt
  have hO : OnlyF (argH K s₁.heap A) := argH_only ar
  have hok : HOk P w (argH K s₁.heap A) s₁.heap := argH_ok ar
  have hS := dw_all KX ar ds vals hwl hpl ho
  have hV := vals_toV ho
  have hK : ∀ b u, argH K s₁.heap A b = some u → K.lookup b = none := fun b u q => (argH_is ar q).1
  have noA : ∀ {b : Addr} {o : Obj} {es : Array DictEntry} {ep : Nat}, s₁.heap.get? b = some o → o.data = .dict es ep → argH K s₁.heap A b = none := fun {b o es ep} e d => by
    cases q : argH K s₁.heap A b with
    | none => rfl
    | some u =>
      obtain ⟨_, vs, _, _, ⟨e2, _⟩ | ⟨e2, _⟩⟩ := argH_is ar q
      · rw [e2] at e
        cases e
        have d' : Data.seq vs.toArray _ = Data.dict es ep := d
        cases d'
      · rw [e2] at e
        cases e
        have d' : Data.seq vs.toArray _ = Data.dict es ep := d
        cases d'
  generalize argH K s₁.heap A = H at hO hok hS hK noA
  have base_of : ∀ {b : Addr} {o : Obj}, s₁.heap.get? b = some o → H b = none → (hidT s₁.heap H).get? b = some o := fun e n => hidT_get e n
  have nsK : ∀ {b : Addr} {m : Str → Option Value}, s₁.heap.Ns b m → (hidT s₁.heap H).Ns b m := fun {b m} ⟨o, es, ep, e, d, r⟩ => ⟨o, es, ep, base_of e (noA e d), d, r⟩
  have nK : ∀ b o, K.lookup b = some o → H b = none := fun b o e => by
    cases q : H b with
    | none => rfl
    | some u =>
      rw [hK b u q] at e
      cases e
  have hKb : K.In (hidT s₁.heap H) := fun b o e => base_of (KX b o e) (nK b o e)
  have hM : Mod K mg (hidT s₁.heap H) := ⟨hKb, nsK hns, ⟨mb, nsK hb, hbb⟩, let ⟨mc, h1, h2⟩ := hlim; ⟨mc, nsK h1, h2⟩⟩
  have e0 : Env0 P w K mg (hidT s₁.heap H) callerA [] s₁ H := ⟨rfl, hM, fun b o e => of_hidT e, Nat.le_of_eq (hidT_size _ _), trivial, fun b hb => absurd (show b ∈ ([] : List Addr) from hb) (by simp), hok, .of_eq hg⟩
  have hl : vals.length = ps.length := by rw [wellAll_len hwl]; exact hlen
  refine codeAny_mono ((F _ hKb (nsK hns)).run callerA [] s₁ H ⟨vals, []⟩ vals (vals.map toV) _ _ hr e0 (hbind s₁ vals hl) hV (hsp H _ hO hS)) fun r s' x => ?_
  cases r with
  | error e => exact (hCX H e s' x).elim
  | ok fl =>
    cases fl with
    | next => exact False.elim x
    | brk => exact False.elim x
    | cont => exact False.elim x
    | ret u =>
      obtain ⟨v, H', os, bare, un, hok', r', q⟩ := x
      have kept : ∀ b o, s₁.heap.get? b = some o → s'.heap.get? b = some o := fun b o e => by
        cases q2 : H b with
        | none => exact un.keep b o e q2 (by intro z; exact absurd (show b ∈ ([] : List Addr) from z) (by simp)) (by simp)
        | some u2 =>
          rcases hO b with z | ⟨ob, u3, z⟩
          · rw [q2] at z
            cases z
          · have z2 := un.frzs b ob _ z
            obtain ⟨e1, _⟩ := hok b _ z
            obtain ⟨e2, _⟩ := hok' b _ z2
            rw [e] at e1
            cases e1
            exact e2
      have KX' : K.In s'.heap := fun b o e => kept b o (KX b o e)
      obtain ⟨as, hrd⟩ := Dw.reads (R := R) (cl := cl) hok' KX' d0 v u q r'
      exact ⟨u, as, rfl, hrd, OldK.of_keep kept, os, bare⟩
/-! ### the row -/
theorem layable_weight {ds : List WData} (h : WData.layableAll ds = true) : ∀ d ∈ ds, d.weight ≤ 1048576 := fun d hd =>
  (PySem.W.layableW_iff.mp (List.all_eq_true.mp h d hd)).2.2
theorem encAll_len : ∀ (cs : List Codec) (a : Codec.denoteAll cs), (Codec.encAll cs a).length = cs.length
  | [], _ => rfl
  | c :: cs, a => by
    show (Codec.encAll cs a.2).length + 1 = cs.length + 1
    rw [encAll_len cs a.2]
/-- the goal that k_headS leaves (case hc), from the promise of the row's def: whatever the arguments that the codecs let and the row asks for, the def gives what stands for enc (f ..) -/
theorem walk_spec {r : OpenSpec} {k : Nat} {q : Program} {loose : List Str} {XP : (Str → Option Value) → Heap → Prop} {YP : World → Heap → Prop} {d : DefRec} {K : Params → PySem.W.Frag} {CX : World → CXT} {ps : List Str} {sp : World → Sp}
    (hwell : r.wellSaid = true) (hdf : d.params.defaults = []) (hlen : r.args.length = ps.length) (hr : Room k callerA)
    (hY : ∀ (w : World) (h : Heap), YP w h → (K w.params).In h)
    (F : ∀ (w : World) (mg : Str → Option Value) (fa : Addr) (h : Heap), YP w h → (K w.params).In h → h.Ns mainGlobals mg → mg d.name = some (.ref fa) →
      ∃ fd : FuncData, (∀ (s : Shared) (us : List Value), us.length = ps.length → BindsTo s fd ⟨us, []⟩ (ps.zip us)) ∧
        ∀ base : Heap, (K w.params).In base → base.Ns mainGlobals mg → FnOk r.prog w (K w.params) mg base (CX w) k fa fd ps (sp w))
    (hsp : ∀ (w : World) (H : Hp) (xs : List V) (a : Codec.denoteAll r.args), OnlyF H → Codec.withinAll r.args a = true → Codec.app r.args r.asked a = true → DwAll (K w.params) H xs (Codec.encAll r.args a) →
      sp w xs H (fun v H' => Dw (K w.params) H' v (r.ret.enc (Codec.app r.args r.f a))) fun _ _ _ => False)
    (hCX : ∀ (w : World) (H : Hp) (s : Shared) (e : Value) (s' : Shared), CX w [] H s (fun _ _ _ => False) e s' → False) :
    PySem.W.WalkOS q loose XP YP r d [] (fun f vs => PySem.call f vs) := by
  intro w s_0 s₁ mg mb G Y fa o pm cd doc dV kV ho hd hcd hD hmg hg args vals as hpre hlay hrd hwl hlo
  obtain ⟨a, e1, e2⟩ := PySem.W.os_pre_some hpre
  obtain ⟨e3, hwi⟩ := Codec.encAll_of_decAll r.args args a e1
  subst e3
  have KX := hY w _ Y
  obtain ⟨fd, hb, hF⟩ := F w mg fa _ Y KX G.T.g hmg
  refine PySem.W.enter_call (codeAny_mono (spec_call (R := []) (cl := classAt s_0.heap) (d0 := r.ret.enc (Codec.app r.args r.f a)) KX G.T.g G.T.b G.T.builtins G.T.nolimit hg hwl (pl_encAll _ _) (layable_weight hlay) hr hF hb (by rw [encAll_len]; exact hlen)
    (fun H xs hO hS => hsp w H xs a hO hwi e2 hS) fun H e s' => hCX w H s₁ e s') fun r' s' hq => ?_)
  obtain ⟨u, as', rfl, h1, h2, h3, h4⟩ := hq
  exact ⟨.inl ⟨u, _, as', rfl, fun _ => rfl, h1, (OpenSpec.post_iff hwell hwi _ _).mpr rfl, fun z => Bool.noConfusion (show false = true from z)⟩, h2, h3, h4⟩
/-- the same where the promise hangs on the written part alone -/
theorem walk_specK {r : OpenSpec} {k : Nat} {q : Program} {loose : List Str} {XP : (Str → Option Value) → Heap → Prop} {YP : World → Heap → Prop} {d : DefRec} {K : Params → PySem.W.Frag} {CX : CXT} {ps : List Str} {sp : PySem.W.Frag → Sp}
    (hwell : r.wellSaid = true) (hdf : d.params.defaults = []) (hlen : r.args.length = ps.length) (hr : Room k callerA)
    (hY : ∀ (w : World) (h : Heap), YP w h → (K w.params).In h)
    (F : ∀ (w : World) (mg : Str → Option Value) (fa : Addr) (h : Heap), YP w h → (K w.params).In h → h.Ns mainGlobals mg → mg d.name = some (.ref fa) →
      ∃ fd : FuncData, (∀ (s : Shared) (us : List Value), us.length = ps.length → BindsTo s fd ⟨us, []⟩ (ps.zip us)) ∧
        ∀ base : Heap, (K w.params).In base → base.Ns mainGlobals mg → FnOk r.prog w (K w.params) mg base CX k fa fd ps (sp (K w.params)))
    (hsp : ∀ (K : PySem.W.Frag) (H : Hp) (xs : List V) (a : Codec.denoteAll r.args), OnlyF H → Codec.withinAll r.args a = true → Codec.app r.args r.asked a = true → DwAll K H xs (Codec.encAll r.args a) →
      sp K xs H (fun v H' => Dw K H' v (r.ret.enc (Codec.app r.args r.f a))) fun _ _ _ => False)
    (hCX : ∀ (H : Hp) (s : Shared) (e : Value) (s' : Shared), CX [] H s (fun _ _ _ => False) e s' → False) :
    PySem.W.WalkOS q loose XP YP r d [] (fun f vs => PySem.call f vs) :=
  walk_spec (K := K) (CX := fun _ => CX) (sp := fun w => sp (K w.params)) hwell hdf hlen hr hY F (fun w H xs a h1 h2 h3 h4 => hsp (K w.params) H xs a h1 h2 h3 h4) fun _ H s e s' => hCX H s e s'
end L2

set_option Elab.async false
set_option maxRecDepth 100000
namespace Ht
open PySem

/-! ### 1. Numbers as sets of worlds -/
theorem band (a b : Nat) : Builtin.bitAnd (a : Int) (b : Int) = ((a &&& b : Nat) : Int) := by
  unfold Builtin.bitAnd
  rw [decide_eq_true (Int.natCast_nonneg a), decide_eq_true (Int.natCast_nonneg b)]
  rfl
theorem bandn (a p : Nat) : Builtin.bitAnd (a : Int) (Builtin.bitNot (p : Int)) = ((a - (a &&& p) : Nat) : Int) := by
  have h : Builtin.bitNot (p : Int) = -(p : Int) - 1 := rfl
  have h2 : Builtin.bitNot (Builtin.bitNot (p : Int)) = (p : Int) := by unfold Builtin.bitNot; omega
  unfold Builtin.bitAnd
  rw [decide_eq_true (Int.natCast_nonneg a), decide_eq_false (show ¬ 0 ≤ Builtin.bitNot (p : Int) by rw [h]; omega)]
  show (a : Int) - (((a : Int).toNat &&& (Builtin.bitNot (Builtin.bitNot (p : Int))).toNat : Nat) : Int) = _
  rw [h2]
  show (a : Int) - ((a &&& p : Nat) : Int) = _
  have : a &&& p ≤ a := Nat.and_le_left
  omega
theorem bor (a b : Nat) : Builtin.bitOr (a : Int) (b : Int) = ((a ||| b : Nat) : Int) := by
  have h2 : ∀ x : Int, Builtin.bitNot (Builtin.bitNot x) = x := fun x => by unfold Builtin.bitNot; omega
  have h : ∀ p : Nat, ¬ 0 ≤ Builtin.bitNot (p : Int) := fun p => by show ¬ 0 ≤ -(p : Int) - 1; omega
  unfold Builtin.bitOr Builtin.bitAnd
  rw [decide_eq_false (h a), decide_eq_false (h b)]
  show Builtin.bitNot (Builtin.bitNot (((Builtin.bitNot (Builtin.bitNot (a : Int))).toNat ||| (Builtin.bitNot (Builtin.bitNot (b : Int))).toNat : Nat) : Int)) = _
  rw [h2, h2, h2]
  rfl
abbrev M (m : Nat) : Prop := m = 1 ∨ m = 2 ∨ m = 3
theorem minus_full {m a p : Nat} (hm : M m) (ha : a ≤ Krb7.full m) (hp : p ≤ Krb7.full m) : a - (a &&& p) = a &&& (Krb7.full m - p) := by
  have k1 : ∀ a : _root_.Fin 4, ∀ p : _root_.Fin 4, a.val - (a.val &&& p.val) = a.val &&& (3 - p.val) := by decide +kernel
  have k2 : ∀ a : _root_.Fin 16, ∀ p : _root_.Fin 16, a.val - (a.val &&& p.val) = a.val &&& (15 - p.val) := by decide +kernel
  have k3 : ∀ a : _root_.Fin 256, ∀ p : _root_.Fin 256, a.val - (a.val &&& p.val) = a.val &&& (255 - p.val) := by decide +kernel
  rcases hm with rfl | rfl | rfl
  · exact k1 ⟨a, Nat.lt_succ_of_le ha⟩ ⟨p, Nat.lt_succ_of_le hp⟩
  · exact k2 ⟨a, Nat.lt_succ_of_le ha⟩ ⟨p, Nat.lt_succ_of_le hp⟩
  · exact k3 ⟨a, Nat.lt_succ_of_le ha⟩ ⟨p, Nat.lt_succ_of_le hp⟩
/-- how many worlds, as the loop counts them -/
def pc : Nat → Nat → Nat
  | 0, _ => 0
  | f + 1, n => n % 2 + pc f (n / 2)
theorem count_pc {m w : Nat} (hm : M m) (hw : w ≤ Krb7.full m) : Krb7.count m w = pc 8 w := by
  have k1 : ∀ w : _root_.Fin 4, Krb7.count 1 w.val = pc 8 w.val := by decide +kernel
  have k2 : ∀ w : _root_.Fin 16, Krb7.count 2 w.val = pc 8 w.val := by decide +kernel
  have k3 : ∀ w : _root_.Fin 256, Krb7.count 3 w.val = pc 8 w.val := by decide +kernel
  rcases hm with rfl | rfl | rfl
  · exact k1 ⟨w, Nat.lt_succ_of_le hw⟩
  · exact k2 ⟨w, Nat.lt_succ_of_le hw⟩
  · exact k3 ⟨w, Nat.lt_succ_of_le hw⟩
theorem full_le {m : Nat} (hm : M m) : Krb7.full m ≤ 255 := by rcases hm with rfl | rfl | rfl <;> decide
theorem pc_zero : ∀ f, pc f 0 = 0
  | 0 => rfl
  | f + 1 => by show 0 % 2 + pc f (0 / 2) = 0; rw [show 0 / 2 = 0 from rfl, pc_zero f]
theorem behind_le {m b p a : Nat} (h : b ≤ Krb7.full m) : Krb7.behind m b p a ≤ Krb7.full m := by
  unfold Krb7.behind Krb7.both
  split
  · exact Nat.le_trans Nat.and_le_left h
  · split
    · exact Nat.le_trans Nat.and_le_left h
    · exact h
theorem stands_le {m : Nat} : ∀ (l : List (Nat × Nat)) {b : Nat}, b ≤ Krb7.full m → Krb7.stands m b l ≤ Krb7.full m
  | [], _, h => h
  | x :: l, b, h => by
    show Krb7.stands m (Krb7.behind m b x.1 x.2) l ≤ _
    exact stands_le l (behind_le h)
theorem stands_snoc (m b : Nat) (l : List (Nat × Nat)) (x : Nat × Nat) : Krb7.stands m b (l ++ [x]) = Krb7.behind m (Krb7.stands m b l) x.1 x.2 := by
  unfold Krb7.stands
  rw [List.foldl_append]
  rfl
theorem within_iff (a b : Nat) : Krb7.within a b = true ↔ a &&& b = a := by
  unfold Krb7.within
  exact beq_iff_eq
theorem truth_eq (k p : Nat) : Krb7.truth k p = if k &&& p = k then 1 else if k &&& p = 0 then 0 else 2 := by
  unfold Krb7.truth Krb7.both
  by_cases h : k &&& p = k
  · rw [if_pos ((within_iff _ _).mpr h), if_pos h]
  · rw [if_neg (fun q => h ((within_iff _ _).mp q)), if_neg h]
theorem why_eq (k p : Nat) : Krb7.why k p = if Krb7.truth k p = 1 then 1 else if Krb7.truth k p = 0 then 2 else 0 := by
  unfold Krb7.why Krb7.truth
  split
  · rfl
  · split <;> rfl
theorem right_eq (k b p : Nat) : Krb7.right k b p = if Krb7.why b p = 0 then Krb7.truth k p else Krb7.truth b p := by
  unfold Krb7.right Krb7.why
  split
  · rename_i h
    unfold Krb7.truth
    rw [if_pos h]
    rfl
  · rename_i h
    split
    · rename_i h2
      conv => rhs; unfold Krb7.truth
      rw [if_neg h, if_pos h2]
      rfl
    · rfl
end Ht

set_option Elab.async false
set_option linter.all false
set_option maxRecDepth 100000
set_option maxHeartbeats 2000000
namespace Ht
open PySem
/-! ### The list of calls, read from the left -/
def arity (n : Nat) : Nat := [2, 1, 1, 0, 0, 1, 1, 0, 0, 1, 0, 0, 2, 1, 1, 1, 2, 2, 2, 2, 0].getD n 0
def zs (l : List Nat) : List Int := l.map fun (n : Nat) => (n : Int)
/-- a call as its rows -/
def rowsOf (n : Nat) (gs : List Nat) : List (List Int) := if n = 7 then [[7], zs gs] else [(n : Int) :: zs gs]
/-- a call as it stands in the list -/
def flat (n : Nat) (gs : List Nat) : List Int := if n = 7 then 7 :: (gs.length : Int) :: zs gs else (n : Int) :: zs gs
def mkCall (n : Nat) (gs : List Nat) : Krb7.Call := match n with
  | 0 => .begin_ (gs.getD 0 0) (gs.getD 1 0)
  | 1 => .lay (gs.getD 0 0)
  | 2 => .propose (gs.getD 0 0)
  | 3 => .back
  | 4 => .finish
  | 5 => .learn (gs.getD 0 0)
  | 6 => .answer (gs.getD 0 0)
  | 7 => .row gs
  | 8 => .stands
  | 9 => .matters (gs.getD 0 0)
  | 10 => .log
  | 11 => .counts
  | 12 => .nth (gs.getD 0 0) (gs.getD 1 0)
  | 13 => .truth (gs.getD 0 0)
  | 14 => .letter (gs.getD 0 0)
  | 15 => .not_ (gs.getD 0 0)
  | 16 => .both (gs.getD 0 0) (gs.getD 1 0)
  | 17 => .either (gs.getD 0 0) (gs.getD 1 0)
  | 18 => .if_ (gs.getD 0 0) (gs.getD 1 0)
  | 19 => .follows (gs.getD 0 0) (gs.getD 1 0)
  | _ => .state
/-- the numbers that stand behind a call's number -/
structure CallOk (n : Nat) (gs : List Nat) : Prop where
  lim : n ≤ 20
  ar : n ≠ 7 → gs.length = arity n
theorem zs_nats : ∀ (l : List Int), (∀ x ∈ l, 0 ≤ x) → ∃ gs : List Nat, l = zs gs
  | [], _ => ⟨[], rfl⟩
  | x :: l, h => by
    obtain ⟨gs, e⟩ := zs_nats l fun y hy => h y (List.mem_cons_of_mem _ hy)
    have hx := h x List.mem_cons_self
    refine ⟨x.toNat :: gs, ?_⟩
    show x :: l = ((x.toNat : Nat) : Int) :: zs gs
    rw [e]
    congr 1
    omega
theorem zs_len (l : List Nat) : (zs l).length = l.length := List.length_map _
theorem toNats (l : List Nat) : (zs l).map Int.toNat = l := by
  unfold zs
  rw [List.map_map]
  have : (Int.toNat ∘ fun (n : Nat) => (n : Int)) = id := by funext n; rfl
  rw [this, List.map_id]
theorem shape_some {p : Int} (hp : 0 ≤ p) {s : Nat × Nat} (h : PyKrb7.shape p = some s) : ∃ n : Nat, p = n ∧ n ≤ 20 ∧ (n = 7 → s = (0, 1)) ∧ (n ≠ 7 → s = (arity n, 0)) := by
  obtain ⟨n, rfl⟩ : ∃ n : Nat, p = n := ⟨p.toNat, by omega⟩
  have hn : n ≤ 20 := by
    apply Classical.byContradiction
    intro hn
    unfold PyKrb7.shape at h
    iterate 21 rw [if_neg (by omega)] at h
    cases h
  have k : ∀ m : _root_.Fin 21, PyKrb7.shape (m.val : Int) = some (if m.val = 7 then (0, 1) else (arity m.val, 0)) := by decide +kernel
  have e := k ⟨n, Nat.lt_succ_of_le hn⟩
  have e' : some s = some (if n = 7 then (0, 1) else (arity n, 0)) := h.symm.trans e
  have e2 := Option.some.inj e'
  refine ⟨n, rfl, hn, fun z => ?_, fun z => ?_⟩
  · rw [e2, if_pos z]
  · rw [e2, if_neg z]
theorem call_rows {n : Nat} {gs : List Nat} (ok : CallOk n gs) : Krb7Neutral.call (rowsOf n gs) = mkCall n gs := by
  have two : ∀ {gs : List Nat}, gs.length = 2 → ∃ x y, gs = [x, y] := fun {gs} h => match gs, h with | [x, y], _ => ⟨x, y, rfl⟩
  have one : ∀ {gs : List Nat}, gs.length = 1 → ∃ x, gs = [x] := fun {gs} h => match gs, h with | [x], _ => ⟨x, rfl⟩
  have nil : ∀ {gs : List Nat}, gs.length = 0 → gs = [] := fun {gs} h => match gs, h with | [], _ => rfl
  obtain ⟨hn, ha⟩ := ok
  match n, hn, ha with
  | 0, _, ha => obtain ⟨x, y, rfl⟩ := two (ha (by decide)); rfl
  | 1, _, ha => obtain ⟨x, rfl⟩ := one (ha (by decide)); rfl
  | 2, _, ha => obtain ⟨x, rfl⟩ := one (ha (by decide)); rfl
  | 3, _, ha => obtain rfl := nil (ha (by decide)); rfl
  | 4, _, ha => obtain rfl := nil (ha (by decide)); rfl
  | 5, _, ha => obtain ⟨x, rfl⟩ := one (ha (by decide)); rfl
  | 6, _, ha => obtain ⟨x, rfl⟩ := one (ha (by decide)); rfl
  | 7, _, ha =>
    show Krb7.Call.row ((zs gs).map Int.toNat) = Krb7.Call.row gs
    rw [toNats]
  | 8, _, ha => obtain rfl := nil (ha (by decide)); rfl
  | 9, _, ha => obtain ⟨x, rfl⟩ := one (ha (by decide)); rfl
  | 10, _, ha => obtain rfl := nil (ha (by decide)); rfl
  | 11, _, ha => obtain rfl := nil (ha (by decide)); rfl
  | 12, _, ha => obtain ⟨x, y, rfl⟩ := two (ha (by decide)); rfl
  | 13, _, ha => obtain ⟨x, rfl⟩ := one (ha (by decide)); rfl
  | 14, _, ha => obtain ⟨x, rfl⟩ := one (ha (by decide)); rfl
  | 15, _, ha => obtain ⟨x, rfl⟩ := one (ha (by decide)); rfl
  | 16, _, ha => obtain ⟨x, y, rfl⟩ := two (ha (by decide)); rfl
  | 17, _, ha => obtain ⟨x, y, rfl⟩ := two (ha (by decide)); rfl
  | 18, _, ha => obtain ⟨x, y, rfl⟩ := two (ha (by decide)); rfl
  | 19, _, ha => obtain ⟨x, y, rfl⟩ := two (ha (by decide)); rfl
  | 20, _, ha => obtain rfl := nil (ha (by decide)); rfl
  | n + 21, hn, _ => omega
/-- one call is taken off -/
theorem calls_cons {f : Nat} {q : Int} {r : List Int} {raw : List (List (List Int))} (h : PyFlat.calls PyKrb7.shape f (q :: r) = some raw) (h0 : ∀ x ∈ q :: r, 0 ≤ x) :
    ∃ (n : Nat) (gs : List Nat) (rest : List Int) (raw' : List (List (List Int))) (f' : Nat), CallOk n gs ∧ q :: r = flat n gs ++ rest ∧ raw = rowsOf n gs :: raw' ∧ PyFlat.calls PyKrb7.shape f' rest = some raw' := by
  cases f with
  | zero => cases h
  | succ f =>
    unfold PyFlat.calls PyFlat.call at h
    dsimp only at h
    cases e : PyKrb7.shape q with
    | none =>
      rw [e] at h
      cases h
    | some s =>
      obtain ⟨n, rfl, hn, s7, sn⟩ := shape_some (h0 q List.mem_cons_self) e
      rw [e] at h
      by_cases z : n = 7
      · subst z
        rw [s7 rfl] at h
        cases r with
        | nil => cases h
        | cons k r =>
          have hk : 0 ≤ k := h0 k (List.mem_cons_of_mem _ List.mem_cons_self)
          unfold PyFlat.rows PyFlat.row at h
          by_cases hl : k.toNat ≤ r.length
          · obtain ⟨gs, eg⟩ := zs_nats (r.take k.toNat) fun x hx => h0 x (List.mem_cons_of_mem _ (List.mem_cons_of_mem _ (List.mem_of_mem_take hx)))
            have hg : gs.length = k.toNat := by
              rw [← zs_len, ← eg, List.length_take]
              omega
            cases e2 : PyFlat.calls PyKrb7.shape f (r.drop k.toNat) with
            | none =>
              simp [PyFlat.rows, hl, hk, e2] at h
            | some raw' =>
              simp [PyFlat.rows, hl, hk, e2] at h
              refine ⟨7, gs, r.drop k.toNat, raw', f, ⟨hn, fun z => absurd rfl z⟩, ?_, ?_, e2⟩
              · show (7 : Int) :: k :: r = 7 :: (gs.length : Int) :: (zs gs ++ r.drop k.toNat)
                rw [← eg, List.take_append_drop, hg]
                congr 2
                omega
              · rw [← h, eg]
                rfl
          · simp [hl, hk] at h
      · rw [sn z] at h
        by_cases hl : r.length < arity n
        · simp [hl] at h
        · obtain ⟨gs, eg⟩ := zs_nats (r.take (arity n)) fun x hx => h0 x (List.mem_cons_of_mem _ (List.mem_of_mem_take hx))
          have hg : gs.length = arity n := by
            rw [← zs_len, ← eg, List.length_take]
            omega
          cases e2 : PyFlat.calls PyKrb7.shape f (r.drop (arity n)) with
          | none =>
            simp [PyFlat.rows, hl, e2] at h
          | some raw' =>
            simp [PyFlat.rows, hl, e2] at h
            refine ⟨n, gs, r.drop (arity n), raw', f, ⟨hn, fun _ => hg⟩, ?_, ?_, e2⟩
            · unfold flat
              rw [if_neg z, ← eg]
              show (n : Int) :: r = (n : Int) :: (r.take (arity n) ++ r.drop (arity n))
              rw [List.take_append_drop]
            · unfold rowsOf
              rw [if_neg z, ← h, eg]
theorem whole_rows {n : Nat} {gs : List Nat} (ok : CallOk n gs) : PyKrb7.whole (rowsOf n gs) = rowsOf n gs := by
  have two : ∀ {gs : List Nat}, gs.length = 2 → ∃ x y, gs = [x, y] := fun {gs} h => match gs, h with | [x, y], _ => ⟨x, y, rfl⟩
  have one : ∀ {gs : List Nat}, gs.length = 1 → ∃ x, gs = [x] := fun {gs} h => match gs, h with | [x], _ => ⟨x, rfl⟩
  have nil : ∀ {gs : List Nat}, gs.length = 0 → gs = [] := fun {gs} h => match gs, h with | [], _ => rfl
  obtain ⟨hn, ha⟩ := ok
  match n, hn, ha with
  | 0, _, ha => obtain ⟨x, y, rfl⟩ := two (ha (by decide)); rfl
  | 1, _, ha => obtain ⟨x, rfl⟩ := one (ha (by decide)); rfl
  | 2, _, ha => obtain ⟨x, rfl⟩ := one (ha (by decide)); rfl
  | 3, _, ha => obtain rfl := nil (ha (by decide)); rfl
  | 4, _, ha => obtain rfl := nil (ha (by decide)); rfl
  | 5, _, ha => obtain ⟨x, rfl⟩ := one (ha (by decide)); rfl
  | 6, _, ha => obtain ⟨x, rfl⟩ := one (ha (by decide)); rfl
  | 7, _, ha => rfl
  | 8, _, ha => obtain rfl := nil (ha (by decide)); rfl
  | 9, _, ha => obtain ⟨x, rfl⟩ := one (ha (by decide)); rfl
  | 10, _, ha => obtain rfl := nil (ha (by decide)); rfl
  | 11, _, ha => obtain rfl := nil (ha (by decide)); rfl
  | 12, _, ha => obtain ⟨x, y, rfl⟩ := two (ha (by decide)); rfl
  | 13, _, ha => obtain ⟨x, rfl⟩ := one (ha (by decide)); rfl
  | 14, _, ha => obtain ⟨x, rfl⟩ := one (ha (by decide)); rfl
  | 15, _, ha => obtain ⟨x, rfl⟩ := one (ha (by decide)); rfl
  | 16, _, ha => obtain ⟨x, y, rfl⟩ := two (ha (by decide)); rfl
  | 17, _, ha => obtain ⟨x, y, rfl⟩ := two (ha (by decide)); rfl
  | 18, _, ha => obtain ⟨x, y, rfl⟩ := two (ha (by decide)); rfl
  | 19, _, ha => obtain ⟨x, y, rfl⟩ := two (ha (by decide)); rfl
  | 20, _, ha => obtain rfl := nil (ha (by decide)); rfl
  | n + 21, hn, _ => omega
theorem flat_pos (n : Nat) (gs : List Nat) : 1 ≤ (flat n gs).length := by
  unfold flat
  split
  · exact Nat.succ_le_succ (Nat.zero_le _)
  · exact Nat.succ_le_succ (Nat.zero_le _)
/-- the counts are put in already -/
theorem calls_whole : ∀ (N f : Nat) (l : List Int) (raw : List (List (List Int))), l.length ≤ N → PyFlat.calls PyKrb7.shape f l = some raw → (∀ x ∈ l, 0 ≤ x) → raw.map PyKrb7.whole = raw
  | _, f, [], raw, _, h, _ => by
    have e : raw = [] := by cases f <;> exact (Option.some.inj h).symm
    rw [e]
    rfl
  | 0, _, _ :: _, _, hl, _, _ => absurd hl (by rw [List.length_cons]; omega)
  | N + 1, f, q :: r, raw, hl, h, h0 => by
    obtain ⟨n, gs, rest, raw', f', ok, e, rfl, h'⟩ := calls_cons h h0
    have hr : rest.length ≤ N := by
      have z := congrArg List.length e
      rw [List.length_append] at z
      have := flat_pos n gs
      omega
    rw [List.map_cons, whole_rows ok, calls_whole N f' rest raw' hr h' fun x hx => h0 x (by rw [e]; exact List.mem_append_right _ hx)]
theorem answers_calls {ns : List Int} {raw : List (List (List Int))} (h : PyFlat.calls PyKrb7.shape ns.length ns = some raw) (h0 : ∀ x ∈ ns, 0 ≤ x) : PyKrb7.answers ns = PyFlat.told (PyFlat.played Krb7Neutral.step Krb7Neutral.start raw) := by
  unfold PyKrb7.answers PyKrb7.calls
  rw [h]
  show PyFlat.told (PyFlat.played Krb7Neutral.step Krb7Neutral.start (raw.map PyKrb7.whole)) = _
  rw [calls_whole _ _ _ _ (Nat.le_refl _) h h0]
theorem asked_calls {ns : List Int} (h : PyKrb7.answers_asked ns = true) : ∃ raw, PyFlat.calls PyKrb7.shape ns.length ns = some raw ∧ (PyKrb7.answers ns).length ≤ 10000000 := by
  unfold PyKrb7.answers_asked at h
  cases e : PyFlat.calls PyKrb7.shape ns.length ns with
  | none =>
    rw [e] at h
    cases h
  | some raw =>
    rw [e] at h
    refine ⟨raw, rfl, ?_⟩
    have h' : (PyFlat.atMost 60 raw && PyInside.calls PyKrb7.bound raw && Krb7Neutral.asked (raw.map PyKrb7.whole) && PyFlat.short 10000000 (PyKrb7.answers ns)) = true := h
    rw [Bool.and_eq_true] at h'
    exact of_decide_eq_true h'.2
theorem told_cons (a : List Int) (l : List (List Int)) : PyFlat.told (a :: l) = (a.length : Int) :: (a ++ PyFlat.told l) := rfl
end Ht

set_option Elab.async false
set_option linter.all false
set_option maxRecDepth 100000
set_option maxHeartbeats 2000000
namespace Ht
/-! ### What stage 2's calls are to answer -/
section
variable (h : Krb7.House) (x y : Nat)
theorem act_counts : Krb7.act (some h) .counts = (some h, if h.laid.isNone = true then Krb7.say (-6) else { num := (h.all 1).length, nums := Krb7.ints [(h.all 0).length, (h.all 2).length] }) := by
  unfold Krb7.act
  rfl
theorem act_nth : Krb7.act (some h) (.nth x y) = (some h, if 2 < x then Krb7.say (-22) else if h.laid.isNone = true then Krb7.say (-6) else match (h.all x)[y]? with
    | none => Krb7.say (-33)
    | some p => Krb7.say p) := by
  unfold Krb7.act
  rfl
theorem act_truth : Krb7.act (some h) (.truth x) = (some h, if (!(decide (x ≤ Krb7.full h.m))) = true then Krb7.say (-22) else Krb7.say (Krb7.truth h.known x)) := by
  unfold Krb7.act
  rfl
theorem act_letter : Krb7.act (some h) (.letter x) = (some h, if h.m ≤ x then Krb7.say (-2) else Krb7.say (Krb7.letter h.m x)) := by
  unfold Krb7.act
  rfl
theorem act_not : Krb7.act (some h) (.not_ x) = (some h, if (!(decide (x ≤ Krb7.full h.m))) = true then Krb7.say (-22) else Krb7.say (Krb7.full h.m - x : Nat)) := by
  unfold Krb7.act
  rfl
theorem act_both : Krb7.act (some h) (.both x y) = (some h, if (!(decide (x ≤ Krb7.full h.m)) || !(decide (y ≤ Krb7.full h.m))) = true then Krb7.say (-22) else Krb7.say (x &&& y : Nat)) := by
  unfold Krb7.act
  rfl
theorem act_either : Krb7.act (some h) (.either x y) = (some h, if (!(decide (x ≤ Krb7.full h.m)) || !(decide (y ≤ Krb7.full h.m))) = true then Krb7.say (-22) else Krb7.say (x ||| y : Nat)) := by
  unfold Krb7.act
  rfl
theorem act_if : Krb7.act (some h) (.if_ x y) = (some h, if (!(decide (x ≤ Krb7.full h.m)) || !(decide (y ≤ Krb7.full h.m))) = true then Krb7.say (-22) else Krb7.say ((Krb7.full h.m - x) ||| y : Nat)) := by
  unfold Krb7.act
  rfl
theorem act_follows : Krb7.act (some h) (.follows x y) = (some h, if (!(decide (x ≤ Krb7.full h.m)) || !(decide (y ≤ Krb7.full h.m))) = true then Krb7.say (-22) else Krb7.say (if Krb7.within x y = true then 1 else 0)) := by
  unfold Krb7.act
  rfl
theorem act_state : Krb7.act (some h) .state = (some h, { num := h.m, nums := Krb7.ints (h.known :: match h.laid with
    | none => []
    | some p => [p, h.said.length]) }) := by
  unfold Krb7.act
  rfl
end
/-- the propositions below n that are answered so, one more -/
theorem all_succ (k b a n : Nat) : ((List.range (n + 1)).filter fun p => Krb7.right k b p == a) = ((List.range n).filter fun p => Krb7.right k b p == a) ++ (if Krb7.right k b n = a then [n] else []) := by
  rw [List.range_succ, List.filter_append]
  congr 1
  by_cases e : Krb7.right k b n = a
  · rw [if_pos e, List.filter_cons, if_pos (by simpa using e)]
    rfl
  · rw [if_neg e, List.filter_cons, if_neg (by simpa using e)]
    rfl
theorem letters_val : Krb7.letter 1 0 = 2 ∧ Krb7.letter 2 0 = 10 ∧ Krb7.letter 2 1 = 12 ∧ Krb7.letter 3 0 = 170 ∧ Krb7.letter 3 1 = 204 ∧ Krb7.letter 3 2 = 240 := by decide +kernel
end Ht

set_option Elab.async false
set_option linter.all false
set_option maxRecDepth 100000
set_option maxHeartbeats 2000000
namespace Ht
open PySem PySem.Spec PyProof.Rows L2
/-! ### 2. The text by places -/
def top (i : Nat) : Stmt := PySem.Challenge.pw_heldtogether_s01_answers.main.body.getD i (.Pass ⟨0, 0, 0, 0⟩)
abbrev s_f_how_many_worlds : Stmt := top 20
abbrev s_f_verdict : Stmt := top 21
abbrev s_f_bearing : Stmt := top 22
abbrev s_f_right_answer : Stmt := top 23
abbrev s_f_narrowed : Stmt := top 24
abbrev s_f_where_given : Stmt := top 48
abbrev s_f_how_many_given : Stmt := top 49
abbrev s_f_answer_what_changes : Stmt := top 50
abbrev s_f_answer_what_is_asked : Stmt := top 51
abbrev s_f_answer_without_laying : Stmt := top 52
abbrev s_f_answer_call : Stmt := top 53
abbrev s_f_answers : Stmt := top 54
abbrev s_m_init : Stmt := inClass (top 25) 0
abbrev s_m_has_begun : Stmt := inClass (top 25) 1
abbrev s_m_is_proposition : Stmt := inClass (top 25) 2
abbrev s_m_are_propositions : Stmt := inClass (top 25) 3
abbrev s_m_all_worlds : Stmt := inClass (top 25) 4
abbrev s_m_standing : Stmt := inClass (top 25) 5
abbrev s_m_right_answers : Stmt := inClass (top 25) 6
abbrev s_m_how_many_proposed : Stmt := inClass (top 25) 7
abbrev s_m_refusal : Stmt := inClass (top 25) 8
abbrev s_m_begin : Stmt := inClass (top 25) 9
abbrev s_m_lay : Stmt := inClass (top 25) 10
abbrev s_m_propose : Stmt := inClass (top 25) 11
abbrev s_m_back : Stmt := inClass (top 25) 12
abbrev s_m_finish : Stmt := inClass (top 25) 13
abbrev s_m_learn : Stmt := inClass (top 25) 14
abbrev s_m_answer : Stmt := inClass (top 25) 15
abbrev s_m_row : Stmt := inClass (top 25) 16
abbrev s_m_stands : Stmt := inClass (top 25) 17
abbrev s_m_matters : Stmt := inClass (top 25) 18
abbrev s_m_log : Stmt := inClass (top 25) 19
abbrev s_m_counts : Stmt := inClass (top 25) 20
abbrev s_m_nth : Stmt := inClass (top 25) 21
abbrev s_m_truth : Stmt := inClass (top 25) 22
abbrev s_m_letter : Stmt := inClass (top 25) 23
abbrev s_m_not_of : Stmt := inClass (top 25) 24
abbrev s_m_both : Stmt := inClass (top 25) 25
abbrev s_m_either : Stmt := inClass (top 25) 26
abbrev s_m_if_then : Stmt := inClass (top 25) 27
abbrev s_m_follows : Stmt := inClass (top 25) 28
abbrev s_m_state : Stmt := inClass (top 25) 29
theorem sc_f_how_many_worlds : FnScope ["worlds", "found", "rest"] ["worlds"] (defScope s_f_how_many_worlds) := ⟨rfl, rfl, rfl, by decide +kernel, rfl, by decide +kernel, by decide +kernel⟩
theorem sc_f_verdict : FnScope ["worlds", "p", "common"] ["worlds", "p"] (defScope s_f_verdict) := ⟨rfl, rfl, rfl, by decide +kernel, rfl, by decide +kernel, by decide +kernel⟩
theorem sc_f_bearing : FnScope ["standing", "p", "by_standing"] ["standing", "p"] (defScope s_f_bearing) := ⟨rfl, rfl, rfl, by decide +kernel, rfl, by decide +kernel, by decide +kernel⟩
theorem sc_f_right_answer : FnScope ["standing", "known", "p"] ["standing", "known", "p"] (defScope s_f_right_answer) := ⟨rfl, rfl, rfl, by decide +kernel, rfl, by decide +kernel, by decide +kernel⟩
theorem sc_f_narrowed : FnScope ["standing", "p", "answer"] ["standing", "p", "answer"] (defScope s_f_narrowed) := ⟨rfl, rfl, rfl, by decide +kernel, rfl, by decide +kernel, by decide +kernel⟩
theorem sc_f_where_given : FnScope ["calls", "at"] ["calls", "at"] (defScope s_f_where_given) := ⟨rfl, rfl, rfl, by decide +kernel, rfl, by decide +kernel, by decide +kernel⟩
theorem sc_f_how_many_given : FnScope ["calls", "at"] ["calls", "at"] (defScope s_f_how_many_given) := ⟨rfl, rfl, rfl, by decide +kernel, rfl, by decide +kernel, by decide +kernel⟩
theorem sc_f_answer_what_changes : FnScope ["held", "call", "given"] ["held", "call", "given"] (defScope s_f_answer_what_changes) := ⟨rfl, rfl, rfl, by decide +kernel, rfl, by decide +kernel, by decide +kernel⟩
theorem sc_f_answer_what_is_asked : FnScope ["held", "call", "given"] ["held", "call", "given"] (defScope s_f_answer_what_is_asked) := ⟨rfl, rfl, rfl, by decide +kernel, rfl, by decide +kernel, by decide +kernel⟩
theorem sc_f_answer_without_laying : FnScope ["held", "call", "given"] ["held", "call", "given"] (defScope s_f_answer_without_laying) := ⟨rfl, rfl, rfl, by decide +kernel, rfl, by decide +kernel, by decide +kernel⟩
theorem sc_f_answer_call : FnScope ["held", "call", "given"] ["held", "call", "given"] (defScope s_f_answer_call) := ⟨rfl, rfl, rfl, by decide +kernel, rfl, by decide +kernel, by decide +kernel⟩
theorem sc_f_answers : FnScope ["calls", "held", "told", "at", "start", "end", "answered"] ["calls"] (defScope s_f_answers) := ⟨rfl, rfl, rfl, by decide +kernel, rfl, by decide +kernel, by decide +kernel⟩
theorem sc_m_init : FnScope ["self"] ["self"] (defScope s_m_init) := ⟨rfl, rfl, rfl, by decide +kernel, rfl, by decide +kernel, by decide +kernel⟩
theorem sc_m_has_begun : FnScope ["self"] ["self"] (defScope s_m_has_begun) := ⟨rfl, rfl, rfl, by decide +kernel, rfl, by decide +kernel, by decide +kernel⟩
theorem sc_m_is_proposition : FnScope ["self", "p"] ["self", "p"] (defScope s_m_is_proposition) := ⟨rfl, rfl, rfl, by decide +kernel, rfl, by decide +kernel, by decide +kernel⟩
theorem sc_m_are_propositions : FnScope ["self", "p", "q"] ["self", "p", "q"] (defScope s_m_are_propositions) := ⟨rfl, rfl, rfl, by decide +kernel, rfl, by decide +kernel, by decide +kernel⟩
theorem sc_m_all_worlds : FnScope ["self"] ["self"] (defScope s_m_all_worlds) := ⟨rfl, rfl, rfl, by decide +kernel, rfl, by decide +kernel, by decide +kernel⟩
theorem sc_m_standing : FnScope ["self", "worlds", "p", "answer"] ["self"] (defScope s_m_standing) := ⟨rfl, rfl, rfl, by decide +kernel, rfl, by decide +kernel, by decide +kernel⟩
theorem sc_m_right_answers : FnScope ["self", "standing", "p"] ["self"] (defScope s_m_right_answers) := ⟨rfl, rfl, rfl, by decide +kernel, rfl, by decide +kernel, by decide +kernel⟩
theorem sc_m_how_many_proposed : FnScope ["self", "answer", "by_known", "found", "p", "given"] ["self", "answer", "by_known"] (defScope s_m_how_many_proposed) := ⟨rfl, rfl, rfl, by decide +kernel, rfl, by decide +kernel, by decide +kernel⟩
theorem sc_m_refusal : FnScope ["self", "p"] ["self", "p"] (defScope s_m_refusal) := ⟨rfl, rfl, rfl, by decide +kernel, rfl, by decide +kernel, by decide +kernel⟩
theorem sc_m_begin : FnScope ["self", "letters", "known"] ["self", "letters", "known"] (defScope s_m_begin) := ⟨rfl, rfl, rfl, by decide +kernel, rfl, by decide +kernel, by decide +kernel⟩
theorem sc_m_lay : FnScope ["self", "p"] ["self", "p"] (defScope s_m_lay) := ⟨rfl, rfl, rfl, by decide +kernel, rfl, by decide +kernel, by decide +kernel⟩
theorem sc_m_propose : FnScope ["self", "p", "refused", "standing", "answer"] ["self", "p"] (defScope s_m_propose) := ⟨rfl, rfl, rfl, by decide +kernel, rfl, by decide +kernel, by decide +kernel⟩
theorem sc_m_back : FnScope ["self"] ["self"] (defScope s_m_back) := ⟨rfl, rfl, rfl, by decide +kernel, rfl, by decide +kernel, by decide +kernel⟩
theorem sc_m_finish : FnScope ["self", "conceded_not_so", "denied_but_so", "told"] ["self"] (defScope s_m_finish) := ⟨rfl, rfl, rfl, by decide +kernel, rfl, by decide +kernel, by decide +kernel⟩
theorem sc_m_learn : FnScope ["self", "worlds"] ["self", "worlds"] (defScope s_m_learn) := ⟨rfl, rfl, rfl, by decide +kernel, rfl, by decide +kernel, by decide +kernel⟩
theorem sc_m_answer : FnScope ["self", "p", "refused", "standing"] ["self", "p"] (defScope s_m_answer) := ⟨rfl, rfl, rfl, by decide +kernel, rfl, by decide +kernel, by decide +kernel⟩
theorem sc_m_row : FnScope ["self", "propositions", "p", "told", "standing", "answer"] ["self", "propositions"] (defScope s_m_row) := ⟨rfl, rfl, rfl, by decide +kernel, rfl, by decide +kernel, by decide +kernel⟩
theorem sc_m_stands : FnScope ["self", "standing"] ["self"] (defScope s_m_stands) := ⟨rfl, rfl, rfl, by decide +kernel, rfl, by decide +kernel, by decide +kernel⟩
theorem sc_m_matters : FnScope ["self", "p", "refused"] ["self", "p"] (defScope s_m_matters) := ⟨rfl, rfl, rfl, by decide +kernel, rfl, by decide +kernel, by decide +kernel⟩
theorem sc_m_log : FnScope ["self", "told", "p", "answer"] ["self"] (defScope s_m_log) := ⟨rfl, rfl, rfl, by decide +kernel, rfl, by decide +kernel, by decide +kernel⟩
theorem sc_m_counts : FnScope ["self", "given"] ["self"] (defScope s_m_counts) := ⟨rfl, rfl, rfl, by decide +kernel, rfl, by decide +kernel, by decide +kernel⟩
theorem sc_m_nth : FnScope ["self", "answer", "which", "found", "p", "given"] ["self", "answer", "which"] (defScope s_m_nth) := ⟨rfl, rfl, rfl, by decide +kernel, rfl, by decide +kernel, by decide +kernel⟩
theorem sc_m_truth : FnScope ["self", "p"] ["self", "p"] (defScope s_m_truth) := ⟨rfl, rfl, rfl, by decide +kernel, rfl, by decide +kernel, by decide +kernel⟩
theorem sc_m_letter : FnScope ["self", "i"] ["self", "i"] (defScope s_m_letter) := ⟨rfl, rfl, rfl, by decide +kernel, rfl, by decide +kernel, by decide +kernel⟩
theorem sc_m_not_of : FnScope ["self", "p"] ["self", "p"] (defScope s_m_not_of) := ⟨rfl, rfl, rfl, by decide +kernel, rfl, by decide +kernel, by decide +kernel⟩
theorem sc_m_both : FnScope ["self", "p", "q"] ["self", "p", "q"] (defScope s_m_both) := ⟨rfl, rfl, rfl, by decide +kernel, rfl, by decide +kernel, by decide +kernel⟩
theorem sc_m_either : FnScope ["self", "p", "q"] ["self", "p", "q"] (defScope s_m_either) := ⟨rfl, rfl, rfl, by decide +kernel, rfl, by decide +kernel, by decide +kernel⟩
theorem sc_m_if_then : FnScope ["self", "p", "q"] ["self", "p", "q"] (defScope s_m_if_then) := ⟨rfl, rfl, rfl, by decide +kernel, rfl, by decide +kernel, by decide +kernel⟩
theorem sc_m_follows : FnScope ["self", "p", "q"] ["self", "p", "q"] (defScope s_m_follows) := ⟨rfl, rfl, rfl, by decide +kernel, rfl, by decide +kernel, by decide +kernel⟩
theorem sc_m_state : FnScope ["self"] ["self"] (defScope s_m_state) := ⟨rfl, rfl, rfl, by decide +kernel, rfl, by decide +kernel, by decide +kernel⟩
/-- what the walk asks of what the top has written -/
structure Txt (K : PySem.W.Frag) (mg : Str → Option Value) (C a_PROPOSITIONS a_WORLDS_OF_LETTERS a_HOW_MANY_GIVEN : Addr) : Prop where
  cl : Cls K C
  mgC : mg "Disputation" = some (.ref C)
  len : mg "len" = none
  range : mg "range" = none
  enumerate : mg "enumerate" = none
  n_letters : NoAttr K C "letters"
  n_known : NoAttr K C "known"
  n_laid : NoAttr K C "laid"
  n_proposed : NoAttr K C "proposed"
  g_DENIED : ∃ t, mg "DENIED" = some (Value.int (0) t)
  g_CONCEDED : ∃ t, mg "CONCEDED" = some (Value.int (1) t)
  g_DOUBTED : ∃ t, mg "DOUBTED" = some (Value.int (2) t)
  g_DOES_NOT_MATTER : ∃ t, mg "DOES_NOT_MATTER" = some (Value.int (0) t)
  g_FOLLOWS_disputation : ∃ t, mg "FOLLOWS_disputation" = some (Value.int (1) t)
  g_IS_AGAINST : ∃ t, mg "IS_AGAINST" = some (Value.int (2) t)
  g_NO_SUCH_LETTER : ∃ t, mg "NO_SUCH_LETTER" = some (Value.int (-2) t)
  g_NOTHING_THERE : ∃ t, mg "NOTHING_THERE" = some (Value.int (-6) t)
  g_NOT_BEGUN : ∃ t, mg "NOT_BEGUN" = some (Value.int (-11) t)
  g_ALREADY_LAID : ∃ t, mg "ALREADY_LAID" = some (Value.int (-17) t)
  g_NOT_RIGHT : ∃ t, mg "NOT_RIGHT" = some (Value.int (-22) t)
  g_TOO_MANY : ∃ t, mg "TOO_MANY" = some (Value.int (-28) t)
  g_CANNOT_BE : ∃ t, mg "CANNOT_BE" = some (Value.int (-33) t)
  g_HIGHEST_ANSWER : ∃ t, mg "HIGHEST_ANSWER" = some (Value.int (2) t)
  g_MOST_LETTERS : ∃ t, mg "MOST_LETTERS" = some (Value.int (3) t)
  g_MOST_PROPOSED : ∃ t, mg "MOST_PROPOSED" = some (Value.int (20) t)
  g_LONGEST_ROW : ∃ t, mg "LONGEST_ROW" = some (Value.int (16) t)
  g_BEGIN : ∃ t, mg "BEGIN" = some (Value.int (0) t)
  g_LAY : ∃ t, mg "LAY" = some (Value.int (1) t)
  g_PROPOSE : ∃ t, mg "PROPOSE" = some (Value.int (2) t)
  g_BACK : ∃ t, mg "BACK" = some (Value.int (3) t)
  g_FINISH : ∃ t, mg "FINISH" = some (Value.int (4) t)
  g_LEARN : ∃ t, mg "LEARN" = some (Value.int (5) t)
  g_ANSWER : ∃ t, mg "ANSWER" = some (Value.int (6) t)
  g_ROW : ∃ t, mg "ROW" = some (Value.int (7) t)
  g_STANDS : ∃ t, mg "STANDS" = some (Value.int (8) t)
  g_MATTERS : ∃ t, mg "MATTERS" = some (Value.int (9) t)
  g_LOG : ∃ t, mg "LOG" = some (Value.int (10) t)
  g_COUNTS : ∃ t, mg "COUNTS" = some (Value.int (11) t)
  g_NTH : ∃ t, mg "NTH" = some (Value.int (12) t)
  g_TRUTH : ∃ t, mg "TRUTH" = some (Value.int (13) t)
  g_LETTER : ∃ t, mg "LETTER" = some (Value.int (14) t)
  g_NOT_OF : ∃ t, mg "NOT_OF" = some (Value.int (15) t)
  g_BOTH : ∃ t, mg "BOTH" = some (Value.int (16) t)
  g_EITHER : ∃ t, mg "EITHER" = some (Value.int (17) t)
  g_IF_THEN : ∃ t, mg "IF_THEN" = some (Value.int (18) t)
  g_FOLLOWS_granted : ∃ t, mg "FOLLOWS_granted" = some (Value.int (19) t)
  g_PROPOSITIONS : mg "PROPOSITIONS" = some (.ref a_PROPOSITIONS)
  t_PROPOSITIONS : ∀ H, SqT K H a_PROPOSITIONS [.int 0, .int 4, .int 16, .int 256]
  g_WORLDS_OF_LETTERS : mg "WORLDS_OF_LETTERS" = some (.ref a_WORLDS_OF_LETTERS)
  t_WORLDS_OF_LETTERS : ∀ H, SqT K H a_WORLDS_OF_LETTERS [.int 170, .int 204, .int 240]
  g_HOW_MANY_GIVEN : mg "HOW_MANY_GIVEN" = some (.ref a_HOW_MANY_GIVEN)
  t_HOW_MANY_GIVEN : ∀ H, SqT K H a_HOW_MANY_GIVEN [.int 2, .int 1, .int 1, .int 0, .int 0, .int 1, .int 1, .int 0, .int 0, .int 1, .int 0, .int 0, .int 2, .int 1, .int 1, .int 1, .int 2, .int 2, .int 2, .int 2, .int 0]
/-! ### 3. Calls of defs and methods whose promises are at hand -/
def HasFn (P : Program) (w : World) (K : PySem.W.Frag) (mg : Str → Option Value) (base : Heap) (x : Str) (k : Nat) (ps : List Str) (sp : Sp) : Prop :=
  ∃ (f : Addr) (fd : FuncData), mg x = some (.ref f) ∧ PySem.W.keepIn K (.ref f) = true ∧ Binds K fd ps [] ∧ FnOk P w K mg base CX0 k f fd ps sp
def HasMt (P : Program) (w : World) (K : PySem.W.Frag) (mg : Str → Option Value) (base : Heap) (C : Addr) (x : Str) (k : Nat) (ps : List Str) (sp : Sp) : Prop :=
  ∃ (f : Addr) (fd : FuncData), Meth K C x f ∧ Binds K fd ps [] ∧ FnOk P w K mg base CX0 k f fd ps sp
section
variable {X : Cx} {k : Nat} {C : Addr} {ps : List Str} {sp : Sp} {x m : Str} {p pos apos : Pos} {e o : Expr} {es : List Expr} {ta : TE} {t : TA}
theorem pe_gint {v : Int} (hg : Gl X x) (hm : ∃ t, X.mg x = some (Value.int v t)) (hd : (x == ("__debug__" : Str)) = false := by decide) : PE X (.Name x pos) (tC (.int v)) := by
  obtain ⟨t, h⟩ := hm
  exact pe_glob hg h ⟨t, rfl⟩ hd
theorem pe_fn (G : HasFn X.prog X.w X.K X.mg X.base x k ps sp) (hr : Room k X.A) (hg : Gl X x)
    (ha : PA X (e :: es) t) (hdb : (x == ("__debug__" : Str)) = false := by decide) (he : starEach (e :: es) X.env = (false, eval e X.env) :: starEach es X.env := by rfl) (hpl : (backTo pos (starEach es X.env)).any (·.1) = false := by rfl) :
    PE X (.Call (.Name x p) (e :: es) [] pos) (tCall sp [] E0 t) := by
  obtain ⟨f, fd, hm, hk, hb, F⟩ := G
  exact pe_call F hr hg hm hk hb .nil pass0 ha hdb he hpl
theorem pe_mt {pl : Sem Bool} (he : PE X o ta) (c : Cls X.K C) (G : HasMt X.prog X.w X.K X.mg X.base C m k ps sp) (hr : Room k X.A) (ha : PA X (e :: es) t)
    (hst : starEach (e :: es) X.env = (false, eval e X.env) :: starEach es X.env := by rfl) (hpl : (backTo pos (starEach es X.env)).any (·.1) = false := by rfl)
    (ht : eval (.Call (.Attribute o m apos) (e :: es) [] pos) X.env = (do
      let ov ← eval o X.env
      standAt apos.atName
      let (f, first) ← holding [ov] (getMethod ov m pl)
      callWith pos f first (backTo pos (starEach (e :: es) X.env)) (backToKw pos (keywordEach [] X.env))) := by rfl) :
    PE X (.Call (.Attribute o m apos) (e :: es) [] pos) (tMeth C m sp [] E0 ta t) := by
  obtain ⟨f, fd, hm, hb, F⟩ := G
  exact pe_meth he c hm F hr hb .nil pass0 ha hst hpl ht
theorem pe_mt0 {pl : Sem Bool} (he : PE X o ta) (c : Cls X.K C) (G : HasMt X.prog X.w X.K X.mg X.base C m k ps sp) (hr : Room k X.A)
    (ht : eval (.Call (.Attribute o m apos) [] [] pos) X.env = (do
      let ov ← eval o X.env
      standAt apos.atName
      let (f, first) ← holding [ov] (getMethod ov m pl)
      callWith pos f first (backTo pos (starEach [] X.env)) (backToKw pos (keywordEach [] X.env))) := by rfl) :
    PE X (.Call (.Attribute o m apos) [] [] pos) (tMeth C m sp [] E0 ta tNil) := by
  obtain ⟨f, fd, hm, hb, F⟩ := G
  exact pe_meth0 he c hm F hr hb .nil pass0 ht
end
theorem iteI {x y : Int} {A B : Prop} (h1 : x = y → A) (h2 : x ≠ y → B) : if decide (V.int x = V.int y) = true then A else B :=
  ite2 (fun h => h1 (V.int.inj (of_decide_eq_true h))) (fun h => h2 fun e => h (decide_eq_true (by rw [e])))
theorem iteN {x y : Int} {A B : Prop} (h1 : x ≠ y → A) (h2 : x = y → B) : if (!decide (V.int x = V.int y)) = true then A else B := by
  by_cases e : x = y
  · rw [decide_eq_true (by rw [e]), if_neg (by decide)]
    exact h2 e
  · rw [decide_eq_false (fun q => e (V.int.inj q)), if_pos (by decide)]
    exact h1 e
theorem iteP {p : Prop} [Decidable p] {A B : Prop} (h1 : p → A) (h2 : ¬ p → B) : if decide p = true then A else B :=
  ite2 (fun h => h1 (of_decide_eq_true h)) (fun h => h2 fun e => h (decide_eq_true e))
/-! ### 4. The data -/
theorem n_lk : ¬ (("letters" : Str) = "known") := by decide +kernel
theorem n_ll : ¬ (("letters" : Str) = "laid") := by decide +kernel
theorem n_lp : ¬ (("letters" : Str) = "proposed") := by decide +kernel
theorem n_kl : ¬ (("known" : Str) = "laid") := by decide +kernel
theorem n_kp : ¬ (("known" : Str) = "proposed") := by decide +kernel
theorem n_ap : ¬ (("laid" : Str) = "proposed") := by decide +kernel
def df (m k b : Nat) (l : Addr) : List (Str × V) := [("letters", .int m), ("known", .int k), ("laid", .int b), ("proposed", .ref l)]
theorem putF_cons (f : Str) (v : V) (k : Str) (x : V) (r : List (Str × V)) : putF f v ((k, x) :: r) = (if k = f then (k, v) :: r else (k, x) :: putF f v r) := rfl
theorem putF_nil (f : Str) (v : V) : putF f v [] = [(f, v)] := rfl
theorem lk_cons (f k : Str) (x : V) (r : List (Str × V)) : List.lookup f ((k, x) :: r) = if f = k then some x else List.lookup f r := by
  by_cases h : f = k
  · have hb : (f == k) = true := beq_iff_eq.mpr h
    simp only [List.lookup, hb, if_pos h]
  · have hb : (f == k) = false := beq_eq_false_iff_ne.mpr h
    simp only [List.lookup, hb, if_neg h]
section
variable (m k b v : Nat) (l l' : Addr)
theorem df_letters : (df m k b l).lookup ("letters" : Str) = some (.int m) := by
  unfold df
  rw [lk_cons, if_pos rfl]
theorem df_known : (df m k b l).lookup ("known" : Str) = some (.int k) := by
  unfold df
  rw [lk_cons, if_neg (Ne.symm n_lk), lk_cons, if_pos rfl]
theorem df_laid : (df m k b l).lookup ("laid" : Str) = some (.int b) := by
  unfold df
  rw [lk_cons, if_neg (Ne.symm n_ll), lk_cons, if_neg (Ne.symm n_kl), lk_cons, if_pos rfl]
theorem df_proposed : (df m k b l).lookup ("proposed" : Str) = some (.ref l) := by
  unfold df
  rw [lk_cons, if_neg (Ne.symm n_lp), lk_cons, if_neg (Ne.symm n_kp), lk_cons, if_neg (Ne.symm n_ap), lk_cons, if_pos rfl]
theorem df_no {x : Str} (h1 : ¬ x = "letters") (h2 : ¬ x = "known") (h3 : ¬ x = "laid") (h4 : ¬ x = "proposed") : (df m k b l).lookup x = none := by
  unfold df
  rw [lk_cons, if_neg h1, lk_cons, if_neg h2, lk_cons, if_neg h3, lk_cons, if_neg h4]
  rfl
theorem df_put_letters : putF "letters" (.int v) (df m k b l) = df v k b l := by
  unfold df
  rw [putF_cons, if_pos rfl]
theorem df_put_known : putF "known" (.int v) (df m k b l) = df m v b l := by
  unfold df
  rw [putF_cons, if_neg n_lk, putF_cons, if_pos rfl]
theorem df_put_laid : putF "laid" (.int v) (df m k b l) = df m k v l := by
  unfold df
  rw [putF_cons, if_neg n_ll, putF_cons, if_neg n_kl, putF_cons, if_pos rfl]
theorem df_put_proposed : putF "proposed" (.ref l') (df m k b l) = df m k b l' := by
  unfold df
  rw [putF_cons, if_neg n_lp, putF_cons, if_neg n_kp, putF_cons, if_neg n_ap, putF_cons, if_pos rfl]
theorem df_init : putF "proposed" (.ref l) (putF "laid" (.int b) (putF "known" (.int k) (putF "letters" (.int m) []))) = df m k b l := by
  unfold df
  have e1 : putF "known" (V.int k) (putF "letters" (V.int m) []) = ([("letters", V.int m), ("known", V.int k)] : List (Str × V)) := by
    rw [putF_nil, putF_cons, if_neg n_lk, putF_nil]
  have e2 : putF "laid" (V.int b) ([("letters", V.int m), ("known", V.int k)] : List (Str × V)) = ([("letters", V.int m), ("known", V.int k), ("laid", V.int b)] : List (Str × V)) := by
    rw [putF_cons, if_neg n_ll, putF_cons, if_neg n_kl, putF_nil]
  rw [e1, e2, putF_cons, if_neg n_lp, putF_cons, if_neg n_kp, putF_cons, if_neg n_ap, putF_nil]
theorem df_len : (df m k b l).length < 1000 := by show 4 < 1000; decide
end
/-- the pairs that a list of tuples holds -/
inductive Prs (H : Hp) : List V → List (Nat × Nat) → Prop
  | nil : Prs H [] []
  | cons {a : Addr} {xs : List V} {p q : Nat} {l : List (Nat × Nat)} : H a = some (.tup [.int p, .int q]) → Prs H xs l → Prs H (.ref a :: xs) ((p, q) :: l)
theorem Prs.len {H : Hp} : ∀ {xs : List V} {l : List (Nat × Nat)}, Prs H xs l → xs.length = l.length
  | _, _, .nil => rfl
  | _, _, .cons _ r => by rw [List.length_cons, List.length_cons, r.len]
theorem Prs.mono {H H' : Hp} (h : ∀ a p q, H a = some (.tup [.int p, .int q]) → H' a = some (.tup [.int p, .int q])) : ∀ {xs : List V} {l : List (Nat × Nat)}, Prs H xs l → Prs H' xs l
  | _, _, .nil => .nil
  | _, _, .cons e r => .cons (h _ _ _ e) (r.mono h)
theorem Prs.snoc {H : Hp} {a : Addr} {p q : Nat} (e : H a = some (.tup [.int p, .int q])) : ∀ {xs : List V} {l : List (Nat × Nat)}, Prs H xs l → Prs H (xs ++ [.ref a]) (l ++ [(p, q)])
  | _, _, .nil => .cons e .nil
  | _, _, .cons e' r => .cons e' (r.snoc e)
theorem Prs.drop {H : Hp} : ∀ {xs : List V} {l : List (Nat × Nat)}, Prs H xs l → Prs H xs.dropLast l.dropLast
  | _, _, .nil => .nil
  | _, _, .cons _ .nil => .nil
  | _, _, .cons e (.cons e' r) => .cons e (Prs.drop (.cons e' r))
theorem Prs.get {H : Hp} : ∀ {xs : List V} {l : List (Nat × Nat)} {i : Nat} {x : V}, Prs H xs l → xs[i]? = some x → ∃ a p q, x = .ref a ∧ l[i]? = some (p, q) ∧ H a = some (.tup [.int p, .int q])
  | _, _, _, _, .nil, e => by simp at e
  | _, _, 0, x, .cons (a := a) (p := p) (q := q) e' _, e => by
    have z : V.ref a = x := Option.some.inj e
    exact ⟨a, p, q, z.symm, rfl, e'⟩
  | _, _, i + 1, x, .cons _ r, e => r.get (i := i) (x := x) e
/-- the object at p, its list at l -/
structure Disp (C : Addr) (H : Hp) (p l : Addr) (m k b : Nat) (said : List (Nat × Nat)) : Prop where
  ob : ∃ dx, H p = some (.ins C dx (df m k b l))
  lst : ∃ xs, H l = some (.lst xs) ∧ Prs H xs said
theorem Disp.ne {C : Addr} {H : Hp} {p l : Addr} {m k b : Nat} {said : List (Nat × Nat)} (D : Disp C H p l m k b said) : p ≠ l := by
  obtain ⟨⟨dx, h⟩, xs, h2, _⟩ := D
  exact ne_of h h2 (by intro z; cases z)
/-- all but what stands at p and l -/
def Fr (H H' : Hp) (p l : Addr) : Prop := ∀ b o, H b = some o → b ≠ p → b ≠ l → H' b = some o
theorem Fr.refl {H : Hp} {p l : Addr} : Fr H H p l := fun _ _ h _ _ => h
theorem fresh_same {H : Hp} {r : Addr} {o : HO} (h : H r = none) : Same H (upd H r o) := fun b q e => by rw [upd_ne (ne_of_none e h)]; exact e
theorem Disp.keep {C : Addr} {H H' : Hp} {p l : Addr} {m k b : Nat} {said : List (Nat × Nat)} (D : Disp C H p l m k b said) (s : Same H H') : Disp C H' p l m k b said := by
  obtain ⟨⟨dx, h⟩, xs, h2, r⟩ := D
  exact ⟨⟨dx, s _ _ h⟩, xs, s _ _ h2, r.mono fun _ _ _ e => s _ _ e⟩
/-- what is always so of a disputation -/
structure Good (h : Krb7.House) : Prop where
  m : M h.m
  k0 : 0 < h.known
  k1 : h.known ≤ Krb7.full h.m
  b : ∀ p, h.laid = some p → 0 < p ∧ p ≤ Krb7.full h.m
  s : ∀ x ∈ h.said, x.1 ≤ Krb7.full h.m
  n : h.said.length ≤ 20
  e : h.laid = none → h.said = []
def At (C : Addr) (H : Hp) (p l : Addr) : Krb7.Abs → Prop
  | none => Disp C H p l 0 0 0 []
  | some h => Good h ∧ Disp C H p l h.m h.known (h.laid.getD 0) h.said
theorem At.keep {C : Addr} {H H' : Hp} {p l : Addr} (s : Same H H') : ∀ {a : Krb7.Abs}, At C H p l a → At C H' p l a
  | none, D => Disp.keep D s
  | some _, ⟨g, D⟩ => ⟨g, Disp.keep D s⟩
/-- a call's end -/
def After (C : Addr) (H : Hp) (p l : Addr) (y : Krb7.Abs × Krb7.Ans) (Q : VK) : Prop :=
  ∀ (H' : Hp) (l' r : Addr), At C H' p l' y.1 → (l' = l ∨ H l' = none) → H r = none → H' r = some (.lst ((Krb7Neutral.told y.2).map V.int)) → Fr H H' p l → Q (.ref r) H'
/-- nothing changes, a new list is given back -/
theorem After.read {C : Addr} {H : Hp} {p l : Addr} {a : Krb7.Abs} {y : Krb7.Abs × Krb7.Ans} {Q : VK} {xs : List V} (k : After C H p l y Q) (A : At C H p l a) (ey : y.1 = a) (ex : xs = (Krb7Neutral.told y.2).map V.int) :
    ∀ r, H r = none → Q (.ref r) (upd H r (.lst xs)) := fun r hr => by
  refine k _ l r ?_ (.inl rfl) hr (by rw [upd_same, ex]) fun b o e _ _ => fresh_same hr b o e
  rw [ey]
  exact A.keep (fresh_same hr)
/-- a method that answers a call: args are its arguments -/
def spM (C : Addr) (ar : List V → Hp → Krb7.Call → Prop) (n : Nat) : Sp := fun vs H Q _ => vs.length = n ∧ ∃ (p l : Addr) (h : Krb7.House) (c : Krb7.Call) (args : List V), vs = .ref p :: args ∧ ar args H c ∧ At C H p l (some h) ∧ After C H p l (Krb7.act (some h) c) Q
theorem laid_le {h : Krb7.House} (g : Good h) : h.laid.getD 0 ≤ Krb7.full h.m := by
  cases e : h.laid with
  | none => exact Nat.zero_le _
  | some p => exact (g.b p e).2
theorem laid_zero {h : Krb7.House} (g : Good h) : h.laid.getD 0 = 0 ↔ h.laid = none := by
  cases e : h.laid with
  | none => exact ⟨fun _ => rfl, fun _ => rfl⟩
  | some p =>
    have := (g.b p e).1
    constructor
    · intro z
      have z' : p = 0 := z
      omega
    · intro z
      cases z
theorem base_le {h : Krb7.House} (g : Good h) : h.base ≤ Krb7.full h.m := stands_le _ (laid_le g)
end Ht

set_option Elab.async false
set_option linter.all false
set_option maxRecDepth 100000
set_option maxHeartbeats 2000000
namespace Ht
open PySem PySem.Spec PyProof.Rows L2
/-! ### 5. The defs upon numbers -/
def spVerdict : Sp := fun vs H Q _ => ∃ a b : Nat, vs = [.int a, .int b] ∧ Q (.int (Krb7.truth a b : Nat)) H
def spBearing : Sp := fun vs H Q _ => ∃ a b : Nat, vs = [.int a, .int b] ∧ Q (.int (Krb7.why a b : Nat)) H
def spRight : Sp := fun vs H Q _ => ∃ b k p : Nat, vs = [.int b, .int k, .int p] ∧ Q (.int (Krb7.right k b p : Nat)) H
def spNarrow : Sp := fun vs H Q _ => ∃ m b p a : Nat, vs = [.int b, .int p, .int a] ∧ M m ∧ b ≤ Krb7.full m ∧ p ≤ Krb7.full m ∧ Q (.int (Krb7.behind m b p a : Nat)) H
def spCount : Sp := fun vs H Q _ => ∃ a : Nat, vs = [.int a] ∧ a ≤ 255 ∧ Q (.int (pc 8 a : Nat)) H
section
variable {P : Program} {w : World} {K : PySem.W.Frag} {mg : Str → Option Value} {base : Heap} {f C a_PROPOSITIONS a_WORLDS_OF_LETTERS a_HOW_MANY_GIVEN : Addr} {fd : FuncData}
theorem ok_f_verdict (F : Fun K "verdict" "verdict" s_f_verdict f fd) (T : Txt K mg C a_PROPOSITIONS a_WORLDS_OF_LETTERS a_HOW_MANY_GIVEN) : FnOk P w K mg base CX0 1 f fd ["worlds", "p"] spVerdict := by
  refine F.ok sc_f_verdict (fun vs H Q E h => ?_) (fun cdv A outer s H vs Q E hr h => ?_)
  · obtain ⟨a, b, rfl, _⟩ := h
    rfl
  · obtain ⟨a, b, rfl, k⟩ := h
    refine ⟨_, (pss_cons (ps_set (i := 2) sc_f_verdict.nd rfl (Or.inl rfl) (pe_op op_and (pv 0) (pv 1)))
      (pss_cons (ps_if (pt_cmpR op_eq (pv 2) (pv 0) (nomark _)) (pss_one (ps_ret (pe_gint rfl T.g_CONCEDED))) pss_nil)
      (pss_cons (ps_if (pt_cmpR op_eq (pv 2) pe_int (nomark _)) (pss_one (ps_ret (pe_gint rfl T.g_DENIED))) pss_nil)
      (pss_one (ps_ret (pe_gint rfl T.g_DOUBTED)))))), ?_⟩
    rw [truth_eq] at k
    refine ⟨_, rfl, _, rfl, _, _, rfl, rfl, ?_⟩
    refine ⟨_, rfl, _, rfl, rfl, _, rfl, ?_⟩
    show if decide (V.int (Builtin.bitAnd (a : Int) (b : Int)) = V.int a) = true then _ else _
    rw [band]
    refine iteI (fun e => ?_) (fun e => ?_)
    · rw [if_pos (Int.ofNat.inj e)] at k
      exact k
    · rw [if_neg (fun q => e (congrArg Int.ofNat q))] at k
      refine ⟨_, rfl, rfl, _, rfl, ?_⟩
      show if decide (V.int (Builtin.bitAnd (a : Int) (b : Int)) = V.int (0 : Nat)) = true then _ else _
      rw [band]
      refine iteI (fun e => ?_) (fun e => ?_)
      · rw [if_pos (Int.ofNat.inj e)] at k
        exact k
      · rw [if_neg (fun q => e (congrArg Int.ofNat q))] at k
        exact k
theorem ok_f_bearing (F : Fun K "bearing" "bearing" s_f_bearing f fd) (T : Txt K mg C a_PROPOSITIONS a_WORLDS_OF_LETTERS a_HOW_MANY_GIVEN) (G_f_verdict : HasFn P w K mg base "verdict" 1 ["worlds", "p"] spVerdict) : FnOk P w K mg base CX0 2 f fd ["standing", "p"] spBearing := by
  refine F.ok sc_f_bearing (fun vs H Q E h => ?_) (fun cdv A outer s H vs Q E hr h => ?_)
  · obtain ⟨a, b, rfl, _⟩ := h
    rfl
  · obtain ⟨a, b, rfl, k⟩ := h
    refine ⟨_, (pss_cons (ps_set (i := 2) sc_f_bearing.nd rfl (Or.inl rfl) (pe_fn G_f_verdict (hr.mono (by decide)) rfl (pa_cons (pv 0) (pa_cons (pv 1) pa_nil))))
      (pss_cons (ps_if (pt_cmpR op_eq (pv 2) (pe_gint rfl T.g_CONCEDED) (nomark _)) (pss_one (ps_ret (pe_gint rfl T.g_FOLLOWS_disputation))) pss_nil)
      (pss_cons (ps_if (pt_cmpR op_eq (pv 2) (pe_gint rfl T.g_DENIED) (nomark _)) (pss_one (ps_ret (pe_gint rfl T.g_IS_AGAINST))) pss_nil)
      (pss_one (ps_ret (pe_gint rfl T.g_DOES_NOT_MATTER)))))), ?_⟩
    rw [why_eq] at k
    refine ⟨_, rfl, _, rfl, a, b, rfl, ?_⟩
    refine ⟨_, rfl, rfl, _, rfl, ?_⟩
    show if decide (V.int (Krb7.truth a b : Nat) = V.int (1 : Nat)) = true then _ else _
    refine iteI (fun e => ?_) (fun e => ?_)
    · rw [if_pos (Int.ofNat.inj e)] at k
      exact k
    · rw [if_neg (fun q => e (congrArg Int.ofNat q))] at k
      refine ⟨_, rfl, rfl, _, rfl, ?_⟩
      show if decide (V.int (Krb7.truth a b : Nat) = V.int (0 : Nat)) = true then _ else _
      refine iteI (fun e => ?_) (fun e => ?_)
      · rw [if_pos (Int.ofNat.inj e)] at k
        exact k
      · rw [if_neg (fun q => e (congrArg Int.ofNat q))] at k
        exact k
theorem ok_f_right_answer (F : Fun K "right_answer" "right_answer" s_f_right_answer f fd) (T : Txt K mg C a_PROPOSITIONS a_WORLDS_OF_LETTERS a_HOW_MANY_GIVEN) (G_f_verdict : HasFn P w K mg base "verdict" 1 ["worlds", "p"] spVerdict) (G_f_bearing : HasFn P w K mg base "bearing" 2 ["standing", "p"] spBearing) : FnOk P w K mg base CX0 3 f fd ["standing", "known", "p"] spRight := by
  refine F.ok sc_f_right_answer (fun vs H Q E h => ?_) (fun cdv A outer s H vs Q E hr h => ?_)
  · obtain ⟨b, a, p, rfl, _⟩ := h
    rfl
  · obtain ⟨b, a, p, rfl, k⟩ := h
    refine ⟨_, (pss_cons (ps_if (pt_cmpR op_eq (pe_fn G_f_bearing (hr.mono (by decide)) rfl (pa_cons (pv 0) (pa_cons (pv 2) pa_nil))) (pe_gint rfl T.g_DOES_NOT_MATTER) (nomark _)) (pss_one (ps_ret (pe_fn G_f_verdict (hr.mono (by decide)) rfl (pa_cons (pv 1) (pa_cons (pv 2) pa_nil))))) pss_nil)
      (pss_one (ps_ret (pe_fn G_f_verdict (hr.mono (by decide)) rfl (pa_cons (pv 0) (pa_cons (pv 2) pa_nil)))))), ?_⟩
    rw [right_eq] at k
    refine ⟨_, rfl, _, rfl, b, p, rfl, rfl, _, rfl, ?_⟩
    show if decide (V.int (Krb7.why b p : Nat) = V.int (0 : Nat)) = true then _ else _
    refine iteI (fun e => ?_) (fun e => ?_)
    · rw [if_pos (Int.ofNat.inj e)] at k
      exact ⟨_, rfl, _, rfl, a, p, rfl, k⟩
    · rw [if_neg (fun q => e (congrArg Int.ofNat q))] at k
      exact ⟨_, rfl, _, rfl, b, p, rfl, k⟩
theorem ok_f_narrowed (F : Fun K "narrowed" "narrowed" s_f_narrowed f fd) (T : Txt K mg C a_PROPOSITIONS a_WORLDS_OF_LETTERS a_HOW_MANY_GIVEN) : FnOk P w K mg base CX0 1 f fd ["standing", "p", "answer"] spNarrow := by
  refine F.ok sc_f_narrowed (fun vs H Q E h => ?_) (fun cdv A outer s H vs Q E hr h => ?_)
  · obtain ⟨m, b, p, a, rfl, _⟩ := h
    rfl
  · obtain ⟨m, b, p, a, rfl, hm, hb, hp, k⟩ := h
    refine ⟨_, (pss_cons (ps_if (pt_cmpR op_eq (pv 2) (pe_gint rfl T.g_CONCEDED) (nomark _)) (pss_one (ps_ret (pe_op op_and (pv 0) (pv 1)))) pss_nil)
      (pss_cons (ps_if (pt_cmpR op_eq (pv 2) (pe_gint rfl T.g_DENIED) (nomark _)) (pss_one (ps_ret (pe_op op_and (pv 0) (pe_un un_inv (pv 1))))) pss_nil)
      (pss_one (ps_ret (pv 0))))), ?_⟩
    unfold Krb7.behind at k
    refine ⟨_, rfl, rfl, _, rfl, ?_⟩
    show if decide (V.int (a : Nat) = V.int (1 : Nat)) = true then _ else _
    refine iteI (fun e => ?_) (fun e => ?_)
    · rw [if_pos (Int.ofNat.inj e)] at k
      refine ⟨_, rfl, _, rfl, _, _, rfl, rfl, ?_⟩
      show Q (.int (Builtin.bitAnd (b : Int) (p : Int))) H
      rw [band]
      exact k
    · rw [if_neg (fun q => e (congrArg Int.ofNat q))] at k
      refine ⟨_, rfl, rfl, _, rfl, ?_⟩
      show if decide (V.int (a : Nat) = V.int (0 : Nat)) = true then _ else _
      refine iteI (fun e => ?_) (fun e => ?_)
      · rw [if_pos (Int.ofNat.inj e)] at k
        refine ⟨_, rfl, _, rfl, _, rfl, _, _, rfl, rfl, ?_⟩
        show Q (.int (Builtin.bitAnd (b : Int) (Builtin.bitNot (p : Int)))) H
        rw [bandn, minus_full hm hb hp]
        exact k
      · rw [if_neg (fun q => e (congrArg Int.ofNat q))] at k
        exact ⟨_, rfl, k⟩
theorem ok_f_how_many_worlds (F : Fun K "how_many_worlds" "how_many_worlds" s_f_how_many_worlds f fd) (T : Txt K mg C a_PROPOSITIONS a_WORLDS_OF_LETTERS a_HOW_MANY_GIVEN) : FnOk P w K mg base CX0 1 f fd ["worlds"] spCount := by
  refine F.ok sc_f_how_many_worlds (fun vs H Q E h => ?_) (fun cdv A outer s H vs Q E hr h => ?_)
  · obtain ⟨a, rfl, _⟩ := h
    rfl
  · obtain ⟨a, rfl, ha, k⟩ := h
    refine ⟨_, (pss_cons (ps_set (i := 1) sc_f_how_many_worlds.nd rfl (Or.inl rfl) pe_int)
      (pss_cons (ps_set (i := 2) sc_f_how_many_worlds.nd rfl (Or.inl rfl) (pv 0))
      (pss_cons (ps_while PassesOwn.never (pt_cmpR op_gt (pv 2) pe_int (nomark _)) (pss_cons (ps_set (i := 1) sc_f_how_many_worlds.nd rfl (Or.inl rfl) (pe_op op_add (pv 1) (pe_op op_mod (pv 2) pe_int)))
      (pss_one (ps_set (i := 2) sc_f_how_many_worlds.nd rfl (Or.inl rfl) (pe_op op_fdiv (pv 2) pe_int)))))
      (pss_one (ps_ret (pv 1)))))), ?_⟩
    refine ⟨_, rfl, ?_⟩
    refine ⟨fun n σ H' => ∃ (d f : Nat), σ = [some (.int a), some (.int d), some (.int n)] ∧ H' = H ∧ d + pc f n = pc 8 a ∧ n < 2 ^ f, ⟨a, 0, 8, rfl, rfl, Nat.zero_add _, by show a < 256; omega⟩, ?_⟩
    rintro n σ H' ⟨d, f, rfl, rfl, e, hn⟩
    refine ⟨_, rfl, _, _, rfl, rfl, _, rfl, ?_⟩
    show if decide ((0 : Int) < (n : Int)) = true then _ else _
    refine iteP (fun h0 => ?_) (fun h0 => ?_)
    · cases f with
      | zero =>
        exfalso
        have : n < 1 := hn
        omega
      | succ f =>
        refine ⟨fun σ' H2 => ∃ (d f : Nat), σ' = [some (.int a), some (.int d), some (.int (n / 2 : Nat))] ∧ H2 = H' ∧ d + pc f (n / 2) = pc 8 a ∧ n / 2 < 2 ^ f, fun σ' H2 h => ⟨n / 2, by omega, h⟩, ?_⟩
        refine ⟨_, rfl, _, rfl, _, _, rfl, rfl, (by show (0 : Int) < 2; decide), _, _, rfl, rfl, ?_⟩
        refine ⟨_, rfl, _, _, rfl, rfl, ⟨by decide, by decide⟩, ?_⟩
        refine ⟨d + n % 2, f, ?_, rfl, ?_, ?_⟩
        · show [some (V.int a), some (V.int ((d : Int) + (n : Int) % 2)), some (V.int ((n : Int) / 2))] = _
          have e1 : (d : Int) + (n : Int) % 2 = ((d + n % 2 : Nat) : Int) := by omega
          have e2 : (n : Int) / 2 = ((n / 2 : Nat) : Int) := by omega
          rw [e1, e2]
        · have e' : d + (n % 2 + pc f (n / 2)) = pc 8 a := e
          omega
        · have : n < 2 ^ f * 2 := hn
          omega
    · have z : n = 0 := by omega
      subst z
      rw [pc_zero, Nat.add_zero] at e
      refine ⟨_, rfl, ?_⟩
      rw [e]
      exact k
end
end Ht

set_option Elab.async false
set_option linter.all false
set_option maxRecDepth 100000
set_option maxHeartbeats 2000000
namespace Ht
open PySem PySem.Spec PyProof.Rows L2
/-! ### 6. The methods that others call -/
theorem take_snoc {α : Type} : ∀ {l : List α} {i : Nat} {x : α}, l[i]? = some x → l.take (i + 1) = l.take i ++ [x]
  | [], i, x, h => by simp at h
  | a :: l, 0, x, h => by
    have e : a = x := Option.some.inj h
    subst e
    rfl
  | a :: l, i + 1, x, h => by
    have ih := take_snoc (l := l) (i := i) (x := x) h
    show a :: l.take (i + 1) = a :: l.take i ++ [x]
    rw [ih]
    rfl
def spBegun (C : Addr) : Sp := fun vs H Q _ => ∃ (p dx l : Addr) (m k b : Nat), vs = [.ref p] ∧ H p = some (.ins C dx (df m k b l)) ∧ Q (.bl (decide ((0 : Int) < (m : Nat)))) H
def spIsProp (C : Addr) : Sp := fun vs H Q _ => ∃ (p dx l : Addr) (m k b x : Nat), vs = [.ref p, .int x] ∧ M m ∧ H p = some (.ins C dx (df m k b l)) ∧ Q (.bl (decide (x ≤ Krb7.full m))) H
def spStanding (C : Addr) : Sp := fun vs H Q _ => ∃ (p l : Addr) (m k b : Nat) (said : List (Nat × Nat)), vs = [.ref p] ∧ M m ∧ b ≤ Krb7.full m ∧ (∀ x ∈ said, x.1 ≤ Krb7.full m) ∧ Disp C H p l m k b said ∧ Q (.int (Krb7.stands m b said : Nat)) H
def spTally (C : Addr) : Sp := fun vs H Q _ => ∃ (p l : Addr) (m k b a t : Nat) (said : List (Nat × Nat)), vs = [.ref p, .int a, .int t] ∧ Disp C H p l m k b said ∧ Q (.int ((said.filter fun x => x.2 == a && Krb7.truth k x.1 == t).length : Nat)) H
def spRefusal (C : Addr) : Sp := fun vs H Q _ => ∃ (p l : Addr) (h : Krb7.House) (x : Nat), vs = [.ref p, .int x] ∧ At C H p l (some h) ∧ (Krb7.full h.m < x → Q (.int (-22)) H) ∧ (x ≤ Krb7.full h.m → h.laid = none → Q (.int (-6)) H) ∧ (x ≤ Krb7.full h.m → h.laid ≠ none → Q (.int 0) H)
section
variable {P : Program} {w : World} {K : PySem.W.Frag} {mg : Str → Option Value} {base : Heap} {f C a_PROPOSITIONS a_WORLDS_OF_LETTERS a_HOW_MANY_GIVEN : Addr} {fd : FuncData}
theorem ok_m_has_begun (F : Fun K "has_begun" "Disputation.has_begun" s_m_has_begun f fd) (T : Txt K mg C a_PROPOSITIONS a_WORLDS_OF_LETTERS a_HOW_MANY_GIVEN) : FnOk P w K mg base CX0 1 f fd ["self"] (spBegun C) := by
  refine F.ok sc_m_has_begun (fun vs H Q E h => ?_) (fun cdv A outer s H vs Q E hr h => ?_)
  · obtain ⟨p, dx, l, m, a, b, rfl, _⟩ := h
    rfl
  · obtain ⟨p, dx, l, m, a, b, rfl, hp, k⟩ := h
    refine ⟨_, (pss_one (ps_ret (pe_cmpR op_gt (pe_fld (pv 0) rfl) pe_int (nomark _)))), ?_⟩
    exact ⟨_, rfl, p, C, dx, _, _, rfl, hp, T.cl, T.n_letters, df_letters _ _ _ _, _, _, rfl, rfl, k⟩
theorem ok_m_is_proposition (F : Fun K "is_proposition" "Disputation.is_proposition" s_m_is_proposition f fd) (T : Txt K mg C a_PROPOSITIONS a_WORLDS_OF_LETTERS a_HOW_MANY_GIVEN) : FnOk P w K mg base CX0 1 f fd ["self", "p"] (spIsProp C) := by
  refine F.ok sc_m_is_proposition (fun vs H Q E h => ?_) (fun cdv A outer s H vs Q E hr h => ?_)
  · obtain ⟨p, dx, l, m, a, b, x, rfl, _⟩ := h
    rfl
  · obtain ⟨p, dx, l, m, a, b, x, rfl, hm, hp, k⟩ := h
    refine ⟨_, (pss_one (ps_ret (pe_cmpR op_lt (pv 1) (pe_ix ix_tup (pe_glob (v := .ref a_PROPOSITIONS) rfl T.g_PROPOSITIONS rfl) (pe_fld (pv 0) rfl) (fun _ _ => rfl)) (nomark _)))), ?_⟩
    obtain ⟨n, hn, en⟩ : ∃ n : Nat, ([.int 0, .int 4, .int 16, .int 256] : List V)[m]? = some (.int (n : Nat)) ∧ n = Krb7.full m + 1 := by
      rcases hm with rfl | rfl | rfl
      · exact ⟨4, rfl, rfl⟩
      · exact ⟨16, rfl, rfl⟩
      · exact ⟨256, rfl, rfl⟩
    refine ⟨_, rfl, _, rfl, p, C, dx, _, _, rfl, hp, T.cl, T.n_letters, df_letters _ _ _ _, _, _, _, _, rfl, rfl, T.t_PROPOSITIONS _, atI_nat hn, _, _, rfl, rfl, ?_⟩
    have e : decide ((x : Int) < (n : Int)) = decide (x ≤ Krb7.full m) := by
      subst en
      by_cases h : x ≤ Krb7.full m
      · rw [decide_eq_true h, decide_eq_true (by omega)]
      · rw [decide_eq_false h, decide_eq_false (by omega)]
    show Q (.bl (decide ((x : Int) < (n : Int)))) H
    rw [e]
    exact k
theorem ok_m_standing (F : Fun K "standing" "Disputation.standing" s_m_standing f fd) (T : Txt K mg C a_PROPOSITIONS a_WORLDS_OF_LETTERS a_HOW_MANY_GIVEN) (G_f_narrowed : HasFn P w K mg base "narrowed" 1 ["standing", "p", "answer"] spNarrow) : FnOk P w K mg base CX0 2 f fd ["self"] (spStanding C) := by
  refine F.ok sc_m_standing (fun vs H Q E h => ?_) (fun cdv A outer s H vs Q E hr h => ?_)
  · obtain ⟨p, l, m, a, b, said, rfl, _⟩ := h
    rfl
  · obtain ⟨p, l, m, a, b, said, rfl, hm, hb, hs, D, k⟩ := h
    obtain ⟨⟨dx, hp⟩, xs, hl, pr⟩ := id D
    refine ⟨_, (pss_cons (ps_set (i := 1) sc_m_standing.nd rfl (Or.inl rfl) (pe_fld (pv 0) rfl))
      (pss_cons (ps_for PassesOwn.never rfl (pi_list (pe_fld (pv 0) rfl)) (pg_tup rfl (pgs_cons (pg_name (i := 2) sc_m_standing.nd rfl (Or.inl rfl)) (pgs_cons (pg_name (i := 3) sc_m_standing.nd rfl (Or.inl rfl)) pgs_nil))) (pss_one (ps_set (i := 1) sc_m_standing.nd rfl (Or.inl rfl) (pe_fn G_f_narrowed (hr.mono (by decide)) rfl (pa_cons (pv 1) (pa_cons (pv 2) (pa_cons (pv 3) pa_nil)))))))
      (pss_one (ps_ret (pv 1))))), ?_⟩
    refine ⟨_, rfl, p, C, dx, _, _, rfl, hp, T.cl, T.n_laid, df_laid _ _ _ _, ?_⟩
    refine ⟨_, rfl, p, C, dx, _, _, rfl, hp, T.cl, T.n_proposed, df_proposed _ _ _ _, l, rfl, ⟨_, SqL.of hl⟩,
      for_list (K := K) (a := l) (xs := xs) (fun i σ H' => H' = H ∧ ∃ u v : Option V, σ = [some (.ref p), some (.int (Krb7.stands m b (said.take i) : Nat)), u, v]) ⟨rfl, none, none, rfl⟩ (fun i σ H' _ ⟨e, _⟩ => by rw [e]; exact SqL.of hl) ?_ ?_⟩
    · rintro i y σ H' hi ⟨rfl, u, v, rfl⟩
      obtain ⟨c, x, q, rfl, hx, hc⟩ := pr.get hi
      refine ⟨c, _, rfl, SqT.of hc, rfl, _, _, rfl, _, _, rfl, rfl, ?_⟩
      have hle : Krb7.stands m b (said.take i) ≤ Krb7.full m := stands_le _ hb
      have hx1 : x ≤ Krb7.full m := hs (x, q) (List.mem_of_getElem? hx)
      refine ⟨_, rfl, _, rfl, _, rfl, m, Krb7.stands m b (said.take i), x, q, rfl, hm, hle, hx1, rfl, some (.int x), some (.int q), ?_⟩
      rw [take_snoc hx, stands_snoc]
      rfl
    · rintro σ H' ⟨rfl, u, v, rfl⟩
      refine ⟨_, rfl, ?_⟩
      rw [List.take_of_length_le (by rw [pr.len]; exact Nat.le_refl _)]
      exact k
theorem tally_snoc (k a t x q : Nat) (l : List (Nat × Nat)) : ((l ++ [(x, q)]).filter fun x => x.2 == a && Krb7.truth k x.1 == t).length = (l.filter fun x => x.2 == a && Krb7.truth k x.1 == t).length + (if q = a ∧ Krb7.truth k x = t then 1 else 0) := by
  rw [List.filter_append, List.length_append]
  congr 1
  by_cases h : q = a ∧ Krb7.truth k x = t
  · rw [if_pos h, List.filter_cons, if_pos (by simp [h.1, h.2])]
    rfl
  · rw [if_neg h, List.filter_cons, if_neg (by simpa using h)]
    rfl
theorem ok_m_how_many_proposed (F : Fun K "how_many_proposed" "Disputation.how_many_proposed" s_m_how_many_proposed f fd) (T : Txt K mg C a_PROPOSITIONS a_WORLDS_OF_LETTERS a_HOW_MANY_GIVEN) (G_f_verdict : HasFn P w K mg base "verdict" 1 ["worlds", "p"] spVerdict) : FnOk P w K mg base CX0 2 f fd ["self", "answer", "by_known"] (spTally C) := by
  refine F.ok sc_m_how_many_proposed (fun vs H Q E h => ?_) (fun cdv A outer s H vs Q E hr h => ?_)
  · obtain ⟨p, l, m, kn, b, a, t, said, rfl, _⟩ := h
    rfl
  · obtain ⟨p, l, m, kn, b, a, t, said, rfl, D, k⟩ := h
    obtain ⟨⟨dx, hp⟩, xs, hl, pr⟩ := id D
    refine ⟨_, (pss_cons (ps_set (i := 3) sc_m_how_many_proposed.nd rfl (Or.inl rfl) pe_int)
      (pss_cons (ps_for PassesOwn.never rfl (pi_list (pe_fld (pv 0) rfl)) (pg_tup rfl (pgs_cons (pg_name (i := 4) sc_m_how_many_proposed.nd rfl (Or.inl rfl)) (pgs_cons (pg_name (i := 5) sc_m_how_many_proposed.nd rfl (Or.inl rfl)) pgs_nil))) (pss_one (ps_if (PW.pt (pw_and (pt_cmpR op_eq (pv 5) (pv 1) (nomark _)) (pw_and1 (pt_cmpR op_eq (pe_fn G_f_verdict (hr.mono (by decide)) rfl (pa_cons (pe_fld (pv 0) rfl) (pa_cons (pv 4) pa_nil))) (pv 2) (nomark _))))) (pss_one (ps_set (i := 3) sc_m_how_many_proposed.nd rfl (Or.inl rfl) (pe_op op_add (pv 3) pe_int))) pss_nil)))
      (pss_one (ps_ret (pv 3))))), ?_⟩
    refine ⟨_, rfl, p, C, dx, _, _, rfl, hp, T.cl, T.n_proposed, df_proposed _ _ _ _, l, rfl, ⟨_, SqL.of hl⟩,
      for_list (K := K) (a := l) (xs := xs) (fun i σ H' => H' = H ∧ ∃ u v : Option V, σ = [some (.ref p), some (.int a), some (.int t), some (.int (((said.take i).filter fun x => x.2 == a && Krb7.truth kn x.1 == t).length : Nat)), u, v]) ⟨rfl, none, none, rfl⟩ (fun i σ H' _ ⟨e, _⟩ => by rw [e]; exact SqL.of hl) ?_ ?_⟩
    · rintro i y σ H' hi ⟨rfl, u, v, rfl⟩
      obtain ⟨c, x, q, rfl, hx, hc⟩ := pr.get hi
      refine ⟨c, _, rfl, SqT.of hc, rfl, _, _, rfl, _, _, rfl, rfl, ?_⟩
      refine ⟨_, rfl, _, rfl, rfl, _, rfl, ?_⟩
      show if decide (V.int (q : Nat) = V.int (a : Nat)) = true then _ else _
      refine iteI (fun e => ?_) (fun e => ?_)
      · refine ⟨_, rfl, p, C, dx, _, _, rfl, hp, T.cl, T.n_known, df_known _ _ _ _, _, rfl, kn, x, rfl, _, rfl, rfl, _, rfl, ?_⟩
        show if decide (V.int (Krb7.truth kn x : Nat) = V.int (t : Nat)) = true then _ else _
        refine iteI (fun e2 => ?_) (fun e2 => ?_)
        · refine ⟨_, rfl, _, _, rfl, rfl, rfl, some (.int x), some (.int q), ?_⟩
          rw [take_snoc hx, tally_snoc, if_pos ⟨Int.ofNat.inj e, Int.ofNat.inj e2⟩]
          rfl
        · refine ⟨rfl, some (.int x), some (.int q), ?_⟩
          rw [take_snoc hx, tally_snoc, if_neg (fun z => e2 (congrArg Int.ofNat z.2))]
          rfl
      · refine iteF ⟨rfl, some (.int x), some (.int q), ?_⟩
        rw [take_snoc hx, tally_snoc, if_neg (fun z => e (congrArg Int.ofNat z.1))]
        rfl
    · rintro σ H' ⟨rfl, u, v, rfl⟩
      refine ⟨_, rfl, ?_⟩
      rw [List.take_of_length_le (by rw [pr.len]; exact Nat.le_refl _)]
      exact k
theorem ok_m_refusal (F : Fun K "refusal" "Disputation.refusal" s_m_refusal f fd) (T : Txt K mg C a_PROPOSITIONS a_WORLDS_OF_LETTERS a_HOW_MANY_GIVEN) (G_m_is_proposition : HasMt P w K mg base C "is_proposition" 1 ["self", "p"] (spIsProp C)) : FnOk P w K mg base CX0 2 f fd ["self", "p"] (spRefusal C) := by
  refine F.ok sc_m_refusal (fun vs H Q E h => ?_) (fun cdv A outer s H vs Q E hr h => ?_)
  · obtain ⟨p, l, h, x, rfl, _⟩ := h
    rfl
  · obtain ⟨p, l, h, x, rfl, ⟨g, D⟩, k1, k2, k3⟩ := h
    obtain ⟨⟨dx, hp⟩, xs, hl, pr⟩ := id D
    refine ⟨_, (pss_cons (ps_if (pt_not (pt_val (pe_mt (pv 0) T.cl G_m_is_proposition (hr.mono (by decide)) (pa_cons (pv 1) pa_nil)))) (pss_one (ps_ret (pe_gint rfl T.g_NOT_RIGHT))) pss_nil)
      (pss_cons (ps_if (pt_cmpR op_eq (pe_fld (pv 0) rfl) pe_int (nomark _)) (pss_one (ps_ret (pe_gint rfl T.g_NOTHING_THERE))) pss_nil)
      (pss_one (ps_ret pe_int)))), ?_⟩
    refine ⟨_, rfl, p, dx, _, rfl, hp, df_no _ _ _ _ (by decide +kernel) (by decide +kernel) (by decide +kernel) (by decide +kernel), _, rfl, p, dx, l, _, _, _, x, rfl, g.m, hp, _, rfl, ?_⟩
    by_cases hx : x ≤ Krb7.full h.m
    · rw [decide_eq_true hx]
      refine iteF ?_
      refine ⟨_, rfl, p, C, dx, _, _, rfl, hp, T.cl, T.n_laid, df_laid _ _ _ _, rfl, _, rfl, ?_⟩
      show if decide (V.int (h.laid.getD 0 : Nat) = V.int (0 : Nat)) = true then _ else _
      refine iteI (fun e => ?_) (fun e => ?_)
      · exact k2 hx ((laid_zero g).mp (Int.ofNat.inj e))
      · exact k3 hx fun z => e (congrArg Int.ofNat ((laid_zero g).mpr z))
    · rw [decide_eq_false hx]
      exact iteT (k1 (Nat.lt_of_not_le hx))
end
end Ht

set_option Elab.async false
set_option linter.all false
set_option maxRecDepth 100000
set_option maxHeartbeats 2000000
namespace Ht
open PySem PySem.Spec PyProof.Rows L2
/-! ### 7. The methods that change the object -/
theorem none_of_upd {H : Hp} {a b : Addr} {o : HO} (h : upd H a o b = none) : H b = none := by
  by_cases e : b = a
  · subst e
    rw [upd_same] at h
    cases h
  · rwa [upd_ne e] at h
theorem ne_of_upd {H : Hp} {a b : Addr} {o : HO} (h : upd H a o b = none) : b ≠ a := by
  intro e
  subst e
  rw [upd_same] at h
  cases h
theorem dno (m k b : Nat) (l : Addr) {x : Str} (h : ¬ (x = "letters" ∨ x = "known" ∨ x = "laid" ∨ x = "proposed") := by decide +kernel) : (df m k b l).lookup x = none :=
  df_no _ _ _ _ (fun e => h (.inl e)) (fun e => h (.inr (.inl e))) (fun e => h (.inr (.inr (.inl e)))) (fun e => h (.inr (.inr (.inr e))))
theorem s1 : (1 : Nat) ≤ sizeLine := by decide
theorem s2 : (2 : Nat) ≤ sizeLine := by decide
theorem s3 : (3 : Nat) ≤ sizeLine := by decide
/-- the object's own fields are written -/
theorem Disp.set {C : Addr} {H : Hp} {p l dx : Addr} {m k b m' k' b' : Nat} {said : List (Nat × Nat)} (D : Disp C H p l m k b said) {fs : List (Str × V)} (e : fs = df m' k' b' l) : Disp C (upd H p (.ins C dx fs)) p l m' k' b' said := by
  obtain ⟨⟨d0, h⟩, xs, h2, r⟩ := D
  have nl : l ≠ p := ne_of h2 h (by intro z; cases z)
  refine ⟨⟨dx, by rw [upd_same, e]⟩, xs, by rw [upd_ne nl]; exact h2, r.mono fun a x q ea => ?_⟩
  rw [upd_ne (ne_of ea h (by intro z; cases z))]
  exact ea
theorem Fr.set {H H1 : Hp} {p l : Addr} {o : HO} (f : Fr H H1 p l) : Fr H (upd H1 p o) p l := fun b u e hp hl => by rw [upd_ne hp]; exact f b u e hp hl
theorem Fr.setL {H H1 : Hp} {p l : Addr} {o : HO} (f : Fr H H1 p l) : Fr H (upd H1 l o) p l := fun b u e hp hl => by rw [upd_ne hl]; exact f b u e hp hl
theorem Fr.new {H H1 : Hp} {p l r : Addr} {o : HO} (f : Fr H H1 p l) (hr : H1 r = none) : Fr H (upd H1 r o) p l := fun b u e hp hl => by rw [upd_ne (ne_of_none (f b u e hp hl) hr)]; exact f b u e hp hl
/-- the object was changed, then a new list is given back -/
theorem After.write {C : Addr} {H H1 : Hp} {p l l' : Addr} {y : Krb7.Abs × Krb7.Ans} {Q : VK} {xs : List V} (k : After C H p l y Q) (A : At C H1 p l' y.1) (hl : l' = l ∨ H l' = none) (fr : Fr H H1 p l) (nn : ∀ b, H1 b = none → H b = none)
    (ex : xs = (Krb7Neutral.told y.2).map V.int) : ∀ r, H1 r = none → Q (.ref r) (upd H1 r (.lst xs)) := fun r hr =>
  k _ l' r (A.keep (fresh_same hr)) hl (nn r hr) (by rw [upd_same, ex]) (fr.new hr)
def spInit (C : Addr) : Sp := fun vs H Q _ => ∃ (p dx : Addr), vs = [.ref p] ∧ H p = some (.ins C dx []) ∧ ∀ (H' : Hp) (l : Addr), At C H' p l none → H l = none → (∀ b o, H b = some o → b ≠ p → H' b = some o) → Q .non H'
def spBegin (C : Addr) : Sp := fun vs H Q _ => ∃ (p l : Addr) (a : Krb7.Abs) (m k : Nat), vs = [.ref p, .int m, .int k] ∧ At C H p l a ∧ After C H p l (Krb7.act a (.begin_ m k)) Q
def ar0 (c : Krb7.Call) : List V → Hp → Krb7.Call → Prop := fun args _ c' => args = [] ∧ c' = c
def ar1 (c : Nat → Krb7.Call) : List V → Hp → Krb7.Call → Prop := fun args _ c' => ∃ x : Nat, args = [.int x] ∧ c' = c x
def ar2 (c : Nat → Nat → Krb7.Call) : List V → Hp → Krb7.Call → Prop := fun args _ c' => ∃ x y : Nat, args = [.int x, .int y] ∧ c' = c x y
section
variable {P : Program} {w : World} {K : PySem.W.Frag} {mg : Str → Option Value} {base : Heap} {f C a_PROPOSITIONS a_WORLDS_OF_LETTERS a_HOW_MANY_GIVEN : Addr} {fd : FuncData}
theorem ok_m_init (F : Fun K "__init__" "Disputation.__init__" s_m_init f fd) (T : Txt K mg C a_PROPOSITIONS a_WORLDS_OF_LETTERS a_HOW_MANY_GIVEN) : FnOk P w K mg base CX0 1 f fd ["self"] (spInit C) := by
  refine F.ok sc_m_init (fun vs H Q E h => ?_) (fun cdv A outer s H vs Q E hr h => ?_)
  · obtain ⟨p, dx, rfl, _⟩ := h
    rfl
  · obtain ⟨p, dx, rfl, hp, k⟩ := h
    refine ⟨_, (pss_cons (ps_fld (pv 0) pe_int rfl)
      (pss_cons (ps_fld (pv 0) pe_int rfl)
      (pss_cons (ps_fld (pv 0) pe_int rfl)
      (pss_one (ps_fld (pv 0) (pe_lst pa_nil) rfl))))), ?_⟩
    refine ⟨_, rfl, p, C, dx, _, rfl, hp, T.cl, T.n_letters, (by show 0 < 1000; decide), ?_⟩
    refine ⟨_, rfl, p, C, dx, _, rfl, upd_same, T.cl, T.n_known, (by show 1 < 1000; decide), ?_⟩
    refine ⟨_, rfl, p, C, dx, _, rfl, upd_same, T.cl, T.n_laid, (by rw [putF_nil, putF_cons, if_neg n_lk]; show 2 < 1000; decide), ?_⟩
    refine ⟨(by show 0 ≤ sizeLine; decide), fun l hl => ?_⟩
    have npl : p ≠ l := Ne.symm (ne_of_upd hl)
    refine ⟨_, rfl, p, C, dx, _, rfl, (by rw [upd_ne npl]; exact upd_same), T.cl, T.n_proposed, ?_, ?_⟩
    · have := length_putF "laid" (V.int 0) (putF "known" (V.int 0) (putF "letters" (V.int 0) []))
      have := length_putF "known" (V.int 0) (putF "letters" (V.int 0) [])
      have := length_putF "letters" (V.int 0) []
      have : ([] : List (Str × V)).length = 0 := rfl
      omega
    · refine k _ l ⟨⟨dx, ?_⟩, [], ?_, .nil⟩ (none_of_upd (none_of_upd (none_of_upd hl))) fun b o e hb => ?_
      · rw [upd_same]
        exact congrArg (fun q => some (HO.ins C dx q)) (df_init 0 0 0 l)
      · rw [upd_ne npl.symm, upd_same]
      · rw [upd_ne hb, upd_ne (ne_of_none e (none_of_upd (none_of_upd (none_of_upd hl)))), upd_ne hb, upd_ne hb, upd_ne hb]
        exact e
theorem At.disp {H : Hp} {p l : Addr} : ∀ {a : Krb7.Abs}, At C H p l a → ∃ m k b said, Disp C H p l m k b said
  | none, D => ⟨_, _, _, _, D⟩
  | some _, ⟨_, D⟩ => ⟨_, _, _, _, D⟩
theorem act_begin (a : Krb7.Abs) (m k : Nat) : Krb7.act a (.begin_ m k) = if m = 0 ∨ 3 < m ∨ k = 0 ∨ Krb7.full m < k then (a, Krb7.say (-22)) else (some ⟨m, k, none, []⟩, Krb7.say (Krb7.count m k)) := by
  unfold Krb7.act
  rfl
theorem ok_m_begin (F : Fun K "begin" "Disputation.begin" s_m_begin f fd) (T : Txt K mg C a_PROPOSITIONS a_WORLDS_OF_LETTERS a_HOW_MANY_GIVEN) (G_f_how_many_worlds : HasFn P w K mg base "how_many_worlds" 1 ["worlds"] spCount) : FnOk P w K mg base CX0 2 f fd ["self", "letters", "known"] (spBegin C) := by
  refine F.ok sc_m_begin (fun vs H Q E h => ?_) (fun cdv A outer s H vs Q E hr h => ?_)
  · obtain ⟨p, l, a, m, x, rfl, _⟩ := h
    rfl
  · obtain ⟨p, l, a, m, x, rfl, hA, k⟩ := h
    rw [act_begin] at k
    have bad : (m = 0 ∨ 3 < m ∨ x = 0 ∨ Krb7.full m < x) → ∀ r, H r = none → Q (.ref r) (upd H r (.lst [.int (-22)])) := fun z => by
      rw [if_pos z] at k
      exact k.read hA rfl rfl
    refine ⟨_, (pss_cons (ps_if (PW.pt (pw_or (pt_cmpR op_lt (pv 1) pe_int (nomark _)) (pw_or1 (pt_cmpR op_gt (pv 1) (pe_gint rfl T.g_MOST_LETTERS) (nomark _))))) (pss_one (ps_ret (pe_lst (pa_cons (pe_gint rfl T.g_NOT_RIGHT) pa_nil)))) pss_nil)
      (pss_cons (ps_if (PW.pt (pw_or (pt_cmpR op_eq (pv 2) pe_int (nomark _)) (pw_or1 (pt_cmpR op_ge (pv 2) (pe_ix ix_tup (pe_glob (v := .ref a_PROPOSITIONS) rfl T.g_PROPOSITIONS rfl) (pv 1) (fun _ _ => rfl)) (nomark _))))) (pss_one (ps_ret (pe_lst (pa_cons (pe_gint rfl T.g_NOT_RIGHT) pa_nil)))) pss_nil)
      (pss_cons (ps_fld (pv 0) (pv 1) rfl)
      (pss_cons (ps_fld (pv 0) (pv 2) rfl)
      (pss_cons (ps_fld (pv 0) pe_int rfl)
      (pss_cons (ps_fld (pv 0) (pe_lst pa_nil) rfl)
      (pss_one (ps_ret (pe_lst (pa_cons (pe_fn G_f_how_many_worlds (hr.mono (by decide)) rfl (pa_cons (pv 2) pa_nil)) pa_nil)))))))))), ?_⟩
    refine ⟨_, rfl, _, _, rfl, rfl, _, rfl, ?_⟩
    show if decide ((m : Int) < 1) = true then _ else _
    refine iteP (fun h1 => ?_) (fun h1 => ?_)
    · exact iteT ⟨s1, bad (by omega)⟩
    refine ⟨_, rfl, _, _, rfl, rfl, _, rfl, ?_⟩
    show if decide ((3 : Int) < (m : Int)) = true then _ else _
    refine iteP (fun h2 => ?_) (fun h2 => ?_)
    · exact ⟨s1, bad (by omega)⟩
    refine ⟨_, rfl, rfl, _, rfl, ?_⟩
    show if decide (V.int (x : Nat) = V.int (0 : Nat)) = true then _ else _
    refine iteI (fun h3 => ?_) (fun h3 => ?_)
    · exact iteT ⟨s1, bad (by omega)⟩
    have hm : M m := by show m = 1 ∨ m = 2 ∨ m = 3; omega
    obtain ⟨n, hn, en⟩ : ∃ n : Nat, ([.int 0, .int 4, .int 16, .int 256] : List V)[m]? = some (.int (n : Nat)) ∧ n = Krb7.full m + 1 := by
      rcases hm with rfl | rfl | rfl
      · exact ⟨4, rfl, rfl⟩
      · exact ⟨16, rfl, rfl⟩
      · exact ⟨256, rfl, rfl⟩
    refine ⟨_, rfl, _, rfl, _, _, _, _, rfl, rfl, T.t_PROPOSITIONS _, atI_nat hn, _, _, rfl, rfl, _, rfl, ?_⟩
    show if decide ((n : Int) ≤ (x : Int)) = true then _ else _
    refine iteP (fun h4 => ?_) (fun h4 => ?_)
    · exact ⟨s1, bad (by omega)⟩
    have hx : x ≤ Krb7.full m := by omega
    rw [if_neg (by omega)] at k
    obtain ⟨m0, k0, b0, said0, D⟩ := hA.disp
    obtain ⟨⟨dx, hp⟩, xs, hl, pr⟩ := id D
    refine ⟨_, rfl, _, rfl, p, C, dx, _, rfl, hp, T.cl, T.n_letters, df_len _ _ _ _, ?_⟩
    rw [df_put_letters]
    refine ⟨_, rfl, _, rfl, p, C, dx, _, rfl, upd_same, T.cl, T.n_known, df_len _ _ _ _, ?_⟩
    rw [df_put_known]
    refine ⟨_, rfl, p, C, dx, _, rfl, upd_same, T.cl, T.n_laid, df_len _ _ _ _, ?_⟩
    rw [show putF "laid" (V.int 0) (df m x b0 l) = df m x 0 l from df_put_laid m x b0 0 l]
    refine ⟨(by show 0 ≤ sizeLine; decide), fun l' hl' => ?_⟩
    have npl : p ≠ l' := Ne.symm (ne_of_upd hl')
    have nl' : H l' = none := none_of_upd (none_of_upd (none_of_upd hl'))
    refine ⟨_, rfl, p, C, dx, _, rfl, (by rw [upd_ne npl]; exact upd_same), T.cl, T.n_proposed, df_len _ _ _ _, ?_⟩
    rw [df_put_proposed]
    refine ⟨_, rfl, x, rfl, Nat.le_trans hx (full_le hm), s1, ?_⟩
    refine k.write (l' := l') ⟨⟨hm, by show 0 < x; omega, hx, fun _ z => (nomatch z), fun _ z => absurd z (by simp), Nat.zero_le _, fun _ => rfl⟩, ⟨dx, upd_same⟩, [], by rw [upd_ne npl.symm, upd_same], .nil⟩ (.inr nl') ?_ ?_ ?_
    · exact ((((Fr.refl.set).set).set).new hl').set
    · intro b e
      exact none_of_upd (none_of_upd (none_of_upd (none_of_upd (none_of_upd e))))
    · show [V.int (pc 8 x : Nat)] = [V.int (Krb7.count m x : Nat)]
      rw [count_pc hm hx]
theorem act_lay (h : Krb7.House) (x : Nat) : Krb7.act (some h) (.lay x) = if (!(decide (x ≤ Krb7.full h.m))) = true then (some h, Krb7.say (-22)) else if h.laid.isSome = true then (some h, Krb7.say (-17)) else if x = 0 then (some h, Krb7.say (-33)) else (some { h with laid := some x, said := [] }, Krb7.say (Krb7.truth h.known x)) := by
  unfold Krb7.act
  rfl
theorem nott {x y : Nat} (h : x ≤ y) : ¬ (!(decide (x ≤ y))) = true := by rw [decide_eq_true h]; decide
theorem nott' {x y : Nat} (h : ¬ x ≤ y) : (!(decide (x ≤ y))) = true := by rw [decide_eq_false h]; rfl
theorem ok_m_lay (F : Fun K "lay" "Disputation.lay" s_m_lay f fd) (T : Txt K mg C a_PROPOSITIONS a_WORLDS_OF_LETTERS a_HOW_MANY_GIVEN) (G_m_is_proposition : HasMt P w K mg base C "is_proposition" 1 ["self", "p"] (spIsProp C)) (G_f_verdict : HasFn P w K mg base "verdict" 1 ["worlds", "p"] spVerdict) : FnOk P w K mg base CX0 2 f fd ["self", "p"] (spM C (ar1 .lay) 2) := by
  refine F.ok sc_m_lay (fun vs H Q E h => h.1) (fun cdv A outer s H vs Q E hr h => ?_)
  · obtain ⟨_, p, l, h, c, args, rfl, ⟨x, rfl, rfl⟩, hA, k⟩ := h
    obtain ⟨g, D⟩ := id hA
    obtain ⟨⟨dx, hp⟩, xs, hl, pr⟩ := id D
    rw [act_lay] at k
    refine ⟨_, (pss_cons (ps_if (pt_not (pt_val (pe_mt (pv 0) T.cl G_m_is_proposition (hr.mono (by decide)) (pa_cons (pv 1) pa_nil)))) (pss_one (ps_ret (pe_lst (pa_cons (pe_gint rfl T.g_NOT_RIGHT) pa_nil)))) pss_nil)
      (pss_cons (ps_if (pt_cmpR op_ne (pe_fld (pv 0) rfl) pe_int (nomark _)) (pss_one (ps_ret (pe_lst (pa_cons (pe_gint rfl T.g_ALREADY_LAID) pa_nil)))) pss_nil)
      (pss_cons (ps_if (pt_cmpR op_eq (pv 1) pe_int (nomark _)) (pss_one (ps_ret (pe_lst (pa_cons (pe_gint rfl T.g_CANNOT_BE) pa_nil)))) pss_nil)
      (pss_cons (ps_fld (pv 0) (pv 1) rfl)
      (pss_one (ps_ret (pe_lst (pa_cons (pe_fn G_f_verdict (hr.mono (by decide)) rfl (pa_cons (pe_fld (pv 0) rfl) (pa_cons (pv 1) pa_nil))) pa_nil)))))))), ?_⟩
    refine ⟨_, rfl, p, dx, _, rfl, hp, dno _ _ _ _, _, rfl, p, dx, l, _, _, _, x, rfl, g.m, hp, _, rfl, ?_⟩
    by_cases hx : x ≤ Krb7.full h.m
    · rw [decide_eq_true hx]
      rw [if_neg (nott hx)] at k
      refine iteF ?_
      refine ⟨_, rfl, p, C, dx, _, _, rfl, hp, T.cl, T.n_laid, df_laid _ _ _ _, rfl, _, rfl, ?_⟩
      show if (!decide (V.int (h.laid.getD 0 : Nat) = V.int (0 : Nat))) = true then _ else _
      refine iteN (fun e => ?_) (fun e => ?_)
      · have hs : h.laid.isSome = true := by
          cases q : h.laid with
          | none => exact absurd (congrArg Int.ofNat ((laid_zero g).mpr q)) e
          | some _ => rfl
        rw [if_pos hs] at k
        exact ⟨s1, k.read hA rfl rfl⟩
      · have hn : h.laid = none := (laid_zero g).mp (Int.ofNat.inj e)
        rw [if_neg (by rw [hn]; decide)] at k
        refine ⟨_, rfl, rfl, _, rfl, ?_⟩
        show if decide (V.int (x : Nat) = V.int (0 : Nat)) = true then _ else _
        refine iteI (fun e0 => ?_) (fun e0 => ?_)
        · rw [if_pos (Int.ofNat.inj e0)] at k
          exact ⟨s1, k.read hA rfl rfl⟩
        · rw [if_neg (fun z => e0 (congrArg Int.ofNat z))] at k
          refine ⟨_, rfl, _, rfl, p, C, dx, _, rfl, hp, T.cl, T.n_laid, df_len _ _ _ _, ?_⟩
          rw [df_put_laid]
          refine ⟨_, rfl, p, C, dx, _, _, rfl, upd_same, T.cl, T.n_known, df_known _ _ _ _, _, rfl, h.known, x, rfl, s1, ?_⟩
          refine k.write (l' := l) ⟨⟨g.m, g.k0, g.k1, fun q z => ?_, fun _ z => absurd z (by simp), Nat.zero_le _, fun z => (nomatch z)⟩, ?_⟩ (.inl rfl) Fr.refl.set (fun b e => none_of_upd e) rfl
          · cases z
            exact ⟨by omega, hx⟩
          · have e2 := g.e hn
            rw [e2] at D
            exact D.set rfl
    · rw [decide_eq_false hx]
      rw [if_pos (nott' hx)] at k
      exact iteT ⟨s1, k.read hA rfl rfl⟩
theorem act_learn (h : Krb7.House) (x : Nat) : Krb7.act (some h) (.learn x) = if (!(decide (x ≤ Krb7.full h.m))) = true then (some h, Krb7.say (-22)) else if h.known &&& x = 0 then (some h, Krb7.say (-33)) else (some { h with known := h.known &&& x }, Krb7.say (Krb7.count h.m (h.known &&& x))) := by
  unfold Krb7.act
  rfl
theorem ok_m_learn (F : Fun K "learn" "Disputation.learn" s_m_learn f fd) (T : Txt K mg C a_PROPOSITIONS a_WORLDS_OF_LETTERS a_HOW_MANY_GIVEN) (G_m_is_proposition : HasMt P w K mg base C "is_proposition" 1 ["self", "p"] (spIsProp C)) (G_f_how_many_worlds : HasFn P w K mg base "how_many_worlds" 1 ["worlds"] spCount) : FnOk P w K mg base CX0 2 f fd ["self", "worlds"] (spM C (ar1 .learn) 2) := by
  refine F.ok sc_m_learn (fun vs H Q E h => h.1) (fun cdv A outer s H vs Q E hr h => ?_)
  · obtain ⟨_, p, l, h, c, args, rfl, ⟨x, rfl, rfl⟩, hA, k⟩ := h
    obtain ⟨g, D⟩ := id hA
    obtain ⟨⟨dx, hp⟩, xs, hl, pr⟩ := id D
    rw [act_learn] at k
    refine ⟨_, (pss_cons (ps_if (pt_not (pt_val (pe_mt (pv 0) T.cl G_m_is_proposition (hr.mono (by decide)) (pa_cons (pv 1) pa_nil)))) (pss_one (ps_ret (pe_lst (pa_cons (pe_gint rfl T.g_NOT_RIGHT) pa_nil)))) pss_nil)
      (pss_cons (ps_if (pt_cmpR op_eq (pe_op op_and (pe_fld (pv 0) rfl) (pv 1)) pe_int (nomark _)) (pss_one (ps_ret (pe_lst (pa_cons (pe_gint rfl T.g_CANNOT_BE) pa_nil)))) pss_nil)
      (pss_cons (ps_fld (pv 0) (pe_op op_and (pe_fld (pv 0) rfl) (pv 1)) rfl)
      (pss_one (ps_ret (pe_lst (pa_cons (pe_fn G_f_how_many_worlds (hr.mono (by decide)) rfl (pa_cons (pe_fld (pv 0) rfl) pa_nil)) pa_nil))))))), ?_⟩
    refine ⟨_, rfl, p, dx, _, rfl, hp, dno _ _ _ _, _, rfl, p, dx, l, _, _, _, x, rfl, g.m, hp, _, rfl, ?_⟩
    by_cases hx : x ≤ Krb7.full h.m
    · rw [decide_eq_true hx]
      rw [if_neg (nott hx)] at k
      refine iteF ?_
      refine ⟨_, rfl, p, C, dx, _, _, rfl, hp, T.cl, T.n_known, df_known _ _ _ _, _, rfl, _, _, rfl, rfl, rfl, _, rfl, ?_⟩
      show if decide (V.int (Builtin.bitAnd (h.known : Int) (x : Int)) = V.int (0 : Nat)) = true then _ else _
      rw [band]
      refine iteI (fun e => ?_) (fun e => ?_)
      · rw [if_pos (Int.ofNat.inj e)] at k
        exact ⟨s1, k.read hA rfl rfl⟩
      · have e' : ¬ h.known &&& x = 0 := fun z => e (congrArg Int.ofNat z)
        rw [if_neg e'] at k
        have hle : h.known &&& x ≤ Krb7.full h.m := Nat.le_trans Nat.and_le_left g.k1
        refine ⟨_, rfl, p, C, dx, _, _, rfl, hp, T.cl, T.n_known, df_known _ _ _ _, _, rfl, _, _, rfl, rfl, _, rfl, p, C, dx, _, rfl, hp, T.cl, T.n_known, df_len _ _ _ _, ?_⟩
        have e3 : putF "known" (V.int (Builtin.bitAnd (h.known : Int) (x : Int))) (df h.m h.known (h.laid.getD 0) l) = df h.m (h.known &&& x) (h.laid.getD 0) l := by rw [band, df_put_known]
        rw [e3]
        refine ⟨_, rfl, p, C, dx, _, _, rfl, upd_same, T.cl, T.n_known, df_known _ _ _ _, _, rfl, Nat.le_trans hle (full_le g.m), s1, ?_⟩
        refine k.write (l' := l) ⟨⟨g.m, Nat.pos_of_ne_zero e', hle, g.b, g.s, g.n, g.e⟩, D.set rfl⟩ (.inl rfl) Fr.refl.set (fun b e => none_of_upd e) ?_
        show [V.int (pc 8 (h.known &&& x) : Nat)] = [V.int (Krb7.count h.m (h.known &&& x) : Nat)]
        rw [count_pc g.m hle]
    · rw [decide_eq_false hx]
      rw [if_pos (nott' hx)] at k
      exact iteT ⟨s1, k.read hA rfl rfl⟩
end
end Ht

set_option Elab.async false
set_option linter.all false
set_option maxRecDepth 100000
set_option maxHeartbeats 2000000
namespace Ht
open PySem PySem.Spec PyProof.Rows L2
/-! ### 8. The methods on what was laid down -/
theorem isNone_of {α : Type} {o : Option α} (h : o = none) : o.isNone = true := by rw [h]; rfl
theorem isNone_ne {α : Type} {o : Option α} (h : o ≠ none) : ¬ o.isNone = true := by
  cases o with
  | none => exact absurd rfl h
  | some _ => intro z; cases z
theorem act_propose (h : Krb7.House) (x : Nat) : Krb7.act (some h) (.propose x) = if (!(decide (x ≤ Krb7.full h.m))) = true then (some h, Krb7.say (-22)) else if h.laid.isNone = true then (some h, Krb7.say (-6)) else if 20 ≤ h.said.length then (some h, Krb7.say (-28)) else
    (some { h with said := h.said ++ [(x, Krb7.right h.known h.base x)] }, { num := Krb7.right h.known h.base x, nums := Krb7.ints [Krb7.why h.base x, Krb7.count h.m (Krb7.behind h.m h.base x (Krb7.right h.known h.base x))] }) := by
  unfold Krb7.act
  rfl
theorem act_back (h : Krb7.House) : Krb7.act (some h) .back = if h.said = [] then (some h, Krb7.say (-6)) else (some { h with said := h.said.dropLast }, Krb7.say h.said.dropLast.length) := by
  unfold Krb7.act
  rfl
theorem act_finish (h : Krb7.House) : Krb7.act (some h) .finish = if h.laid.isNone = true then (some h, Krb7.say (-6)) else (some { h with laid := none, said := [] }, { num := h.said.length, nums := Krb7.ints [(h.said.filter fun x => x.2 == 1 && Krb7.truth h.known x.1 == 0).length, (h.said.filter fun x => x.2 == 0 && Krb7.truth h.known x.1 == 1).length] }) := by
  unfold Krb7.act
  rfl
theorem act_answer (h : Krb7.House) (x : Nat) : Krb7.act (some h) (.answer x) = (some h, if (!(decide (x ≤ Krb7.full h.m))) = true then Krb7.say (-22) else if h.laid.isNone = true then Krb7.say (-6) else { num := Krb7.right h.known h.base x, nums := Krb7.ints [Krb7.why h.base x] }) := by
  unfold Krb7.act
  rfl
theorem act_stands (h : Krb7.House) : Krb7.act (some h) .stands = (some h, if h.laid.isNone = true then Krb7.say (-6) else { num := Krb7.count h.m h.base, nums := Krb7.ints [h.base] }) := by
  unfold Krb7.act
  rfl
theorem act_matters (h : Krb7.House) (x : Nat) : Krb7.act (some h) (.matters x) = (some h, if (!(decide (x ≤ Krb7.full h.m))) = true then Krb7.say (-22) else if h.laid.isNone = true then Krb7.say (-6) else Krb7.say (if Krb7.why h.base x = 0 then 0 else 1)) := by
  unfold Krb7.act
  rfl
theorem act_log (h : Krb7.House) : Krb7.act (some h) .log = (some h, { num := h.said.length, nums := h.said.flatMap fun x => [(x.1 : Int), (x.2 : Int)] }) := by
  unfold Krb7.act
  rfl
theorem act_row (h : Krb7.House) (l : List Nat) : Krb7.act (some h) (.row l) = (some h, if (decide (16 < l.length) || l.any (fun p => !(decide (p ≤ Krb7.full h.m)))) = true then Krb7.say (-22) else if h.laid.isNone = true then Krb7.say (-6) else Krb7.list (Krb7.answers h.m h.known h.base l).1) := by
  unfold Krb7.act
  rfl
section
variable {P : Program} {w : World} {K : PySem.W.Frag} {mg : Str → Option Value} {base : Heap} {f C a_PROPOSITIONS a_WORLDS_OF_LETTERS a_HOW_MANY_GIVEN : Addr} {fd : FuncData}
theorem ok_m_back (F : Fun K "back" "Disputation.back" s_m_back f fd) (T : Txt K mg C a_PROPOSITIONS a_WORLDS_OF_LETTERS a_HOW_MANY_GIVEN) : FnOk P w K mg base CX0 1 f fd ["self"] (spM C (ar0 .back) 1) := by
  refine F.ok sc_m_back (fun vs H Q E h => h.1) (fun cdv A outer s H vs Q E hr h => ?_)
  · obtain ⟨_, p, l, h, c, args, rfl, ⟨rfl, rfl⟩, hA, k⟩ := h
    obtain ⟨g, D⟩ := id hA
    obtain ⟨⟨dx, hp⟩, xs, hl, pr⟩ := id D
    rw [act_back] at k
    refine ⟨_, (pss_cons (ps_if (pt_cmpR op_eq (pe_callB call_len_seq (by rfl) T.len PySem.boot_len (pa_cons (pe_fld (pv 0) rfl) pa_nil)) pe_int (nomark _)) (pss_one (ps_ret (pe_lst (pa_cons (pe_gint rfl T.g_NOTHING_THERE) pa_nil)))) pss_nil)
      (pss_cons (ps_expr (pe_bm0 PySem.F.plainAttrs_list PySem.F.slot_list_pop PySem.F.type_list_pop mt_pop (pe_fld (pv 0) rfl)))
      (pss_one (ps_ret (pe_lst (pa_cons (pe_callB call_len_seq (by rfl) T.len PySem.boot_len (pa_cons (pe_fld (pv 0) rfl) pa_nil)) pa_nil)))))), ?_⟩
    refine ⟨_, rfl, p, C, dx, _, _, rfl, hp, T.cl, T.n_proposed, df_proposed _ _ _ _, l, xs, rfl, .inl (SqL.of hl), rfl, _, rfl, ?_⟩
    show if decide (V.int (xs.length : Nat) = V.int (0 : Nat)) = true then _ else _
    refine iteI (fun e => ?_) (fun e => ?_)
    · have z : h.said = [] := List.eq_nil_of_length_eq_zero (by rw [← pr.len]; exact Int.ofNat.inj e)
      rw [if_pos z] at k
      exact ⟨s1, k.read hA rfl rfl⟩
    · have hn : xs.length ≠ 0 := fun z => e (congrArg Int.ofNat z)
      rw [if_neg (fun z => hn (by rw [pr.len, z]; rfl))] at k
      obtain ⟨y, hy⟩ : ∃ y, xs[xs.length - 1]? = some y := ⟨_, List.getElem?_eq_getElem (by omega)⟩
      refine ⟨_, rfl, p, C, dx, _, _, rfl, hp, T.cl, T.n_proposed, df_proposed _ _ _ _, .inl ⟨rfl, _, SqL.of hl⟩, l, xs, y, rfl, rfl, hl, hy, ?_⟩
      have npl : p ≠ l := D.ne
      refine ⟨_, rfl, p, C, dx, _, _, rfl, (by rw [upd_ne npl]; exact hp), T.cl, T.n_proposed, df_proposed _ _ _ _, l, _, rfl, .inl (SqL.of upd_same), s1, ?_⟩
      refine k.write (l' := l) ⟨⟨g.m, g.k0, g.k1, g.b, fun x hx => g.s x (List.mem_of_mem_take (by rw [← List.dropLast_eq_take]; exact hx)), ?_, fun z => ?_⟩, ⟨dx, by rw [upd_ne npl]; exact hp⟩, _, upd_same, pr.drop.mono fun a x q ea => ?_⟩ (.inl rfl) Fr.refl.setL (fun b e => none_of_upd e) ?_
      · show h.said.dropLast.length ≤ 20
        rw [List.length_dropLast]
        have := g.n
        omega
      · show h.said.dropLast = []
        rw [g.e z]
        rfl
      · rw [upd_ne (ne_of ea hl (by intro z; cases z))]
        exact ea
      · show [V.int (xs.dropLast.length : Nat)] = [V.int (h.said.dropLast.length : Nat)]
        rw [List.length_dropLast, List.length_dropLast, pr.len]
theorem ok_m_stands (F : Fun K "stands" "Disputation.stands" s_m_stands f fd) (T : Txt K mg C a_PROPOSITIONS a_WORLDS_OF_LETTERS a_HOW_MANY_GIVEN) (G_m_standing : HasMt P w K mg base C "standing" 2 ["self"] (spStanding C)) (G_f_how_many_worlds : HasFn P w K mg base "how_many_worlds" 1 ["worlds"] spCount) : FnOk P w K mg base CX0 3 f fd ["self"] (spM C (ar0 .stands) 1) := by
  refine F.ok sc_m_stands (fun vs H Q E h => h.1) (fun cdv A outer s H vs Q E hr h => ?_)
  · obtain ⟨_, p, l, h, c, args, rfl, ⟨rfl, rfl⟩, hA, k⟩ := h
    obtain ⟨g, D⟩ := id hA
    obtain ⟨⟨dx, hp⟩, xs, hl, pr⟩ := id D
    rw [act_stands] at k
    refine ⟨_, (pss_cons (ps_if (pt_cmpR op_eq (pe_fld (pv 0) rfl) pe_int (nomark _)) (pss_one (ps_ret (pe_lst (pa_cons (pe_gint rfl T.g_NOTHING_THERE) pa_nil)))) pss_nil)
      (pss_cons (ps_set (i := 1) sc_m_stands.nd rfl (Or.inl rfl) (pe_mt0 (pv 0) T.cl G_m_standing (hr.mono (by decide))))
      (pss_one (ps_ret (pe_lst (pa_cons (pe_fn G_f_how_many_worlds (hr.mono (by decide)) rfl (pa_cons (pv 1) pa_nil)) (pa_cons (pv 1) pa_nil))))))), ?_⟩
    refine ⟨_, rfl, p, C, dx, _, _, rfl, hp, T.cl, T.n_laid, df_laid _ _ _ _, rfl, _, rfl, ?_⟩
    show if decide (V.int (h.laid.getD 0 : Nat) = V.int (0 : Nat)) = true then _ else _
    refine iteI (fun e => ?_) (fun e => ?_)
    · rw [if_pos (isNone_of ((laid_zero g).mp (Int.ofNat.inj e)))] at k
      exact ⟨s1, k.read hA rfl rfl⟩
    · rw [if_neg (isNone_ne fun z => e (congrArg Int.ofNat ((laid_zero g).mpr z)))] at k
      refine ⟨_, rfl, p, dx, _, rfl, hp, dno _ _ _ _, p, l, _, _, _, _, rfl, g.m, laid_le g, g.s, D, ?_⟩
      refine ⟨_, rfl, h.base, rfl, Nat.le_trans (base_le g) (full_le g.m), _, rfl, s2, ?_⟩
      refine k.read hA rfl ?_
      show [V.int (pc 8 h.base : Nat), V.int (h.base : Nat)] = [V.int (Krb7.count h.m h.base : Nat), V.int (h.base : Nat)]
      rw [count_pc g.m (base_le g)]
theorem ok_m_answer (F : Fun K "answer" "Disputation.answer" s_m_answer f fd) (T : Txt K mg C a_PROPOSITIONS a_WORLDS_OF_LETTERS a_HOW_MANY_GIVEN) (G_m_refusal : HasMt P w K mg base C "refusal" 2 ["self", "p"] (spRefusal C)) (G_m_standing : HasMt P w K mg base C "standing" 2 ["self"] (spStanding C)) (G_f_right_answer : HasFn P w K mg base "right_answer" 3 ["standing", "known", "p"] spRight) (G_f_bearing : HasFn P w K mg base "bearing" 2 ["standing", "p"] spBearing) : FnOk P w K mg base CX0 4 f fd ["self", "p"] (spM C (ar1 .answer) 2) := by
  refine F.ok sc_m_answer (fun vs H Q E h => h.1) (fun cdv A outer s H vs Q E hr h => ?_)
  · obtain ⟨_, p, l, h, c, args, rfl, ⟨x, rfl, rfl⟩, hA, k⟩ := h
    obtain ⟨g, D⟩ := id hA
    obtain ⟨⟨dx, hp⟩, xs, hl, pr⟩ := id D
    rw [act_answer] at k
    refine ⟨_, (pss_cons (ps_set (i := 2) sc_m_answer.nd rfl (Or.inl rfl) (pe_mt (pv 0) T.cl G_m_refusal (hr.mono (by decide)) (pa_cons (pv 1) pa_nil)))
      (pss_cons (ps_if (pt_cmpR op_ne (pv 2) pe_int (nomark _)) (pss_one (ps_ret (pe_lst (pa_cons (pv 2) pa_nil)))) pss_nil)
      (pss_cons (ps_set (i := 3) sc_m_answer.nd rfl (Or.inl rfl) (pe_mt0 (pv 0) T.cl G_m_standing (hr.mono (by decide))))
      (pss_one (ps_ret (pe_lst (pa_cons (pe_fn G_f_right_answer (hr.mono (by decide)) rfl (pa_cons (pv 3) (pa_cons (pe_fld (pv 0) rfl) (pa_cons (pv 1) pa_nil)))) (pa_cons (pe_fn G_f_bearing (hr.mono (by decide)) rfl (pa_cons (pv 3) (pa_cons (pv 1) pa_nil))) pa_nil)))))))), ?_⟩
    refine ⟨_, rfl, p, dx, _, rfl, hp, dno _ _ _ _, _, rfl, p, l, h, x, rfl, hA, fun hx => ?_, fun hx hn => ?_, fun hx hn => ?_⟩
    · rw [if_pos (nott' (by omega))] at k
      exact ⟨_, rfl, rfl, _, rfl, iteN (fun _ => ⟨_, rfl, s1, k.read hA rfl rfl⟩) (fun z => absurd z (by decide))⟩
    · rw [if_neg (nott hx), if_pos (isNone_of hn)] at k
      exact ⟨_, rfl, rfl, _, rfl, iteN (fun _ => ⟨_, rfl, s1, k.read hA rfl rfl⟩) (fun z => absurd z (by decide))⟩
    · rw [if_neg (nott hx), if_neg (isNone_ne hn)] at k
      refine ⟨_, rfl, rfl, _, rfl, iteN (fun z => absurd rfl z) (fun _ => ?_)⟩
      refine ⟨_, rfl, p, dx, _, rfl, hp, dno _ _ _ _, p, l, _, _, _, _, rfl, g.m, laid_le g, g.s, D, ?_⟩
      refine ⟨_, rfl, _, rfl, p, C, dx, _, _, rfl, hp, T.cl, T.n_known, df_known _ _ _ _, _, rfl, h.base, h.known, x, rfl, _, rfl, _, rfl, h.base, x, rfl, s2, ?_⟩
      exact k.read hA rfl rfl
theorem ok_m_matters (F : Fun K "matters" "Disputation.matters" s_m_matters f fd) (T : Txt K mg C a_PROPOSITIONS a_WORLDS_OF_LETTERS a_HOW_MANY_GIVEN) (G_m_refusal : HasMt P w K mg base C "refusal" 2 ["self", "p"] (spRefusal C)) (G_m_standing : HasMt P w K mg base C "standing" 2 ["self"] (spStanding C)) (G_f_bearing : HasFn P w K mg base "bearing" 2 ["standing", "p"] spBearing) : FnOk P w K mg base CX0 3 f fd ["self", "p"] (spM C (ar1 .matters) 2) := by
  refine F.ok sc_m_matters (fun vs H Q E h => h.1) (fun cdv A outer s H vs Q E hr h => ?_)
  · obtain ⟨_, p, l, h, c, args, rfl, ⟨x, rfl, rfl⟩, hA, k⟩ := h
    obtain ⟨g, D⟩ := id hA
    obtain ⟨⟨dx, hp⟩, xs, hl, pr⟩ := id D
    rw [act_matters] at k
    refine ⟨_, (pss_cons (ps_set (i := 2) sc_m_matters.nd rfl (Or.inl rfl) (pe_mt (pv 0) T.cl G_m_refusal (hr.mono (by decide)) (pa_cons (pv 1) pa_nil)))
      (pss_cons (ps_if (pt_cmpR op_ne (pv 2) pe_int (nomark _)) (pss_one (ps_ret (pe_lst (pa_cons (pv 2) pa_nil)))) pss_nil)
      (pss_cons (ps_if (pt_cmpR op_eq (pe_fn G_f_bearing (hr.mono (by decide)) rfl (pa_cons (pe_mt0 (pv 0) T.cl G_m_standing (hr.mono (by decide))) (pa_cons (pv 1) pa_nil))) (pe_gint rfl T.g_DOES_NOT_MATTER) (nomark _)) (pss_one (ps_ret (pe_lst (pa_cons pe_int pa_nil)))) pss_nil)
      (pss_one (ps_ret (pe_lst (pa_cons pe_int pa_nil))))))), ?_⟩
    refine ⟨_, rfl, p, dx, _, rfl, hp, dno _ _ _ _, _, rfl, p, l, h, x, rfl, hA, fun hx => ?_, fun hx hn => ?_, fun hx hn => ?_⟩
    · rw [if_pos (nott' (by omega))] at k
      exact ⟨_, rfl, rfl, _, rfl, iteN (fun _ => ⟨_, rfl, s1, k.read hA rfl rfl⟩) (fun z => absurd z (by decide))⟩
    · rw [if_neg (nott hx), if_pos (isNone_of hn)] at k
      exact ⟨_, rfl, rfl, _, rfl, iteN (fun _ => ⟨_, rfl, s1, k.read hA rfl rfl⟩) (fun z => absurd z (by decide))⟩
    · rw [if_neg (nott hx), if_neg (isNone_ne hn)] at k
      refine ⟨_, rfl, rfl, _, rfl, iteN (fun z => absurd rfl z) (fun _ => ?_)⟩
      refine ⟨_, rfl, p, dx, _, rfl, hp, dno _ _ _ _, p, l, _, _, _, _, rfl, g.m, laid_le g, g.s, D, ?_⟩
      refine ⟨_, rfl, h.base, x, rfl, rfl, _, rfl, ?_⟩
      show if decide (V.int (Krb7.why h.base x : Nat) = V.int (0 : Nat)) = true then _ else _
      refine iteI (fun e => ?_) (fun e => ?_)
      · rw [if_pos (Int.ofNat.inj e)] at k
        exact ⟨s1, k.read hA rfl rfl⟩
      · rw [if_neg (fun z => e (congrArg Int.ofNat z))] at k
        exact ⟨s1, k.read hA rfl rfl⟩
theorem ok_m_propose (F : Fun K "propose" "Disputation.propose" s_m_propose f fd) (T : Txt K mg C a_PROPOSITIONS a_WORLDS_OF_LETTERS a_HOW_MANY_GIVEN) (G_m_refusal : HasMt P w K mg base C "refusal" 2 ["self", "p"] (spRefusal C)) (G_m_standing : HasMt P w K mg base C "standing" 2 ["self"] (spStanding C)) (G_f_right_answer : HasFn P w K mg base "right_answer" 3 ["standing", "known", "p"] spRight) (G_f_bearing : HasFn P w K mg base "bearing" 2 ["standing", "p"] spBearing) (G_f_how_many_worlds : HasFn P w K mg base "how_many_worlds" 1 ["worlds"] spCount) : FnOk P w K mg base CX0 4 f fd ["self", "p"] (spM C (ar1 .propose) 2) := by
  refine F.ok sc_m_propose (fun vs H Q E h => h.1) (fun cdv A outer s H vs Q E hr h => ?_)
  · obtain ⟨_, p, l, h, c, args, rfl, ⟨x, rfl, rfl⟩, hA, k⟩ := h
    obtain ⟨g, D⟩ := id hA
    obtain ⟨⟨dx, hp⟩, xs, hl, pr⟩ := id D
    rw [act_propose] at k
    refine ⟨_, (pss_cons (ps_set (i := 2) sc_m_propose.nd rfl (Or.inl rfl) (pe_mt (pv 0) T.cl G_m_refusal (hr.mono (by decide)) (pa_cons (pv 1) pa_nil)))
      (pss_cons (ps_if (pt_cmpR op_ne (pv 2) pe_int (nomark _)) (pss_one (ps_ret (pe_lst (pa_cons (pv 2) pa_nil)))) pss_nil)
      (pss_cons (ps_if (pt_cmpR op_eq (pe_callB call_len_seq (by rfl) T.len PySem.boot_len (pa_cons (pe_fld (pv 0) rfl) pa_nil)) (pe_gint rfl T.g_MOST_PROPOSED) (nomark _)) (pss_one (ps_ret (pe_lst (pa_cons (pe_gint rfl T.g_TOO_MANY) pa_nil)))) pss_nil)
      (pss_cons (ps_set (i := 3) sc_m_propose.nd rfl (Or.inl rfl) (pe_mt0 (pv 0) T.cl G_m_standing (hr.mono (by decide))))
      (pss_cons (ps_set (i := 4) sc_m_propose.nd rfl (Or.inl rfl) (pe_fn G_f_right_answer (hr.mono (by decide)) rfl (pa_cons (pv 3) (pa_cons (pe_fld (pv 0) rfl) (pa_cons (pv 1) pa_nil)))))
      (pss_cons (ps_expr (pe_bm PySem.F.plainAttrs_list PySem.F.slot_list_append PySem.F.type_list_append mt_append (pe_fld (pv 0) rfl) (pa_cons (pe_tup (pa_cons (pv 1) (pa_cons (pv 4) pa_nil))) pa_nil)))
      (pss_one (ps_ret (pe_lst (pa_cons (pv 4) (pa_cons (pe_fn G_f_bearing (hr.mono (by decide)) rfl (pa_cons (pv 3) (pa_cons (pv 1) pa_nil))) (pa_cons (pe_fn G_f_how_many_worlds (hr.mono (by decide)) rfl (pa_cons (pe_mt0 (pv 0) T.cl G_m_standing (hr.mono (by decide))) pa_nil)) pa_nil)))))))))))), ?_⟩
    refine ⟨_, rfl, p, dx, _, rfl, hp, dno _ _ _ _, _, rfl, p, l, h, x, rfl, hA, fun hx => ?_, fun hx hn => ?_, fun hx hn => ?_⟩
    · rw [if_pos (nott' (by omega))] at k
      exact ⟨_, rfl, rfl, _, rfl, iteN (fun _ => ⟨_, rfl, s1, k.read hA rfl rfl⟩) (fun z => absurd z (by decide))⟩
    · rw [if_neg (nott hx), if_pos (isNone_of hn)] at k
      exact ⟨_, rfl, rfl, _, rfl, iteN (fun _ => ⟨_, rfl, s1, k.read hA rfl rfl⟩) (fun z => absurd z (by decide))⟩
    · rw [if_neg (nott hx), if_neg (isNone_ne hn)] at k
      refine ⟨_, rfl, rfl, _, rfl, iteN (fun z => absurd rfl z) (fun _ => ?_)⟩
      refine ⟨_, rfl, p, C, dx, _, _, rfl, hp, T.cl, T.n_proposed, df_proposed _ _ _ _, l, xs, rfl, .inl (SqL.of hl), rfl, _, rfl, ?_⟩
      show if decide (V.int (xs.length : Nat) = V.int (20 : Nat)) = true then _ else _
      have hlen := pr.len
      refine iteI (fun e => ?_) (fun e => ?_)
      · have e' : xs.length = 20 := Int.ofNat.inj e
        rw [if_pos (by omega)] at k
        exact ⟨s1, k.read hA rfl rfl⟩
      · have e' : xs.length ≠ 20 := fun z => e (congrArg Int.ofNat z)
        have hn20 := g.n
        rw [if_neg (by omega)] at k
        refine ⟨_, rfl, p, dx, _, rfl, hp, dno _ _ _ _, p, l, _, _, _, _, rfl, g.m, laid_le g, g.s, D, ?_⟩
        refine ⟨_, rfl, _, rfl, p, C, dx, _, _, rfl, hp, T.cl, T.n_known, df_known _ _ _ _, _, rfl, h.base, h.known, x, rfl, ?_⟩
        refine ⟨_, rfl, p, C, dx, _, _, rfl, hp, T.cl, T.n_proposed, df_proposed _ _ _ _, .inl ⟨rfl, _, SqL.of hl⟩, _, rfl, _, rfl, s2, fun t ht => ?_⟩
        have nlt : l ≠ t := ne_of_none hl ht
        have npt : p ≠ t := ne_of_none hp ht
        have npl : p ≠ l := D.ne
        refine ⟨l, xs, _, rfl, rfl, (by rw [upd_ne nlt]; exact hl), Nat.lt_of_lt_of_le (show xs.length < 21 by omega) (by decide), ?_⟩
        have D2 : Disp C (upd (upd H t (.tup [.int x, .int (Krb7.right h.known h.base x : Nat)])) l (.lst (xs ++ [.ref t]))) p l h.m h.known (h.laid.getD 0) (h.said ++ [(x, Krb7.right h.known h.base x)]) := by
          refine ⟨⟨dx, by rw [upd_ne npl, upd_ne npt]; exact hp⟩, _, upd_same, Prs.snoc (by rw [upd_ne nlt.symm, upd_same]) (pr.mono fun a y q ea => ?_)⟩
          rw [upd_ne (ne_of ea hl (by intro z; cases z)), upd_ne (ne_of_none ea ht)]
          exact ea
        have hs2 : ∀ y ∈ h.said ++ [(x, Krb7.right h.known h.base x)], y.1 ≤ Krb7.full h.m := fun y hy => by
          rcases List.mem_append.mp hy with z | z
          · exact g.s y z
          · rw [List.mem_singleton.mp z]
            exact hx
        refine ⟨_, rfl, _, rfl, _, rfl, h.base, x, rfl, ?_⟩
        refine ⟨_, rfl, p, dx, _, rfl, (by rw [upd_ne npl, upd_ne npt]; exact hp), dno _ _ _ _, p, l, _, _, _, _, rfl, g.m, laid_le g, hs2, D2, ?_⟩
        have eb : Krb7.stands h.m (h.laid.getD 0) (h.said ++ [(x, Krb7.right h.known h.base x)]) = Krb7.behind h.m h.base x (Krb7.right h.known h.base x) := stands_snoc _ _ _ _
        have hle : Krb7.stands h.m (h.laid.getD 0) (h.said ++ [(x, Krb7.right h.known h.base x)]) ≤ Krb7.full h.m := stands_le _ (laid_le g)
        refine ⟨_, rfl, Nat.le_trans hle (full_le g.m), s3, ?_⟩
        refine k.write (l' := l) ⟨⟨g.m, g.k0, g.k1, g.b, hs2, ?_, fun z => absurd z hn⟩, D2⟩ (.inl rfl) (Fr.refl.new ht).setL (fun b e => none_of_upd (none_of_upd e)) ?_
        · show (h.said ++ [(x, Krb7.right h.known h.base x)]).length ≤ 20
          rw [List.length_append, List.length_singleton]
          omega
        · show [V.int (Krb7.right h.known h.base x : Nat), V.int (Krb7.why h.base x : Nat), V.int (pc 8 (Krb7.stands h.m (h.laid.getD 0) (h.said ++ [(x, Krb7.right h.known h.base x)])) : Nat)] = [V.int (Krb7.right h.known h.base x : Nat), V.int (Krb7.why h.base x : Nat), V.int (Krb7.count h.m (Krb7.behind h.m h.base x (Krb7.right h.known h.base x)) : Nat)]
          rw [← eb, count_pc g.m hle]
end
end Ht

set_option Elab.async false
set_option linter.all false
set_option maxRecDepth 100000
set_option maxHeartbeats 2000000
namespace Ht
open PySem PySem.Spec PyProof.Rows L2
/-! ### 9. finish, log, row -/
def arL : List V → Hp → Krb7.Call → Prop := fun args H c => ∃ (a : Addr) (l : List Nat), args = [.ref a] ∧ H a = some (.lst (l.map fun n => V.int (n : Nat))) ∧ c = .row l
def logV (l : List (Nat × Nat)) : List V := l.flatMap fun x => [V.int (x.1 : Nat), V.int (x.2 : Nat)]
theorem logV_snoc (l : List (Nat × Nat)) (x q : Nat) : logV (l ++ [(x, q)]) = logV l ++ [V.int (x : Nat)] ++ [V.int (q : Nat)] := by
  unfold logV
  rw [List.flatMap_append, List.append_assoc]
  rfl
theorem logV_len : ∀ l : List (Nat × Nat), (logV l).length = 2 * l.length
  | [] => rfl
  | x :: l => by
    show ([V.int (x.1 : Nat), V.int (x.2 : Nat)] ++ logV l).length = 2 * (l.length + 1)
    rw [List.length_append, logV_len l]
    show 2 + 2 * l.length = 2 * (l.length + 1)
    omega
theorem logV_map (l : List (Nat × Nat)) : logV l = (l.flatMap fun x => [(x.1 : Int), (x.2 : Int)]).map V.int := by
  unfold logV
  rw [List.map_flatMap]
  rfl
/-- the answers to a row, and what stands behind it -/
theorem answers_snoc (m k : Nat) : ∀ (l : List Nat) (b x : Nat), Krb7.answers m k b (l ++ [x]) = ((Krb7.answers m k b l).1 ++ [Krb7.right k (Krb7.answers m k b l).2 x], Krb7.behind m (Krb7.answers m k b l).2 x (Krb7.right k (Krb7.answers m k b l).2 x))
  | [], b, x => rfl
  | y :: l, b, x => by
    show (Krb7.right k b y :: (Krb7.answers m k (Krb7.behind m b y (Krb7.right k b y)) (l ++ [x])).1, (Krb7.answers m k (Krb7.behind m b y (Krb7.right k b y)) (l ++ [x])).2) = _
    rw [answers_snoc m k l]
    rfl
theorem answers_le {m k : Nat} : ∀ (l : List Nat) {b : Nat}, b ≤ Krb7.full m → (Krb7.answers m k b l).2 ≤ Krb7.full m
  | [], _, h => h
  | y :: l, b, h => answers_le l (b := Krb7.behind m b y (Krb7.right k b y)) (behind_le h)
theorem answers_len {m k : Nat} : ∀ (l : List Nat) (b : Nat), (Krb7.answers m k b l).1.length = l.length
  | [], _ => rfl
  | y :: l, b => by
    show (Krb7.answers m k (Krb7.behind m b y (Krb7.right k b y)) l).1.length + 1 = l.length + 1
    rw [answers_len l]
theorem nats_map (l : List Nat) : l.map (fun n => V.int (n : Nat)) = (Krb7.ints l).map V.int := by
  unfold Krb7.ints
  rw [List.map_map]
  rfl
theorem get_nats {l : List Nat} {i : Nat} {y : V} (h : (l.map fun n => V.int (n : Nat))[i]? = some y) : ∃ x : Nat, l[i]? = some x ∧ y = V.int (x : Nat) := by
  rw [List.getElem?_map] at h
  cases e : l[i]? with
  | none =>
    rw [e] at h
    cases h
  | some z =>
    rw [e] at h
    exact ⟨z, rfl, (Option.some.inj h).symm⟩
section
variable {P : Program} {w : World} {K : PySem.W.Frag} {mg : Str → Option Value} {base : Heap} {f C a_PROPOSITIONS a_WORLDS_OF_LETTERS a_HOW_MANY_GIVEN : Addr} {fd : FuncData}
theorem ok_m_finish (F : Fun K "finish" "Disputation.finish" s_m_finish f fd) (T : Txt K mg C a_PROPOSITIONS a_WORLDS_OF_LETTERS a_HOW_MANY_GIVEN) (G_m_how_many_proposed : HasMt P w K mg base C "how_many_proposed" 2 ["self", "answer", "by_known"] (spTally C)) : FnOk P w K mg base CX0 3 f fd ["self"] (spM C (ar0 .finish) 1) := by
  refine F.ok sc_m_finish (fun vs H Q E h => h.1) (fun cdv A outer s H vs Q E hr h => ?_)
  · obtain ⟨_, p, l, h, c, args, rfl, ⟨rfl, rfl⟩, hA, k⟩ := h
    obtain ⟨g, D⟩ := id hA
    obtain ⟨⟨dx, hp⟩, xs, hl, pr⟩ := id D
    rw [act_finish] at k
    refine ⟨_, (pss_cons (ps_if (pt_cmpR op_eq (pe_fld (pv 0) rfl) pe_int (nomark _)) (pss_one (ps_ret (pe_lst (pa_cons (pe_gint rfl T.g_NOTHING_THERE) pa_nil)))) pss_nil)
      (pss_cons (ps_set (i := 1) sc_m_finish.nd rfl (Or.inl rfl) (pe_mt (pv 0) T.cl G_m_how_many_proposed (hr.mono (by decide)) (pa_cons (pe_gint rfl T.g_CONCEDED) (pa_cons (pe_gint rfl T.g_DENIED) pa_nil))))
      (pss_cons (ps_set (i := 2) sc_m_finish.nd rfl (Or.inl rfl) (pe_mt (pv 0) T.cl G_m_how_many_proposed (hr.mono (by decide)) (pa_cons (pe_gint rfl T.g_DENIED) (pa_cons (pe_gint rfl T.g_CONCEDED) pa_nil))))
      (pss_cons (ps_set (i := 3) sc_m_finish.nd rfl (Or.inl rfl) (pe_lst (pa_cons (pe_callB call_len_seq (by rfl) T.len PySem.boot_len (pa_cons (pe_fld (pv 0) rfl) pa_nil)) (pa_cons (pv 1) (pa_cons (pv 2) pa_nil)))))
      (pss_cons (ps_fld (pv 0) pe_int rfl)
      (pss_cons (ps_fld (pv 0) (pe_lst pa_nil) rfl)
      (pss_one (ps_ret (pv 3))))))))), ?_⟩
    refine ⟨_, rfl, p, C, dx, _, _, rfl, hp, T.cl, T.n_laid, df_laid _ _ _ _, rfl, _, rfl, ?_⟩
    show if decide (V.int (h.laid.getD 0 : Nat) = V.int (0 : Nat)) = true then _ else _
    refine iteI (fun e => ?_) (fun e => ?_)
    · rw [if_pos (isNone_of ((laid_zero g).mp (Int.ofNat.inj e)))] at k
      exact ⟨s1, k.read hA rfl rfl⟩
    · rw [if_neg (isNone_ne fun z => e (congrArg Int.ofNat ((laid_zero g).mpr z)))] at k
      refine ⟨_, rfl, p, dx, _, rfl, hp, dno _ _ _ _, p, l, _, _, _, 1, 0, _, rfl, D, ?_⟩
      refine ⟨_, rfl, p, dx, _, rfl, hp, dno _ _ _ _, p, l, _, _, _, 0, 1, _, rfl, D, ?_⟩
      refine ⟨_, rfl, p, C, dx, _, _, rfl, hp, T.cl, T.n_proposed, df_proposed _ _ _ _, l, xs, rfl, .inl (SqL.of hl), _, rfl, _, rfl, s3, fun r hr => ?_⟩
      have npr : p ≠ r := ne_of_none hp hr
      refine ⟨_, rfl, p, C, dx, _, rfl, (by rw [upd_ne npr]; exact hp), T.cl, T.n_laid, df_len _ _ _ _, ?_⟩
      rw [show putF "laid" (V.int 0) (df h.m h.known (h.laid.getD 0) l) = df h.m h.known 0 l from df_put_laid _ _ _ 0 l]
      refine ⟨(by show 0 ≤ sizeLine; decide), fun l' hl' => ?_⟩
      have npl : p ≠ l' := Ne.symm (ne_of_upd hl')
      have nrl : r ≠ l' := Ne.symm (ne_of_upd (none_of_upd hl'))
      have nl' : H l' = none := none_of_upd (none_of_upd hl')
      refine ⟨_, rfl, p, C, dx, _, rfl, (by rw [upd_ne npl]; exact upd_same), T.cl, T.n_proposed, df_len _ _ _ _, ?_⟩
      rw [df_put_proposed]
      refine ⟨_, rfl, ?_⟩
      refine k _ l' r ⟨⟨g.m, g.k0, g.k1, fun _ z => (nomatch z), fun _ z => absurd z (by simp), Nat.zero_le _, fun _ => rfl⟩, ⟨dx, upd_same⟩, [], by rw [upd_ne npl.symm, upd_same], .nil⟩ (.inr nl') hr ?_ (((Fr.refl.new hr).set).new hl').set
      rw [upd_ne npr.symm, upd_ne nrl, upd_ne npr.symm, upd_same]
      show some (HO.lst [V.int (xs.length : Nat), _, _]) = some (HO.lst [V.int (h.said.length : Nat), _, _])
      rw [pr.len]
theorem ok_m_log (F : Fun K "log" "Disputation.log" s_m_log f fd) (T : Txt K mg C a_PROPOSITIONS a_WORLDS_OF_LETTERS a_HOW_MANY_GIVEN) : FnOk P w K mg base CX0 1 f fd ["self"] (spM C (ar0 .log) 1) := by
  refine F.ok sc_m_log (fun vs H Q E h => h.1) (fun cdv A outer s H vs Q E hr h => ?_)
  · obtain ⟨_, p, l, h, c, args, rfl, ⟨rfl, rfl⟩, hA, k⟩ := h
    obtain ⟨g, D⟩ := id hA
    obtain ⟨⟨dx, hp⟩, xs, hl, pr⟩ := id D
    rw [act_log] at k
    have hlen := pr.len
    have hn := g.n
    refine ⟨_, (pss_cons (ps_set (i := 1) sc_m_log.nd rfl (Or.inl rfl) (pe_lst (pa_cons (pe_callB call_len_seq (by rfl) T.len PySem.boot_len (pa_cons (pe_fld (pv 0) rfl) pa_nil)) pa_nil)))
      (pss_cons (ps_for PassesOwn.never rfl (pi_list (pe_fld (pv 0) rfl)) (pg_tup rfl (pgs_cons (pg_name (i := 2) sc_m_log.nd rfl (Or.inl rfl)) (pgs_cons (pg_name (i := 3) sc_m_log.nd rfl (Or.inl rfl)) pgs_nil))) (pss_cons (ps_expr (pe_bm PySem.F.plainAttrs_list PySem.F.slot_list_append PySem.F.type_list_append mt_append (pv 1) (pa_cons (pv 2) pa_nil)))
      (pss_one (ps_expr (pe_bm PySem.F.plainAttrs_list PySem.F.slot_list_append PySem.F.type_list_append mt_append (pv 1) (pa_cons (pv 3) pa_nil))))))
      (pss_one (ps_ret (pv 1))))), ?_⟩
    refine ⟨_, rfl, p, C, dx, _, _, rfl, hp, T.cl, T.n_proposed, df_proposed _ _ _ _, l, xs, rfl, .inl (SqL.of hl), s1, fun r hr => ?_⟩
    have sm : ∀ o, Same H (upd H r o) := fun o => fresh_same hr
    refine ⟨_, rfl, p, C, dx, _, _, rfl, sm _ _ _ hp, T.cl, T.n_proposed, df_proposed _ _ _ _, l, rfl, ⟨_, SqL.of (sm _ _ _ hl)⟩,
      for_list (K := K) (a := l) (xs := xs) (fun i σ H' => ∃ u v : Option V, σ = [some (.ref p), some (.ref r), u, v] ∧ H' = upd H r (.lst (V.int (xs.length : Nat) :: logV (h.said.take i)))) ⟨none, none, rfl, rfl⟩ (fun i σ H' _ ⟨_, _, _, e⟩ => by rw [e]; exact SqL.of (sm _ _ _ hl)) ?_ ?_⟩
    · rintro i y σ H' hi ⟨u, v, rfl, rfl⟩
      obtain ⟨c, x, q, rfl, hx, hc⟩ := pr.get hi
      have hil : (h.said.take i).length ≤ 20 := by
        rw [List.length_take]
        omega
      refine ⟨c, _, rfl, SqT.of (sm _ _ _ hc), rfl, _, _, rfl, _, _, rfl, rfl, ?_⟩
      refine ⟨_, rfl, .inl ⟨rfl, _, SqL.of upd_same⟩, _, rfl, r, _, _, rfl, rfl, upd_same, ?_, ?_⟩
      · rw [List.length_cons, logV_len]
        exact Nat.lt_of_le_of_lt (show 2 * (h.said.take i).length + 1 ≤ 41 by omega) (by decide)
      refine ⟨_, rfl, .inl ⟨rfl, _, SqL.of upd_same⟩, _, rfl, r, _, _, rfl, rfl, upd_same, ?_, ?_⟩
      · rw [List.length_append, List.length_cons, logV_len]
        exact Nat.lt_of_le_of_lt (show 2 * (h.said.take i).length + 1 + 1 ≤ 42 by omega) (by decide)
      refine ⟨some (.int x), some (.int q), rfl, ?_⟩
      rw [upd_upd, upd_upd, take_snoc hx, logV_snoc]
      rfl
    · rintro σ H' ⟨u, v, rfl, rfl⟩
      refine ⟨_, rfl, ?_⟩
      refine k.read hA rfl ?_ r hr
      show V.int (xs.length : Nat) :: logV (h.said.take xs.length) = V.int (h.said.length : Nat) :: (h.said.flatMap fun x => [(x.1 : Int), (x.2 : Int)]).map V.int
      rw [List.take_of_length_le (by rw [hlen]; exact Nat.le_refl _), hlen, logV_map]
theorem ok_m_row (F : Fun K "row" "Disputation.row" s_m_row f fd) (T : Txt K mg C a_PROPOSITIONS a_WORLDS_OF_LETTERS a_HOW_MANY_GIVEN) (G_m_is_proposition : HasMt P w K mg base C "is_proposition" 1 ["self", "p"] (spIsProp C)) (G_m_standing : HasMt P w K mg base C "standing" 2 ["self"] (spStanding C)) (G_f_right_answer : HasFn P w K mg base "right_answer" 3 ["standing", "known", "p"] spRight) (G_f_narrowed : HasFn P w K mg base "narrowed" 1 ["standing", "p", "answer"] spNarrow) : FnOk P w K mg base CX0 4 f fd ["self", "propositions"] (spM C arL 2) := by
  refine F.ok sc_m_row (fun vs H Q E h => h.1) (fun cdv A outer s H vs Q E hr h => ?_)
  · obtain ⟨_, p, l, h, c, args, rfl, ⟨a, ns, rfl, ha, rfl⟩, hA, k⟩ := h
    obtain ⟨g, D⟩ := id hA
    obtain ⟨⟨dx, hp⟩, xs, hl, pr⟩ := id D
    rw [act_row] at k
    refine ⟨_, (pss_cons (ps_if (pt_cmpR op_gt (pe_callB call_len_seq (by rfl) T.len PySem.boot_len (pa_cons (pv 1) pa_nil)) (pe_gint rfl T.g_LONGEST_ROW) (nomark _)) (pss_one (ps_ret (pe_lst (pa_cons (pe_gint rfl T.g_NOT_RIGHT) pa_nil)))) pss_nil)
      (pss_cons (ps_for PassesOwn.never rfl (pi_list (pv 1)) (pg_name (i := 2) sc_m_row.nd rfl (Or.inl rfl)) (pss_one (ps_if (pt_not (pt_val (pe_mt (pv 0) T.cl G_m_is_proposition (hr.mono (by decide)) (pa_cons (pv 2) pa_nil)))) (pss_one (ps_ret (pe_lst (pa_cons (pe_gint rfl T.g_NOT_RIGHT) pa_nil)))) pss_nil)))
      (pss_cons (ps_if (pt_cmpR op_eq (pe_fld (pv 0) rfl) pe_int (nomark _)) (pss_one (ps_ret (pe_lst (pa_cons (pe_gint rfl T.g_NOTHING_THERE) pa_nil)))) pss_nil)
      (pss_cons (ps_set (i := 3) sc_m_row.nd rfl (Or.inl rfl) (pe_lst (pa_cons (pe_callB call_len_seq (by rfl) T.len PySem.boot_len (pa_cons (pv 1) pa_nil)) pa_nil)))
      (pss_cons (ps_set (i := 4) sc_m_row.nd rfl (Or.inl rfl) (pe_mt0 (pv 0) T.cl G_m_standing (hr.mono (by decide))))
      (pss_cons (ps_for PassesOwn.never rfl (pi_list (pv 1)) (pg_name (i := 2) sc_m_row.nd rfl (Or.inl rfl)) (pss_cons (ps_set (i := 5) sc_m_row.nd rfl (Or.inl rfl) (pe_fn G_f_right_answer (hr.mono (by decide)) rfl (pa_cons (pv 4) (pa_cons (pe_fld (pv 0) rfl) (pa_cons (pv 2) pa_nil)))))
      (pss_cons (ps_set (i := 4) sc_m_row.nd rfl (Or.inl rfl) (pe_fn G_f_narrowed (hr.mono (by decide)) rfl (pa_cons (pv 4) (pa_cons (pv 2) (pa_cons (pv 5) pa_nil)))))
      (pss_one (ps_expr (pe_bm PySem.F.plainAttrs_list PySem.F.slot_list_append PySem.F.type_list_append mt_append (pv 3) (pa_cons (pv 5) pa_nil)))))))
      (pss_one (ps_ret (pv 3))))))))), ?_⟩
    refine ⟨_, rfl, a, _, rfl, .inl (SqL.of ha), _, _, rfl, rfl, _, rfl, ?_⟩
    show if decide ((16 : Int) < ((ns.map fun n => V.int (n : Nat)).length : Nat)) = true then _ else _
    rw [List.length_map]
    refine iteP (fun h1 => ?_) (fun h1 => ?_)
    · rw [if_pos (by rw [decide_eq_true (show 16 < ns.length by omega)]; rfl)] at k
      exact ⟨s1, k.read hA rfl rfl⟩
    have hns : ns.length ≤ 16 := by omega
    refine ⟨_, rfl, a, rfl, ⟨_, SqL.of ha⟩, for_list (K := K) (a := a) (xs := ns.map fun n => V.int (n : Nat)) (fun i σ H' => H' = H ∧ (∀ x ∈ ns.take i, x ≤ Krb7.full h.m) ∧ ∃ v : Option V, σ = [some (.ref p), some (.ref a), v, none, none, none])
      ⟨rfl, fun x hx => absurd hx (by simp), none, rfl⟩ (fun i σ H' _ ⟨e, _⟩ => by rw [e]; exact SqL.of ha) ?_ ?_⟩
    · rintro i y σ H' hi ⟨rfl, hall, v, rfl⟩
      obtain ⟨x, hx, rfl⟩ := get_nats hi
      refine ⟨_, rfl, p, dx, _, rfl, hp, dno _ _ _ _, _, rfl, p, dx, l, _, _, _, x, rfl, g.m, hp, _, rfl, ?_⟩
      by_cases hxx : x ≤ Krb7.full h.m
      · rw [decide_eq_true hxx]
        refine iteF ⟨rfl, fun z hz => ?_, some (.int x), rfl⟩
        rw [take_snoc hx] at hz
        rcases List.mem_append.mp hz with q | q
        · exact hall z q
        · rw [List.mem_singleton.mp q]
          exact hxx
      · rw [decide_eq_false hxx]
        rw [if_pos (by rw [List.any_eq_true.mpr ⟨x, List.mem_of_getElem? hx, nott' hxx⟩, Bool.or_true])] at k
        exact iteT ⟨s1, k.read hA rfl rfl⟩
    · rintro σ H' ⟨rfl, hall, v, rfl⟩
      rw [List.length_map, List.take_length] at hall
      rw [if_neg (show ¬ (decide (16 < ns.length) || ns.any (fun p => !(decide (p ≤ Krb7.full h.m)))) = true by
        rw [decide_eq_false (show ¬ 16 < ns.length by omega), Bool.false_or]
        intro z
        obtain ⟨x, hx, e⟩ := List.any_eq_true.mp z
        exact nott (hall x hx) e)] at k
      refine ⟨_, rfl, p, C, dx, _, _, rfl, hp, T.cl, T.n_laid, df_laid _ _ _ _, rfl, _, rfl, ?_⟩
      show if decide (V.int (h.laid.getD 0 : Nat) = V.int (0 : Nat)) = true then _ else _
      refine iteI (fun e => ?_) (fun e => ?_)
      · rw [if_pos (isNone_of ((laid_zero g).mp (Int.ofNat.inj e)))] at k
        exact ⟨s1, k.read hA rfl rfl⟩
      · rw [if_neg (isNone_ne fun z => e (congrArg Int.ofNat ((laid_zero g).mpr z)))] at k
        refine ⟨_, rfl, a, _, rfl, .inl (SqL.of ha), s1, fun r hr => ?_⟩
        have sm : ∀ o, Same H' (upd H' r o) := fun o => fresh_same hr
        have hp' := fun o => sm o _ _ hp
        refine ⟨_, rfl, p, dx, _, rfl, hp' _, dno _ _ _ _, p, l, _, _, _, _, rfl, g.m, laid_le g, g.s, D.keep (sm _), ?_⟩
        refine ⟨_, rfl, a, rfl, ⟨_, SqL.of (sm _ _ _ ha)⟩, for_list (K := K) (a := a) (xs := ns.map fun n => V.int (n : Nat)) (fun i σ H2 => ∃ v u : Option V, σ = [some (.ref p), some (.ref a), v, some (.ref r), some (.int ((Krb7.answers h.m h.known h.base (ns.take i)).2 : Nat)), u] ∧
            H2 = upd H' r (.lst (V.int (ns.length : Nat) :: (Krb7.answers h.m h.known h.base (ns.take i)).1.map fun n => V.int (n : Nat))))
          ⟨v, none, rfl, by rw [List.length_map]; rfl⟩ (fun i σ H2 _ ⟨_, _, _, e⟩ => by rw [e]; exact SqL.of (sm _ _ _ ha)) ?_ ?_⟩
        · rintro i y σ H2 hi ⟨v, u, rfl, rfl⟩
          obtain ⟨x, hx, rfl⟩ := get_nats hi
          have hx1 : x ≤ Krb7.full h.m := hall x (List.mem_of_getElem? hx)
          have hle : (Krb7.answers h.m h.known h.base (ns.take i)).2 ≤ Krb7.full h.m := answers_le _ (base_le g)
          refine ⟨_, rfl, _, rfl, p, C, dx, _, _, rfl, hp' _, T.cl, T.n_known, df_known _ _ _ _, _, rfl, _, h.known, x, rfl, ?_⟩
          refine ⟨_, rfl, _, rfl, _, rfl, h.m, _, x, _, rfl, g.m, hle, hx1, ?_⟩
          refine ⟨_, rfl, .inl ⟨rfl, _, SqL.of upd_same⟩, _, rfl, r, _, _, rfl, rfl, upd_same, ?_, ?_⟩
          · rw [List.length_cons, List.length_map, answers_len, List.length_take]
            exact Nat.lt_of_le_of_lt (show min i ns.length + 1 ≤ 17 by omega) (by decide)
          · refine ⟨some (.int x), some (.int (Krb7.right h.known (Krb7.answers h.m h.known h.base (ns.take i)).2 x : Nat)), ?_, ?_⟩
            · rw [take_snoc hx, answers_snoc]
              rfl
            · rw [upd_upd, take_snoc hx, answers_snoc]
              show _ = upd H' r (.lst (V.int (ns.length : Nat) :: ((Krb7.answers h.m h.known h.base (ns.take i)).1 ++ [Krb7.right h.known (Krb7.answers h.m h.known h.base (ns.take i)).2 x]).map fun n => V.int (n : Nat)))
              rw [List.map_append]
              rfl
        · rintro σ H2 ⟨v, u, rfl, rfl⟩
          refine ⟨_, rfl, ?_⟩
          refine k.read hA rfl ?_ r hr
          rw [List.length_map, List.take_length]
          show V.int (ns.length : Nat) :: _ = V.int ((Krb7.answers h.m h.known h.base ns).1.length : Nat) :: (Krb7.ints (Krb7.answers h.m h.known h.base ns).1).map V.int
          rw [answers_len, nats_map]
end
end Ht

set_option Elab.async false
set_option linter.all false
set_option maxRecDepth 100000
set_option maxHeartbeats 2000000
namespace Ht
open PySem PySem.Spec PyProof.Rows L2
/-! ### 9b. Stage 2: what nothing need be laid down for -/
theorem prop_at {m : Nat} (hm : M m) : ∃ n : Nat, ([.int 0, .int 4, .int 16, .int 256] : List V)[m]? = some (.int (n : Nat)) ∧ n = Krb7.full m + 1 := by
  rcases hm with rfl | rfl | rfl
  · exact ⟨4, rfl, rfl⟩
  · exact ⟨16, rfl, rfl⟩
  · exact ⟨256, rfl, rfl⟩
def spAre (C : Addr) : Sp := fun vs H Q _ => ∃ (p dx l : Addr) (m k b x y : Nat), vs = [.ref p, .int x, .int y] ∧ M m ∧ H p = some (.ins C dx (df m k b l)) ∧ Q (.bl (decide (x ≤ Krb7.full m) && decide (y ≤ Krb7.full m))) H
def spFull (C : Addr) : Sp := fun vs H Q _ => ∃ (p dx l : Addr) (m k b : Nat), vs = [.ref p] ∧ M m ∧ H p = some (.ins C dx (df m k b l)) ∧ Q (.int (Krb7.full m : Nat)) H
theorem two_bad {x y f : Nat} (h : ¬ (decide (x ≤ f) && decide (y ≤ f)) = true) : (!(decide (x ≤ f)) || !(decide (y ≤ f))) = true := by
  revert h
  cases decide (x ≤ f) <;> cases decide (y ≤ f) <;> decide
theorem two_good {x y f : Nat} (h : (decide (x ≤ f) && decide (y ≤ f)) = true) : ¬ (!(decide (x ≤ f)) || !(decide (y ≤ f))) = true := by
  revert h
  cases decide (x ≤ f) <;> cases decide (y ≤ f) <;> decide
theorem letter_val {m i : Nat} (hm : M m) (hi : i < m) : ∃ w : Nat, ([.int 170, .int 204, .int 240] : List V)[i]? = some (.int (w : Nat)) ∧ w &&& Krb7.full m = Krb7.letter m i := by
  have k1 : ∀ i : _root_.Fin 1, ([170, 204, 240] : List Nat).getD i.val 0 &&& Krb7.full 1 = Krb7.letter 1 i.val := by decide +kernel
  have k2 : ∀ i : _root_.Fin 2, ([170, 204, 240] : List Nat).getD i.val 0 &&& Krb7.full 2 = Krb7.letter 2 i.val := by decide +kernel
  have k3 : ∀ i : _root_.Fin 3, ([170, 204, 240] : List Nat).getD i.val 0 &&& Krb7.full 3 = Krb7.letter 3 i.val := by decide +kernel
  have g : ∀ {i : Nat}, i < 3 → ([.int 170, .int 204, .int 240] : List V)[i]? = some (.int ((([170, 204, 240] : List Nat).getD i 0 : Nat) : Int)) := fun {i} h => match i, h with
    | 0, _ => rfl
    | 1, _ => rfl
    | 2, _ => rfl
  rcases hm with rfl | rfl | rfl
  · exact ⟨_, g (by omega), k1 ⟨i, hi⟩⟩
  · exact ⟨_, g (by omega), k2 ⟨i, hi⟩⟩
  · exact ⟨_, g (by omega), k3 ⟨i, hi⟩⟩
section
variable {P : Program} {w : World} {K : PySem.W.Frag} {mg : Str → Option Value} {base : Heap} {f C a_PROPOSITIONS a_WORLDS_OF_LETTERS a_HOW_MANY_GIVEN : Addr} {fd : FuncData}
theorem ok_m_are_propositions (F : Fun K "are_propositions" "Disputation.are_propositions" s_m_are_propositions f fd) (T : Txt K mg C a_PROPOSITIONS a_WORLDS_OF_LETTERS a_HOW_MANY_GIVEN) (G_m_is_proposition : HasMt P w K mg base C "is_proposition" 1 ["self", "p"] (spIsProp C)) : FnOk P w K mg base CX0 2 f fd ["self", "p", "q"] (spAre C) := by
  refine F.ok sc_m_are_propositions (fun vs H Q E h => ?_) (fun cdv A outer s H vs Q E hr h => ?_)
  · obtain ⟨p, dx, l, m, a, b, x, y, rfl, _⟩ := h
    rfl
  · obtain ⟨p, dx, l, m, a, b, x, y, rfl, hm, hp, k⟩ := h
    refine ⟨_, (pss_one (ps_ret (pe_and (pe_mt (pv 0) T.cl G_m_is_proposition (hr.mono (by decide)) (pa_cons (pv 1) pa_nil)) (pe_one (pe_mt (pv 0) T.cl G_m_is_proposition (hr.mono (by decide)) (pa_cons (pv 2) pa_nil)))))), ?_⟩
    refine ⟨_, rfl, p, dx, _, rfl, hp, dno _ _ _ _, _, rfl, p, dx, l, _, _, _, x, rfl, hm, hp, _, rfl, ?_⟩
    cases e : decide (x ≤ Krb7.full m) with
    | false =>
      rw [e] at k
      exact iteF k
    | true =>
      rw [e] at k
      exact iteT ⟨_, rfl, p, dx, _, rfl, hp, dno _ _ _ _, _, rfl, p, dx, l, _, _, _, y, rfl, hm, hp, k⟩
theorem ok_m_all_worlds (F : Fun K "all_worlds" "Disputation.all_worlds" s_m_all_worlds f fd) (T : Txt K mg C a_PROPOSITIONS a_WORLDS_OF_LETTERS a_HOW_MANY_GIVEN) : FnOk P w K mg base CX0 1 f fd ["self"] (spFull C) := by
  refine F.ok sc_m_all_worlds (fun vs H Q E h => ?_) (fun cdv A outer s H vs Q E hr h => ?_)
  · obtain ⟨p, dx, l, m, a, b, rfl, _⟩ := h
    rfl
  · obtain ⟨p, dx, l, m, a, b, rfl, hm, hp, k⟩ := h
    refine ⟨_, (pss_one (ps_ret (pe_op op_sub (pe_ix ix_tup (pe_glob (v := .ref a_PROPOSITIONS) rfl T.g_PROPOSITIONS rfl) (pe_fld (pv 0) rfl) (fun _ _ => rfl)) pe_int))), ?_⟩
    obtain ⟨n, hn, en⟩ := prop_at hm
    refine ⟨_, rfl, p, C, dx, _, _, rfl, hp, T.cl, T.n_letters, df_letters _ _ _ _, _, _, _, _, rfl, rfl, T.t_PROPOSITIONS _, atI_nat hn, _, _, rfl, rfl, ?_⟩
    show Q (.int ((n : Int) - 1)) H
    rw [show (n : Int) - 1 = ((Krb7.full m : Nat) : Int) by omega]
    exact k
theorem ok_m_truth (F : Fun K "truth" "Disputation.truth" s_m_truth f fd) (T : Txt K mg C a_PROPOSITIONS a_WORLDS_OF_LETTERS a_HOW_MANY_GIVEN) (G_m_is_proposition : HasMt P w K mg base C "is_proposition" 1 ["self", "p"] (spIsProp C)) (G_f_verdict : HasFn P w K mg base "verdict" 1 ["worlds", "p"] spVerdict) : FnOk P w K mg base CX0 2 f fd ["self", "p"] (spM C (ar1 .truth) 2) := by
  refine F.ok sc_m_truth (fun vs H Q E h => h.1) (fun cdv A outer s H vs Q E hr h => ?_)
  · obtain ⟨_, p, l, h, c, args, rfl, ⟨x, rfl, rfl⟩, hA, k⟩ := h
    obtain ⟨g, D⟩ := id hA
    obtain ⟨⟨dx, hp⟩, xs, hl, pr⟩ := id D
    rw [act_truth] at k
    refine ⟨_, (pss_cons (ps_if (pt_not (pt_val (pe_mt (pv 0) T.cl G_m_is_proposition (hr.mono (by decide)) (pa_cons (pv 1) pa_nil)))) (pss_one (ps_ret (pe_lst (pa_cons (pe_gint rfl T.g_NOT_RIGHT) pa_nil)))) pss_nil)
      (pss_one (ps_ret (pe_lst (pa_cons (pe_fn G_f_verdict (hr.mono (by decide)) rfl (pa_cons (pe_fld (pv 0) rfl) (pa_cons (pv 1) pa_nil))) pa_nil))))), ?_⟩
    refine ⟨_, rfl, p, dx, _, rfl, hp, dno _ _ _ _, _, rfl, p, dx, l, _, _, _, x, rfl, g.m, hp, _, rfl, ?_⟩
    by_cases hx : x ≤ Krb7.full h.m
    · rw [decide_eq_true hx]
      rw [if_neg (nott hx)] at k
      refine iteF ?_
      exact ⟨_, rfl, p, C, dx, _, _, rfl, hp, T.cl, T.n_known, df_known _ _ _ _, _, rfl, h.known, x, rfl, s1, k.read hA rfl rfl⟩
    · rw [decide_eq_false hx]
      rw [if_pos (nott' hx)] at k
      exact iteT ⟨s1, k.read hA rfl rfl⟩
theorem ok_m_letter (F : Fun K "letter" "Disputation.letter" s_m_letter f fd) (T : Txt K mg C a_PROPOSITIONS a_WORLDS_OF_LETTERS a_HOW_MANY_GIVEN) (G_m_all_worlds : HasMt P w K mg base C "all_worlds" 1 ["self"] (spFull C)) : FnOk P w K mg base CX0 2 f fd ["self", "i"] (spM C (ar1 .letter) 2) := by
  refine F.ok sc_m_letter (fun vs H Q E h => h.1) (fun cdv A outer s H vs Q E hr h => ?_)
  · obtain ⟨_, p, l, h, c, args, rfl, ⟨x, rfl, rfl⟩, hA, k⟩ := h
    obtain ⟨g, D⟩ := id hA
    obtain ⟨⟨dx, hp⟩, xs, hl, pr⟩ := id D
    rw [act_letter] at k
    refine ⟨_, (pss_cons (ps_if (pt_cmpR op_ge (pv 1) (pe_fld (pv 0) rfl) (nomark _)) (pss_one (ps_ret (pe_lst (pa_cons (pe_gint rfl T.g_NO_SUCH_LETTER) pa_nil)))) pss_nil)
      (pss_one (ps_ret (pe_lst (pa_cons (pe_op op_and (pe_ix ix_tup (pe_glob (v := .ref a_WORLDS_OF_LETTERS) rfl T.g_WORLDS_OF_LETTERS rfl) (pv 1) (fun _ _ => rfl)) (pe_mt0 (pv 0) T.cl G_m_all_worlds (hr.mono (by decide)))) pa_nil))))), ?_⟩
    refine ⟨_, rfl, _, rfl, p, C, dx, _, _, rfl, hp, T.cl, T.n_letters, df_letters _ _ _ _, _, _, rfl, rfl, _, rfl, ?_⟩
    show if decide ((h.m : Int) ≤ (x : Int)) = true then _ else _
    refine iteP (fun h1 => ?_) (fun h1 => ?_)
    · rw [if_pos (by omega)] at k
      exact ⟨s1, k.read hA rfl rfl⟩
    · rw [if_neg (by omega)] at k
      obtain ⟨v, hv, ev⟩ := letter_val g.m (show x < h.m by omega)
      refine ⟨_, rfl, _, _, _, _, rfl, rfl, T.t_WORLDS_OF_LETTERS _, atI_nat hv, ?_⟩
      refine ⟨_, rfl, p, dx, _, rfl, hp, dno _ _ _ _, p, dx, l, _, _, _, rfl, g.m, hp, _, _, rfl, rfl, s1, ?_⟩
      refine k.read hA rfl ?_
      show [V.int (Builtin.bitAnd (v : Int) ((Krb7.full h.m : Nat) : Int))] = [V.int (Krb7.letter h.m x : Nat)]
      rw [band, ev]
theorem ok_m_not_of (F : Fun K "not_of" "Disputation.not_of" s_m_not_of f fd) (T : Txt K mg C a_PROPOSITIONS a_WORLDS_OF_LETTERS a_HOW_MANY_GIVEN) (G_m_is_proposition : HasMt P w K mg base C "is_proposition" 1 ["self", "p"] (spIsProp C)) (G_m_all_worlds : HasMt P w K mg base C "all_worlds" 1 ["self"] (spFull C)) : FnOk P w K mg base CX0 2 f fd ["self", "p"] (spM C (ar1 .not_) 2) := by
  refine F.ok sc_m_not_of (fun vs H Q E h => h.1) (fun cdv A outer s H vs Q E hr h => ?_)
  · obtain ⟨_, p, l, h, c, args, rfl, ⟨x, rfl, rfl⟩, hA, k⟩ := h
    obtain ⟨g, D⟩ := id hA
    obtain ⟨⟨dx, hp⟩, xs, hl, pr⟩ := id D
    rw [act_not] at k
    refine ⟨_, (pss_cons (ps_if (pt_not (pt_val (pe_mt (pv 0) T.cl G_m_is_proposition (hr.mono (by decide)) (pa_cons (pv 1) pa_nil)))) (pss_one (ps_ret (pe_lst (pa_cons (pe_gint rfl T.g_NOT_RIGHT) pa_nil)))) pss_nil)
      (pss_one (ps_ret (pe_lst (pa_cons (pe_op op_sub (pe_mt0 (pv 0) T.cl G_m_all_worlds (hr.mono (by decide))) (pv 1)) pa_nil))))), ?_⟩
    refine ⟨_, rfl, p, dx, _, rfl, hp, dno _ _ _ _, _, rfl, p, dx, l, _, _, _, x, rfl, g.m, hp, _, rfl, ?_⟩
    by_cases hx : x ≤ Krb7.full h.m
    · rw [decide_eq_true hx]
      rw [if_neg (nott hx)] at k
      refine iteF ?_
      refine ⟨_, rfl, p, dx, _, rfl, hp, dno _ _ _ _, p, dx, l, _, _, _, rfl, g.m, hp, _, rfl, _, _, rfl, rfl, s1, ?_⟩
      refine k.read hA rfl ?_
      show [V.int (((Krb7.full h.m : Nat) : Int) - (x : Int))] = [V.int (Krb7.full h.m - x : Nat)]
      rw [Int.ofNat_sub hx]
    · rw [decide_eq_false hx]
      rw [if_pos (nott' hx)] at k
      exact iteT ⟨s1, k.read hA rfl rfl⟩
theorem ok_m_both (F : Fun K "both" "Disputation.both" s_m_both f fd) (T : Txt K mg C a_PROPOSITIONS a_WORLDS_OF_LETTERS a_HOW_MANY_GIVEN) (G_m_are_propositions : HasMt P w K mg base C "are_propositions" 2 ["self", "p", "q"] (spAre C)) : FnOk P w K mg base CX0 3 f fd ["self", "p", "q"] (spM C (ar2 .both) 3) := by
  refine F.ok sc_m_both (fun vs H Q E h => h.1) (fun cdv A outer s H vs Q E hr h => ?_)
  · obtain ⟨_, p, l, h, c, args, rfl, ⟨x, y, rfl, rfl⟩, hA, k⟩ := h
    obtain ⟨g, D⟩ := id hA
    obtain ⟨⟨dx, hp⟩, xs, hl, pr⟩ := id D
    rw [act_both] at k
    refine ⟨_, (pss_cons (ps_if (pt_not (pt_val (pe_mt (pv 0) T.cl G_m_are_propositions (hr.mono (by decide)) (pa_cons (pv 1) (pa_cons (pv 2) pa_nil))))) (pss_one (ps_ret (pe_lst (pa_cons (pe_gint rfl T.g_NOT_RIGHT) pa_nil)))) pss_nil)
      (pss_one (ps_ret (pe_lst (pa_cons (pe_op op_and (pv 1) (pv 2)) pa_nil))))), ?_⟩
    refine ⟨_, rfl, p, dx, _, rfl, hp, dno _ _ _ _, _, rfl, _, rfl, p, dx, l, _, _, _, x, y, rfl, g.m, hp, _, rfl, ?_⟩
    by_cases hx : (decide (x ≤ Krb7.full h.m) && decide (y ≤ Krb7.full h.m)) = true
    · rw [if_neg (two_good hx)] at k
      rw [hx]
      refine iteF ⟨_, rfl, _, rfl, _, _, rfl, rfl, s1, ?_⟩
      refine k.read hA rfl ?_
      show [V.int (Builtin.bitAnd (x : Int) (y : Int))] = [V.int (x &&& y : Nat)]
      rw [band]
    · rw [if_pos (two_bad hx)] at k
      rw [Bool.eq_false_iff.mpr hx]
      exact iteT ⟨s1, k.read hA rfl rfl⟩
theorem ok_m_either (F : Fun K "either" "Disputation.either" s_m_either f fd) (T : Txt K mg C a_PROPOSITIONS a_WORLDS_OF_LETTERS a_HOW_MANY_GIVEN) (G_m_are_propositions : HasMt P w K mg base C "are_propositions" 2 ["self", "p", "q"] (spAre C)) : FnOk P w K mg base CX0 3 f fd ["self", "p", "q"] (spM C (ar2 .either) 3) := by
  refine F.ok sc_m_either (fun vs H Q E h => h.1) (fun cdv A outer s H vs Q E hr h => ?_)
  · obtain ⟨_, p, l, h, c, args, rfl, ⟨x, y, rfl, rfl⟩, hA, k⟩ := h
    obtain ⟨g, D⟩ := id hA
    obtain ⟨⟨dx, hp⟩, xs, hl, pr⟩ := id D
    rw [act_either] at k
    refine ⟨_, (pss_cons (ps_if (pt_not (pt_val (pe_mt (pv 0) T.cl G_m_are_propositions (hr.mono (by decide)) (pa_cons (pv 1) (pa_cons (pv 2) pa_nil))))) (pss_one (ps_ret (pe_lst (pa_cons (pe_gint rfl T.g_NOT_RIGHT) pa_nil)))) pss_nil)
      (pss_one (ps_ret (pe_lst (pa_cons (pe_op op_or (pv 1) (pv 2)) pa_nil))))), ?_⟩
    refine ⟨_, rfl, p, dx, _, rfl, hp, dno _ _ _ _, _, rfl, _, rfl, p, dx, l, _, _, _, x, y, rfl, g.m, hp, _, rfl, ?_⟩
    by_cases hx : (decide (x ≤ Krb7.full h.m) && decide (y ≤ Krb7.full h.m)) = true
    · rw [if_neg (two_good hx)] at k
      rw [hx]
      refine iteF ⟨_, rfl, _, rfl, _, _, rfl, rfl, s1, ?_⟩
      refine k.read hA rfl ?_
      show [V.int (Builtin.bitOr (x : Int) (y : Int))] = [V.int (x ||| y : Nat)]
      rw [bor]
    · rw [if_pos (two_bad hx)] at k
      rw [Bool.eq_false_iff.mpr hx]
      exact iteT ⟨s1, k.read hA rfl rfl⟩
theorem ok_m_if_then (F : Fun K "if_then" "Disputation.if_then" s_m_if_then f fd) (T : Txt K mg C a_PROPOSITIONS a_WORLDS_OF_LETTERS a_HOW_MANY_GIVEN) (G_m_are_propositions : HasMt P w K mg base C "are_propositions" 2 ["self", "p", "q"] (spAre C)) (G_m_all_worlds : HasMt P w K mg base C "all_worlds" 1 ["self"] (spFull C)) : FnOk P w K mg base CX0 3 f fd ["self", "p", "q"] (spM C (ar2 .if_) 3) := by
  refine F.ok sc_m_if_then (fun vs H Q E h => h.1) (fun cdv A outer s H vs Q E hr h => ?_)
  · obtain ⟨_, p, l, h, c, args, rfl, ⟨x, y, rfl, rfl⟩, hA, k⟩ := h
    obtain ⟨g, D⟩ := id hA
    obtain ⟨⟨dx, hp⟩, xs, hl, pr⟩ := id D
    rw [act_if] at k
    refine ⟨_, (pss_cons (ps_if (pt_not (pt_val (pe_mt (pv 0) T.cl G_m_are_propositions (hr.mono (by decide)) (pa_cons (pv 1) (pa_cons (pv 2) pa_nil))))) (pss_one (ps_ret (pe_lst (pa_cons (pe_gint rfl T.g_NOT_RIGHT) pa_nil)))) pss_nil)
      (pss_one (ps_ret (pe_lst (pa_cons (pe_op op_or (pe_op op_sub (pe_mt0 (pv 0) T.cl G_m_all_worlds (hr.mono (by decide))) (pv 1)) (pv 2)) pa_nil))))), ?_⟩
    refine ⟨_, rfl, p, dx, _, rfl, hp, dno _ _ _ _, _, rfl, _, rfl, p, dx, l, _, _, _, x, y, rfl, g.m, hp, _, rfl, ?_⟩
    by_cases hx : (decide (x ≤ Krb7.full h.m) && decide (y ≤ Krb7.full h.m)) = true
    · rw [if_neg (two_good hx)] at k
      rw [hx]
      have hx1 : x ≤ Krb7.full h.m := of_decide_eq_true ((Bool.and_eq_true _ _).mp hx).1
      refine iteF ⟨_, rfl, p, dx, _, rfl, hp, dno _ _ _ _, p, dx, l, _, _, _, rfl, g.m, hp, _, rfl, _, _, rfl, rfl, _, rfl, _, _, rfl, rfl, s1, ?_⟩
      refine k.read hA rfl ?_
      show [V.int (Builtin.bitOr (((Krb7.full h.m : Nat) : Int) - (x : Int)) (y : Int))] = [V.int ((Krb7.full h.m - x) ||| y : Nat)]
      rw [← Int.ofNat_sub hx1, bor]
    · rw [if_pos (two_bad hx)] at k
      rw [Bool.eq_false_iff.mpr hx]
      exact iteT ⟨s1, k.read hA rfl rfl⟩
theorem ok_m_follows (F : Fun K "follows" "Disputation.follows" s_m_follows f fd) (T : Txt K mg C a_PROPOSITIONS a_WORLDS_OF_LETTERS a_HOW_MANY_GIVEN) (G_m_are_propositions : HasMt P w K mg base C "are_propositions" 2 ["self", "p", "q"] (spAre C)) : FnOk P w K mg base CX0 3 f fd ["self", "p", "q"] (spM C (ar2 .follows) 3) := by
  refine F.ok sc_m_follows (fun vs H Q E h => h.1) (fun cdv A outer s H vs Q E hr h => ?_)
  · obtain ⟨_, p, l, h, c, args, rfl, ⟨x, y, rfl, rfl⟩, hA, k⟩ := h
    obtain ⟨g, D⟩ := id hA
    obtain ⟨⟨dx, hp⟩, xs, hl, pr⟩ := id D
    rw [act_follows] at k
    refine ⟨_, (pss_cons (ps_if (pt_not (pt_val (pe_mt (pv 0) T.cl G_m_are_propositions (hr.mono (by decide)) (pa_cons (pv 1) (pa_cons (pv 2) pa_nil))))) (pss_one (ps_ret (pe_lst (pa_cons (pe_gint rfl T.g_NOT_RIGHT) pa_nil)))) pss_nil)
      (pss_cons (ps_if (pt_cmpR op_eq (pe_op op_and (pv 1) (pv 2)) (pv 1) (nomark _)) (pss_one (ps_ret (pe_lst (pa_cons pe_int pa_nil)))) pss_nil)
      (pss_one (ps_ret (pe_lst (pa_cons pe_int pa_nil)))))), ?_⟩
    refine ⟨_, rfl, p, dx, _, rfl, hp, dno _ _ _ _, _, rfl, _, rfl, p, dx, l, _, _, _, x, y, rfl, g.m, hp, _, rfl, ?_⟩
    by_cases hx : (decide (x ≤ Krb7.full h.m) && decide (y ≤ Krb7.full h.m)) = true
    · rw [if_neg (two_good hx)] at k
      rw [hx]
      refine iteF ⟨_, rfl, _, rfl, _, _, rfl, rfl, _, rfl, rfl, _, rfl, ?_⟩
      show if decide (V.int (Builtin.bitAnd (x : Int) (y : Int)) = V.int (x : Nat)) = true then _ else _
      rw [band]
      refine iteI (fun e => ?_) (fun e => ?_)
      · rw [if_pos ((within_iff _ _).mpr (Int.ofNat.inj e))] at k
        exact ⟨s1, k.read hA rfl rfl⟩
      · rw [if_neg (fun z => e (congrArg Int.ofNat ((within_iff _ _).mp z)))] at k
        exact ⟨s1, k.read hA rfl rfl⟩
    · rw [if_pos (two_bad hx)] at k
      rw [Bool.eq_false_iff.mpr hx]
      exact iteT ⟨s1, k.read hA rfl rfl⟩
theorem s4 : (4 : Nat) ≤ sizeLine := by decide
theorem ok_m_state (F : Fun K "state" "Disputation.state" s_m_state f fd) (T : Txt K mg C a_PROPOSITIONS a_WORLDS_OF_LETTERS a_HOW_MANY_GIVEN) : FnOk P w K mg base CX0 1 f fd ["self"] (spM C (ar0 .state) 1) := by
  refine F.ok sc_m_state (fun vs H Q E h => h.1) (fun cdv A outer s H vs Q E hr h => ?_)
  · obtain ⟨_, p, l, h, c, args, rfl, ⟨rfl, rfl⟩, hA, k⟩ := h
    obtain ⟨g, D⟩ := id hA
    obtain ⟨⟨dx, hp⟩, xs, hl, pr⟩ := id D
    rw [act_state] at k
    refine ⟨_, (pss_cons (ps_if (pt_cmpR op_eq (pe_fld (pv 0) rfl) pe_int (nomark _)) (pss_one (ps_ret (pe_lst (pa_cons (pe_fld (pv 0) rfl) (pa_cons (pe_fld (pv 0) rfl) pa_nil))))) pss_nil)
      (pss_one (ps_ret (pe_lst (pa_cons (pe_fld (pv 0) rfl) (pa_cons (pe_fld (pv 0) rfl) (pa_cons (pe_fld (pv 0) rfl) (pa_cons (pe_callB call_len_seq (by rfl) T.len PySem.boot_len (pa_cons (pe_fld (pv 0) rfl) pa_nil)) pa_nil)))))))), ?_⟩
    refine ⟨_, rfl, p, C, dx, _, _, rfl, hp, T.cl, T.n_laid, df_laid _ _ _ _, rfl, _, rfl, ?_⟩
    show if decide (V.int (h.laid.getD 0 : Nat) = V.int (0 : Nat)) = true then _ else _
    refine iteI (fun e => ?_) (fun e => ?_)
    · have hn := (laid_zero g).mp (Int.ofNat.inj e)
      rw [hn] at k
      exact ⟨_, rfl, p, C, dx, _, _, rfl, hp, T.cl, T.n_letters, df_letters _ _ _ _, _, rfl, p, C, dx, _, _, rfl, hp, T.cl, T.n_known, df_known _ _ _ _, s2, k.read hA rfl rfl⟩
    · refine ⟨_, rfl, p, C, dx, _, _, rfl, hp, T.cl, T.n_letters, df_letters _ _ _ _, _, rfl, p, C, dx, _, _, rfl, hp, T.cl, T.n_known, df_known _ _ _ _, _, rfl, p, C, dx, _, _, rfl, hp, T.cl, T.n_laid, df_laid _ _ _ _,
        _, rfl, p, C, dx, _, _, rfl, hp, T.cl, T.n_proposed, df_proposed _ _ _ _, l, xs, rfl, .inl (SqL.of hl), s4, ?_⟩
      refine k.read hA rfl ?_
      cases hq : h.laid with
      | none => exact absurd (congrArg Int.ofNat ((laid_zero g).mpr hq)) e
      | some b =>
        show [V.int (h.m : Nat), V.int (h.known : Nat), V.int (b : Nat), V.int (xs.length : Nat)] = [V.int (h.m : Nat), V.int (h.known : Nat), V.int (b : Nat), V.int (h.said.length : Nat)]
        rw [pr.len]
end
end Ht

set_option Elab.async false
set_option linter.all false
set_option maxRecDepth 100000
set_option maxHeartbeats 2000000
namespace Ht
open PySem PySem.Spec PyProof.Rows L2
/-! ### 9c. Stage 2: all propositions gone through -/
section
variable {X : Cx}
/-- xs.count(n) of a list of ints -/
def rCountI (K : PySem.W.Frag) : V → List V → Hp → VK → Prop := fun x xs H Q => ∃ (a : Addr) (ns : List Int) (y : Int), x = V.ref a ∧ xs = [V.int y] ∧ SqL K H a (ns.map V.int) ∧ Q (.int (ns.count y : Nat)) H
theorem mt_lcount : MtR X "list.count" (rCountI X.K) := by
  intro pins s σ H x xs v us Q I rx rxs h
  obtain ⟨a, ns, y, rfl, rfl, hs, q⟩ := h
  cases rx
  cases rxs with
  | cons ry rt =>
    cases rt
    obtain ⟨t, rfl⟩ := ry
    obtain ⟨its, rv, hl, _⟩ := I.list hs
    exact count_list_ints hl.isList rv.ints ⟨.int _, H, I.tok _, ⟨_, rfl⟩, q⟩
end
/-- a field, a pair, within a comprehension: what of the text is the def's -/
theorem pe_fldB {X : Cx} {K : PySem.W.Frag} {e : Expr} {f : Str} {pos : Pos} {ta : TE} (hK : X.K = K) (he : PE X e ta) (hb : attributeBase e f X.env (eval e X.env) = eval e X.env) : PE X (.Attribute e f pos) (tFld K ta f) := by
  subst hK
  exact pe_fld he hb
theorem pg_tupB {X : Cx} {K : PySem.W.Frag} {pos : Pos} {es : List Expr} {k : Nat} {t : TGs} {n : Nat} (hK : X.K = K) (hc : X.calm = true) (h : PGs X es t)
    (hn : (assignEach es X.env).length = n := by rfl) (hst : (assignEach es X.env).findIdx? (·.1) = none := by rfl) : PG X (.Tuple es k pos) (gTup K n t) := by
  subst hK
  exact pg_tup hc h hn hst
/-- a comprehension over enumerate of a list that the block leaves as it is -/
theorem lc_enum {K : PySem.W.Frag} {a : Addr} {xs : List V} {g : TG} {tt : TT} {te : TE} {vs : List Nat} {σ : L2.St} {H1 : Hp} {D : Addr} {Qd : Hp → Prop} (Pv : Nat → Hp → Prop) (h0 : Pv 0 (upd H1 D (.lst []))) (hl : ∀ i H, i ≤ xs.length → Pv i H → SqL K H a xs)
    (hs : ∀ i x H t, xs[i]? = some x → Pv i H → H t = none → g (.ref t) (wipe σ vs) (upd H t (.tup [.int (i : Nat), x])) fun σ2 H2 => wipe σ2 vs = wipe σ vs ∧ tt σ2 H2 fun b H3 =>
      if b = true then te σ2 H3 fun y H4 => ∃ acc, H4 D = some (.lst acc) ∧ acc.length < sizeLine ∧ Pv (i + 1) (upd H4 D (.lst (acc ++ [y]))) else Pv (i + 1) H3) (hd : ∀ H, Pv xs.length H → Qd H) :
    ∃ W : Nat → Nat → Hp → Prop, (∃ m, W 0 m (upd H1 D (.lst []))) ∧ ∀ i m H, W i m H →
      ((Ite K a).stop i H ∧ Qd H) ∨ ((Ite K a).go i H ∧ ∃ Nx : Hp → Prop, (∀ H', Nx H' → ∃ m', m' < m ∧ W (i + 1) m' H') ∧ ∀ x H', (Ite K a).yld i H x H' → g x (wipe σ vs) H' fun σ2 H2 => wipe σ2 vs = wipe σ vs ∧ tt σ2 H2 fun b H3 =>
        if b = true then te σ2 H3 fun y H4 => ∃ acc, H4 D = some (.lst acc) ∧ acc.length < sizeLine ∧ Nx (upd H4 D (.lst (acc ++ [y]))) else Nx H3) := by
  refine ⟨fun i m H => m = xs.length - i ∧ i ≤ xs.length ∧ Pv i H, ⟨xs.length, by simp, Nat.zero_le _, h0⟩, ?_⟩
  rintro i m H ⟨rfl, hi, p⟩
  have q := hl i H hi p
  by_cases hlt : i < xs.length
  · refine .inr ⟨⟨xs, xs[i], q, by simp [hlt]⟩, Pv (i + 1), fun H' p' => ⟨xs.length - (i + 1), by omega, rfl, hlt, p'⟩, fun x H' y => ?_⟩
    obtain ⟨t, z, rfl, ht, rfl, hz⟩ := y
    exact hs i z _ t (hz xs q) p ht
  · have e : i = xs.length := by omega
    subst e
    exact .inl ⟨⟨xs, q, Nat.le_refl _⟩, hd H p⟩
/-- the right answers to the first n propositions -/
def rightsN (k b n : Nat) : List Nat := (List.range n).map fun p => Krb7.right k b p
def rightsV (k b n : Nat) : List V := (rightsN k b n).map fun r => V.int (r : Nat)
theorem rightsV_succ (k b n : Nat) : rightsV k b (n + 1) = rightsV k b n ++ [V.int (Krb7.right k b n : Nat)] := by
  unfold rightsV rightsN
  rw [List.range_succ, List.map_append, List.map_append]
  rfl
theorem rightsV_len (k b n : Nat) : (rightsV k b n).length = n := by
  unfold rightsV rightsN
  rw [List.length_map, List.length_map, List.length_range]
theorem rightsV_get {k b n i : Nat} {x : V} (h : (rightsV k b n)[i]? = some x) : i < n ∧ x = V.int (Krb7.right k b i : Nat) := by
  have hi : i < n := by
    rw [← rightsV_len k b n]
    exact (List.getElem?_eq_some_iff.mp h).1
  refine ⟨hi, ?_⟩
  unfold rightsV rightsN at h
  rw [List.getElem?_map, List.getElem?_map, List.getElem?_range hi] at h
  exact (Option.some.inj h).symm
theorem rightsV_ints (k b n : Nat) : rightsV k b n = (Krb7.ints (rightsN k b n)).map V.int := nats_map _
theorem count_rights (k b n a : Nat) : (Krb7.ints (rightsN k b n)).count (a : Int) = ((List.range n).filter fun p => Krb7.right k b p == a).length := by
  induction n with
  | zero => rfl
  | succ n ih =>
    rw [all_succ, List.length_append, ← ih]
    unfold rightsN Krb7.ints
    rw [List.range_succ, List.map_append, List.map_append, List.count_append]
    congr 1
    show List.count (a : Int) [((Krb7.right k b n : Nat) : Int)] = _
    by_cases e : Krb7.right k b n = a
    · rw [if_pos e, e]
      simp
    · rw [if_neg e, List.count_eq_zero.mpr]
      · rfl
      · intro z
        have := List.mem_singleton.mp z
        omega
theorem full_pos {m : Nat} (hm : M m) : Krb7.full m + 1 ≤ 256 := by have := full_le hm; omega
/-- what right_answers gives back -/
def spRights (C : Addr) : Sp := fun vs H Q _ => ∃ (p l : Addr) (h : Krb7.House), vs = [.ref p] ∧ At C H p l (some h) ∧ ∀ r, H r = none → Q (.ref r) (upd H r (.lst (rightsV h.known h.base (Krb7.full h.m + 1))))
section
variable {P : Program} {w : World} {K : PySem.W.Frag} {mg : Str → Option Value} {base : Heap} {f C a_PROPOSITIONS a_WORLDS_OF_LETTERS a_HOW_MANY_GIVEN : Addr} {fd : FuncData}
theorem ok_m_right_answers (F : Fun K "right_answers" "Disputation.right_answers" s_m_right_answers f fd) (T : Txt K mg C a_PROPOSITIONS a_WORLDS_OF_LETTERS a_HOW_MANY_GIVEN) (G_m_standing : HasMt P w K mg base C "standing" 2 ["self"] (spStanding C)) (G_f_right_answer : HasFn P w K mg base "right_answer" 3 ["standing", "known", "p"] spRight) : FnOk P w K mg base CX0 4 f fd ["self"] (spRights C) := by
  refine F.ok sc_m_right_answers (fun vs H Q E h => ?_) (fun cdv A outer s H vs Q E hr h => ?_)
  · obtain ⟨p, l, h, rfl, _⟩ := h
    rfl
  · obtain ⟨p, l, h, rfl, hA, k⟩ := h
    obtain ⟨g, D⟩ := id hA
    obtain ⟨⟨dx, hp⟩, xs, hl, pr⟩ := id D
    refine ⟨_, (pss_cons (ps_set (i := 1) sc_m_right_answers.nd rfl (Or.inr rfl) (pe_mt0 (pv 0) T.cl G_m_standing (hr.mono (by decide))))
      (pss_one (ps_ret (pe_lc (own := [("p", 2)]) rfl sc_m_right_answers.nd (pi_range1 rfl T.range (pa_cons (pe_ix ix_tup (pe_glob (v := .ref a_PROPOSITIONS) rfl T.g_PROPOSITIONS rfl) (pe_fld (pv 0) rfl) (fun _ _ => rfl)) pa_nil)) (blkOk_by (by show blkC ["self", "standing", "p"] (defScope s_m_right_answers) _ _ = true; decide +kernel)) (fun _ _ _ _ _ => (pg_name (i := 2) sc_m_right_answers.nd rfl (Or.inl rfl))) (fun _ _ _ _ _ => pts_nil) (fun _ _ _ _ _ => (pe_fn G_f_right_answer (hr.mono (by decide)) rfl (pa_cons (pv 1) (pa_cons (pe_fldB (K := K) rfl (pv 0) rfl) (pa_cons (pv 2) pa_nil))))))))), ?_⟩
    refine ⟨_, rfl, p, dx, _, rfl, hp, dno _ _ _ _, p, l, _, _, _, _, rfl, g.m, laid_le g, g.s, D, ?_⟩
    obtain ⟨n, hn, en⟩ := prop_at g.m
    have hn256 := full_pos g.m
    refine ⟨_, rfl, p, C, dx, _, _, rfl, hp, T.cl, T.n_letters, df_letters _ _ _ _, _, _, _, _, rfl, rfl, T.t_PROPOSITIONS _, atI_nat hn, (n : Int), rfl, (by omega), (by omega), fun r hr => ?_⟩
    have sm : ∀ o, Same H (upd H r o) := fun o => fresh_same hr
    refine lc_range (n := n) (lo := 0) (fun i H' => H' = upd H r (.lst (rightsV h.known h.base i))) rfl ?_ ?_
    · rintro i H' hi rfl
      refine ⟨rfl, ?_⟩
      refine ⟨_, rfl, _, rfl, p, C, dx, _, _, rfl, sm _ _ _ hp, T.cl, T.n_known, df_known _ _ _ _, _, rfl, h.base, h.known, i, ?_, ?_⟩
      · show [V.int (h.base : Nat), V.int (h.known : Nat), V.int ((0 : Int) + (i : Int))] = _
        rw [Int.zero_add]
      · refine ⟨_, upd_same, ?_, ?_⟩
        · rw [rightsV_len]
          exact Nat.lt_of_lt_of_le (show i < 257 by omega) (by decide)
        · rw [upd_upd, rightsV_succ]
    · rintro H' rfl
      rw [en]
      exact k r hr
theorem ok_m_counts (F : Fun K "counts" "Disputation.counts" s_m_counts f fd) (T : Txt K mg C a_PROPOSITIONS a_WORLDS_OF_LETTERS a_HOW_MANY_GIVEN) (G_m_right_answers : HasMt P w K mg base C "right_answers" 4 ["self"] (spRights C)) : FnOk P w K mg base CX0 5 f fd ["self"] (spM C (ar0 .counts) 1) := by
  refine F.ok sc_m_counts (fun vs H Q E h => h.1) (fun cdv A outer s H vs Q E hr h => ?_)
  · obtain ⟨_, p, l, h, c, args, rfl, ⟨rfl, rfl⟩, hA, k⟩ := h
    obtain ⟨g, D⟩ := id hA
    obtain ⟨⟨dx, hp⟩, xs, hl, pr⟩ := id D
    rw [act_counts] at k
    refine ⟨_, (pss_cons (ps_if (pt_cmpR op_eq (pe_fld (pv 0) rfl) pe_int (nomark _)) (pss_one (ps_ret (pe_lst (pa_cons (pe_gint rfl T.g_NOTHING_THERE) pa_nil)))) pss_nil)
      (pss_cons (ps_set (i := 1) sc_m_counts.nd rfl (Or.inl rfl) (pe_mt0 (pv 0) T.cl G_m_right_answers (hr.mono (by decide))))
      (pss_one (ps_ret (pe_lst (pa_cons (pe_bm PySem.F.plainAttrs_list PySem.F.slot_list_count PySem.F.type_list_count mt_lcount (pv 1) (pa_cons (pe_gint rfl T.g_CONCEDED) pa_nil)) (pa_cons (pe_bm PySem.F.plainAttrs_list PySem.F.slot_list_count PySem.F.type_list_count mt_lcount (pv 1) (pa_cons (pe_gint rfl T.g_DENIED) pa_nil)) (pa_cons (pe_bm PySem.F.plainAttrs_list PySem.F.slot_list_count PySem.F.type_list_count mt_lcount (pv 1) (pa_cons (pe_gint rfl T.g_DOUBTED) pa_nil)) pa_nil)))))))), ?_⟩
    refine ⟨_, rfl, p, C, dx, _, _, rfl, hp, T.cl, T.n_laid, df_laid _ _ _ _, rfl, _, rfl, ?_⟩
    show if decide (V.int (h.laid.getD 0 : Nat) = V.int (0 : Nat)) = true then _ else _
    refine iteI (fun e => ?_) (fun e => ?_)
    · rw [if_pos (isNone_of ((laid_zero g).mp (Int.ofNat.inj e)))] at k
      exact ⟨s1, k.read hA rfl rfl⟩
    · rw [if_neg (isNone_ne fun z => e (congrArg Int.ofNat ((laid_zero g).mpr z)))] at k
      refine ⟨_, rfl, p, dx, _, rfl, hp, dno _ _ _ _, p, l, h, rfl, hA, fun r hr => ?_⟩
      have hS : SqL K (upd H r (.lst (rightsV h.known h.base (Krb7.full h.m + 1)))) r ((Krb7.ints (rightsN h.known h.base (Krb7.full h.m + 1))).map V.int) := by
        rw [← rightsV_ints]
        exact SqL.of upd_same
      refine ⟨_, rfl, .inl ⟨rfl, _, SqL.of upd_same⟩, r, _, 1, rfl, rfl, hS, ?_⟩
      refine ⟨_, rfl, .inl ⟨rfl, _, SqL.of upd_same⟩, r, _, 0, rfl, rfl, hS, ?_⟩
      refine ⟨_, rfl, .inl ⟨rfl, _, SqL.of upd_same⟩, r, _, 2, rfl, rfl, hS, s3, ?_⟩
      refine k.write (l' := l) (hA.keep (fresh_same hr)) (.inl rfl) (Fr.refl.new hr) (fun b e => none_of_upd e) ?_
      have c0 := count_rights h.known h.base (Krb7.full h.m + 1) 0
      have c1 := count_rights h.known h.base (Krb7.full h.m + 1) 1
      have c2 := count_rights h.known h.base (Krb7.full h.m + 1) 2
      show [V.int ((Krb7.ints (rightsN h.known h.base (Krb7.full h.m + 1))).count ((1 : Nat) : Int) : Nat), V.int ((Krb7.ints (rightsN h.known h.base (Krb7.full h.m + 1))).count ((0 : Nat) : Int) : Nat), V.int ((Krb7.ints (rightsN h.known h.base (Krb7.full h.m + 1))).count ((2 : Nat) : Int) : Nat)] = _
      rw [c0, c1, c2]
      rfl
/-- the propositions below n that are answered so -/
def allN (k b a n : Nat) : List Nat := (List.range n).filter fun p => Krb7.right k b p == a
theorem allN_len (k b a n : Nat) : (allN k b a n).length ≤ n := by
  have := List.length_filter_le (fun p => Krb7.right k b p == a) (List.range n)
  rw [List.length_range] at this
  exact this
theorem ok_m_nth (F : Fun K "nth" "Disputation.nth" s_m_nth f fd) (T : Txt K mg C a_PROPOSITIONS a_WORLDS_OF_LETTERS a_HOW_MANY_GIVEN) (G_m_right_answers : HasMt P w K mg base C "right_answers" 4 ["self"] (spRights C)) : FnOk P w K mg base CX0 5 f fd ["self", "answer", "which"] (spM C (ar2 .nth) 3) := by
  refine F.ok sc_m_nth (fun vs H Q E h => h.1) (fun cdv A outer s H vs Q E hr h => ?_)
  · obtain ⟨_, p, l, h, c, args, rfl, ⟨x, y, rfl, rfl⟩, hA, k⟩ := h
    obtain ⟨g, D⟩ := id hA
    obtain ⟨⟨dx, hp⟩, xs, hl, pr⟩ := id D
    rw [act_nth] at k
    refine ⟨_, (pss_cons (ps_if (pt_cmpR op_gt (pv 1) (pe_gint rfl T.g_HIGHEST_ANSWER) (nomark _)) (pss_one (ps_ret (pe_lst (pa_cons (pe_gint rfl T.g_NOT_RIGHT) pa_nil)))) pss_nil)
      (pss_cons (ps_if (pt_cmpR op_eq (pe_fld (pv 0) rfl) pe_int (nomark _)) (pss_one (ps_ret (pe_lst (pa_cons (pe_gint rfl T.g_NOTHING_THERE) pa_nil)))) pss_nil)
      (pss_cons (ps_setLc (i := 3) (own := [("p", 4), ("given", 5)]) rfl sc_m_nth.nd rfl rfl (sw_true rfl rfl (by decide +kernel) (by decide +kernel)) (pi_enum rfl T.enumerate (pa_cons (pe_mt0 (pv 0) T.cl G_m_right_answers (hr.mono (by decide))) pa_nil)) (blkOk_by (by show blkC ["self", "answer", "which", "found", "p", "given"] (defScope s_m_nth) _ _ = true; decide +kernel)) (fun _ _ _ _ _ => (pg_tupB (K := K) (n := 2) rfl rfl (pgs_cons (pg_name (i := 4) sc_m_nth.nd rfl (Or.inl rfl)) (pgs_cons (pg_name (i := 5) sc_m_nth.nd rfl (Or.inl rfl)) pgs_nil)))) (fun _ _ _ _ _ => (pts_one (pt_cmpR op_eq (pv 5) (pv 1) (nomark _)))) (fun _ _ _ _ _ => (pv 4)))
      (pss_cons (ps_if (pt_cmpR op_ge (pv 2) (pe_callB call_len_seq (by rfl) T.len PySem.boot_len (pa_cons (pv 3) pa_nil)) (nomark _)) (pss_one (ps_ret (pe_lst (pa_cons (pe_gint rfl T.g_CANNOT_BE) pa_nil)))) pss_nil)
      (pss_one (ps_ret (pe_lst (pa_cons (pe_ix ix_list (pv 3) (pv 2) (fun _ _ => rfl)) pa_nil)))))))), ?_⟩
    refine ⟨_, rfl, _, _, rfl, rfl, _, rfl, ?_⟩
    show if decide ((2 : Int) < (x : Int)) = true then _ else _
    refine iteP (fun h1 => ?_) (fun h1 => ?_)
    · rw [if_pos (by omega)] at k
      exact ⟨s1, k.read hA rfl rfl⟩
    rw [if_neg (by omega)] at k
    refine ⟨_, rfl, p, C, dx, _, _, rfl, hp, T.cl, T.n_laid, df_laid _ _ _ _, rfl, _, rfl, ?_⟩
    show if decide (V.int (h.laid.getD 0 : Nat) = V.int (0 : Nat)) = true then _ else _
    refine iteI (fun e => ?_) (fun e => ?_)
    · rw [if_pos (isNone_of ((laid_zero g).mp (Int.ofNat.inj e)))] at k
      exact ⟨s1, k.read hA rfl rfl⟩
    rw [if_neg (isNone_ne fun z => e (congrArg Int.ofNat ((laid_zero g).mpr z)))] at k
    have hn256 := full_pos g.m
    refine ⟨_, rfl, p, dx, _, rfl, hp, dno _ _ _ _, p, l, h, rfl, hA, fun r hr => ?_⟩
    refine ⟨r, _, rfl, SqL.of upd_same, fun t ht => ?_⟩
    have ntr : r ≠ t := Ne.symm (ne_of_upd ht)
    have sm1 : Same H (upd H r (.lst (rightsV h.known h.base (Krb7.full h.m + 1)))) := fresh_same hr
    refine lc_enum (K := K) (a := r) (xs := rightsV h.known h.base (Krb7.full h.m + 1))
      (fun i H' => Same (upd H r (.lst (rightsV h.known h.base (Krb7.full h.m + 1)))) H' ∧ H' t = some (.lst ((allN h.known h.base x i).map fun n => V.int (n : Nat)))) ⟨fresh_same ht, upd_same⟩ (fun i H' _ ⟨e, _⟩ => SqL.of (e _ _ upd_same)) ?_ ?_
    · rintro i z H' q hz ⟨sm, htl⟩ hq
      obtain ⟨hi, rfl⟩ := rightsV_get hz
      have ntq : t ≠ q := ne_of_none htl hq
      refine ⟨q, _, rfl, SqT.of upd_same, rfl, _, _, rfl, _, _, rfl, rfl, rfl, ?_⟩
      refine ⟨_, rfl, _, rfl, rfl, _, rfl, ?_⟩
      show if decide (V.int (Krb7.right h.known h.base i : Nat) = V.int (x : Nat)) = true then _ else _
      have sm2 : Same (upd H r (.lst (rightsV h.known h.base (Krb7.full h.m + 1)))) (upd H' q (.tup [.int (i : Nat), V.int (Krb7.right h.known h.base i : Nat)])) := sm.trans (fresh_same hq)
      have hlen := allN_len h.known h.base x i
      refine iteI (fun e2 => ?_) (fun e2 => ?_)
      · refine ⟨_, rfl, _, (by rw [upd_ne ntq]; exact htl), ?_, ?_, ?_⟩
        · rw [List.length_map]
          exact Nat.lt_of_lt_of_le (show (allN h.known h.base x i).length < 257 by omega) (by decide)
        · intro b o eb
          rw [upd_ne (ne_of_none eb ht)]
          exact sm2 b o eb
        · rw [upd_same]
          unfold allN
          rw [all_succ, if_pos (Int.ofNat.inj e2), List.map_append]
          rfl
      · refine ⟨sm2, ?_⟩
        rw [upd_ne ntq, htl]
        unfold allN
        rw [all_succ, if_neg (fun z => e2 (congrArg Int.ofNat z)), List.append_nil]
    · rintro H' ⟨sm, htl⟩
      rw [rightsV_len] at htl
      have sm3 : Same H H' := sm1.trans sm
      have hA' : At C H' p l (some h) := hA.keep sm3
      have frr : Fr H H' p l := fun b o e _ _ => sm3 b o e
      have eall : h.all x = allN h.known h.base x (Krb7.full h.m + 1) := rfl
      rw [eall] at k
      refine ⟨_, rfl, _, rfl, t, _, rfl, .inl (SqL.of htl), _, _, rfl, rfl, _, rfl, ?_⟩
      show if decide ((((allN h.known h.base x (Krb7.full h.m + 1)).map fun n => V.int (n : Nat)).length : Int) ≤ (y : Int)) = true then _ else _
      rw [List.length_map]
      refine iteP (fun h2 => ?_) (fun h2 => ?_)
      · rw [List.getElem?_eq_none (by omega)] at k
        exact ⟨s1, k.write (l' := l) hA' (.inl rfl) frr (fun b e => sm3.free e) rfl⟩
      · have hy : y < (allN h.known h.base x (Krb7.full h.m + 1)).length := by omega
        obtain ⟨v, hv⟩ : ∃ v, (allN h.known h.base x (Krb7.full h.m + 1))[y]? = some v := ⟨_, List.getElem?_eq_getElem hy⟩
        rw [hv] at k
        refine ⟨_, rfl, _, rfl, t, _, _, _, rfl, rfl, SqL.of htl, atI_nat (v := V.int (v : Nat)) (by rw [List.getElem?_map, hv]; rfl), s1, ?_⟩
        exact k.write (l' := l) hA' (.inl rfl) frr (fun b e => sm3.free e) rfl
end
end Ht

set_option Elab.async false
set_option linter.all false
set_option maxRecDepth 100000
set_option maxHeartbeats 2000000
namespace Ht
open PySem PySem.Spec PyProof.Rows L2
/-! ### 10. The interface -/
def skip (n : Nat) : Nat := if n = 7 then 2 else 1
theorem flat_len (n : Nat) (gs : List Nat) : (flat n gs).length = skip n + gs.length := by
  unfold flat skip
  split
  · show (zs gs).length + 1 + 1 = 2 + gs.length
    rw [zs_len]
    omega
  · show (zs gs).length + 1 = 1 + gs.length
    rw [zs_len]
    omega
theorem flat_drop (n : Nat) (gs : List Nat) (rest : List Int) : (flat n gs ++ rest).drop (skip n) = zs gs ++ rest := by
  unfold flat skip
  split <;> rfl
theorem flat_drop2 (n : Nat) (gs : List Nat) (rest : List Int) : (flat n gs ++ rest).drop (skip n + gs.length) = rest := by
  rw [← List.drop_drop, flat_drop, List.drop_append, List.drop_of_length_le (by rw [zs_len]; exact Nat.le_refl _), zs_len, Nat.sub_self]
  rfl
/-- the numbers behind a call's own, as the program cuts them out -/
theorem cut_given {ns : List Int} {i n : Nat} {gs : List Nat} {rest : List Int} (h : ns.drop i = flat n gs ++ rest) :
    cutV (ns.map V.int) (some ((i + skip n : Nat) : Int)) (some ((i + skip n + gs.length : Nat) : Int)) = gs.map fun m => V.int (m : Nat) := by
  have hl : ns.length - i = skip n + gs.length + rest.length := by
    rw [← List.length_drop, h, List.length_append, flat_len]
  have hs : 1 ≤ skip n := by unfold skip; split <;> decide
  unfold cutV
  rw [HT.sIx_nat, HT.sIx_nat, List.length_map, Nat.min_eq_left (by omega), Nat.min_eq_left (by omega)]
  rw [← List.map_drop, ← List.map_take, ← List.drop_drop, h, flat_drop, show i + skip n + gs.length - (i + skip n) = gs.length by omega, List.take_append, zs_len, Nat.sub_self, List.take_zero, List.append_nil, List.take_of_length_le (by rw [zs_len]; exact Nat.le_refl _)]
  unfold zs
  rw [List.map_map]
  rfl
theorem at_call {ns : List Int} {i n : Nat} {gs : List Nat} {rest : List Int} (h : ns.drop i = flat n gs ++ rest) : ns[i]? = some (n : Int) := by
  have e : (ns.drop i)[0]? = some (n : Int) := by
    rw [h]
    unfold flat
    split
    · rename_i z
      subst z
      rfl
    · rfl
  rw [List.getElem?_drop] at e
  exact e
theorem at_row {ns : List Int} {i : Nat} {gs : List Nat} {rest : List Int} (h : ns.drop i = flat 7 gs ++ rest) : ns[i + 1]? = some (gs.length : Int) := by
  have e : (ns.drop i)[1]? = some (gs.length : Int) := by
    rw [h]
    rfl
  rw [List.getElem?_drop] at e
  exact e
def spWhere (K : PySem.W.Frag) : Sp := fun vs H Q _ => ∃ (a : Addr) (ns : List Int) (i n : Nat), vs = [.ref a, .int i] ∧ SqL K H a (ns.map V.int) ∧ ns[i]? = some (n : Int) ∧ Q (.int (i + skip n : Nat)) H
def spMany (K : PySem.W.Frag) : Sp := fun vs H Q _ => ∃ (a : Addr) (ns : List Int) (i n : Nat) (gs : List Nat), vs = [.ref a, .int i] ∧ SqL K H a (ns.map V.int) ∧ ns[i]? = some (n : Int) ∧ CallOk n gs ∧ (n = 7 → ns[i + 1]? = some (gs.length : Int)) ∧ Q (.int (gs.length : Nat)) H
def spCallOf (C : Addr) : Sp := fun vs H Q _ => ∃ (p l g : Addr) (a : Krb7.Abs) (n : Nat) (gs : List Nat), vs = [.ref p, .int n, .ref g] ∧ CallOk n gs ∧ H g = some (.lst (gs.map fun m => V.int (m : Nat))) ∧ At C H p l a ∧ After C H p l (Krb7.act a (mkCall n gs)) Q
def spPart (C : Addr) (lo hi : Nat) : Sp := fun vs H Q _ => ∃ (p l g : Addr) (h : Krb7.House) (n : Nat) (gs : List Nat), vs = [.ref p, .int n, .ref g] ∧ lo ≤ n ∧ n ≤ hi ∧ CallOk n gs ∧ H g = some (.lst (gs.map fun m => V.int (m : Nat))) ∧ At C H p l (some h) ∧ After C H p l (Krb7.act (some h) (mkCall n gs)) Q
/-- answers's: a list of ints is handed in, the specification's list comes out -/
def spAns (K : PySem.W.Frag) : Sp := fun vs H Q _ => ∃ (a : Addr) (ns : List Int), vs = [.ref a] ∧ SqL K H a (ns.map V.int) ∧ PyKrb7.answers_asked ns = true ∧ (∀ x ∈ ns, 0 ≤ x) ∧ ∀ (H' : Hp) (p : Addr), H' p = some (.lst ((PyKrb7.answers ns).map V.int)) → Q (.ref p) H'
theorem act_none {n : Nat} (gs : List Nat) (h : n ≠ 0) : Krb7.act none (mkCall n gs) = (none, Krb7.say (-11)) := by
  unfold mkCall
  split <;> first | rfl | exact absurd rfl h
theorem get_ints {ns : List Int} {i : Nat} {z : Int} (h : ns[i]? = some z) : (ns.map V.int)[i]? = some (V.int z) := by
  rw [List.getElem?_map, h]
  rfl
/-- a list is written that is none of the object's -/
theorem At.other {C : Addr} {H : Hp} {p l t : Addr} {xs ys : List V} (ht : H t = some (.lst xs)) (nl : t ≠ l) : ∀ {a : Krb7.Abs}, At C H p l a → At C (upd H t (.lst ys)) p l a := by
  have go : ∀ {m k b : Nat} {said : List (Nat × Nat)}, Disp C H p l m k b said → Disp C (upd H t (.lst ys)) p l m k b said := by
    rintro m k b said ⟨⟨dx, h⟩, zs, h2, r⟩
    refine ⟨⟨dx, ?_⟩, zs, ?_, r.mono fun a x q ea => ?_⟩
    · rw [upd_ne (ne_of h ht (by intro z; cases z))]
      exact h
    · rw [upd_ne nl.symm]
      exact h2
    · rw [upd_ne (ne_of ea ht (by intro z; cases z))]
      exact ea
  intro a A
  cases a with
  | none => exact go A
  | some h => exact ⟨A.1, go A.2⟩
section
variable {P : Program} {w : World} {K : PySem.W.Frag} {mg : Str → Option Value} {base : Heap} {f C a_PROPOSITIONS a_WORLDS_OF_LETTERS a_HOW_MANY_GIVEN : Addr} {fd : FuncData}
theorem ok_f_where_given (F : Fun K "where_given" "where_given" s_f_where_given f fd) (T : Txt K mg C a_PROPOSITIONS a_WORLDS_OF_LETTERS a_HOW_MANY_GIVEN) : FnOk P w K mg base CX0 1 f fd ["calls", "at"] (spWhere K) := by
  refine F.ok sc_f_where_given (fun vs H Q E h => ?_) (fun cdv A outer s H vs Q E hr h => ?_)
  · obtain ⟨a, ns, i, n, rfl, _⟩ := h
    rfl
  · obtain ⟨a, ns, i, n, rfl, hS, hi, k⟩ := h
    refine ⟨_, (pss_cons (ps_if (pt_cmpR op_eq (pe_ix ix_list (pv 0) (pv 1) (fun _ _ => rfl)) (pe_gint rfl T.g_ROW) (nomark _)) (pss_one (ps_ret (pe_op op_add (pv 1) pe_int))) pss_nil)
      (pss_one (ps_ret (pe_op op_add (pv 1) pe_int)))), ?_⟩
    refine ⟨_, rfl, _, rfl, a, _, _, _, rfl, rfl, hS, atI_nat (get_ints hi), rfl, _, rfl, ?_⟩
    show if decide (V.int (n : Nat) = V.int (7 : Nat)) = true then _ else _
    unfold skip at k
    refine iteI (fun e => ?_) (fun e => ?_)
    · rw [if_pos (Int.ofNat.inj e)] at k
      exact ⟨_, rfl, _, _, rfl, rfl, k⟩
    · rw [if_neg (fun z => e (congrArg Int.ofNat z))] at k
      exact ⟨_, rfl, _, _, rfl, rfl, k⟩
theorem ok_f_how_many_given (F : Fun K "how_many_given" "how_many_given" s_f_how_many_given f fd) (T : Txt K mg C a_PROPOSITIONS a_WORLDS_OF_LETTERS a_HOW_MANY_GIVEN) : FnOk P w K mg base CX0 1 f fd ["calls", "at"] (spMany K) := by
  refine F.ok sc_f_how_many_given (fun vs H Q E h => ?_) (fun cdv A outer s H vs Q E hr h => ?_)
  · obtain ⟨a, ns, i, n, gs, rfl, _⟩ := h
    rfl
  · obtain ⟨a, ns, i, n, gs, rfl, hS, hi, ok, h7, k⟩ := h
    refine ⟨_, (pss_cons (ps_if (pt_cmpR op_eq (pe_ix ix_list (pv 0) (pv 1) (fun _ _ => rfl)) (pe_gint rfl T.g_ROW) (nomark _)) (pss_one (ps_ret (pe_ix ix_list (pv 0) (pe_op op_add (pv 1) pe_int) (fun _ _ => rfl)))) pss_nil)
      (pss_one (ps_ret (pe_ix ix_tup (pe_glob (v := .ref a_HOW_MANY_GIVEN) rfl T.g_HOW_MANY_GIVEN rfl) (pe_ix ix_list (pv 0) (pv 1) (fun _ _ => rfl)) (fun _ _ => rfl))))), ?_⟩
    refine ⟨_, rfl, _, rfl, a, _, _, _, rfl, rfl, hS, atI_nat (get_ints hi), rfl, _, rfl, ?_⟩
    show if decide (V.int (n : Nat) = V.int (7 : Nat)) = true then _ else _
    refine iteI (fun e => ?_) (fun e => ?_)
    · refine ⟨_, rfl, _, rfl, _, _, rfl, rfl, a, _, _, _, rfl, rfl, hS, at_of (j := i + 1) rfl (get_ints (h7 (Int.ofNat.inj e))), k⟩
    · have e7 : n ≠ 7 := fun z => e (congrArg Int.ofNat z)
      have hn := ok.lim
      have key : ∀ m : _root_.Fin 21, ([.int 2, .int 1, .int 1, .int 0, .int 0, .int 1, .int 1, .int 0, .int 0, .int 1, .int 0, .int 0, .int 2, .int 1, .int 1, .int 1, .int 2, .int 2, .int 2, .int 2, .int 0] : List V)[m.val]? = some (.int (arity m.val : Nat)) := by decide +kernel
      rw [ok.ar e7] at k
      exact ⟨_, rfl, _, rfl, a, _, _, _, rfl, rfl, hS, atI_nat (get_ints hi), _, _, _, _, rfl, rfl, T.t_HOW_MANY_GIVEN _, atI_nat (key ⟨n, by omega⟩), k⟩
theorem one_of {n : Nat} {gs : List Nat} (ok : CallOk n gs) (h7 : n ≠ 7) (h : arity n = 1) : ∃ x, gs = [x] := match gs, (ok.ar h7).trans h with | [x], _ => ⟨x, rfl⟩
theorem two_of {n : Nat} {gs : List Nat} (ok : CallOk n gs) (h7 : n ≠ 7) (h : arity n = 2) : ∃ x y, gs = [x, y] := match gs, (ok.ar h7).trans h with | [x, y], _ => ⟨x, y, rfl⟩
theorem ok_f_answer_what_changes (F : Fun K "answer_what_changes" "answer_what_changes" s_f_answer_what_changes f fd) (T : Txt K mg C a_PROPOSITIONS a_WORLDS_OF_LETTERS a_HOW_MANY_GIVEN) (G_m_lay : HasMt P w K mg base C "lay" 2 ["self", "p"] (spM C (ar1 .lay) 2)) (G_m_propose : HasMt P w K mg base C "propose" 4 ["self", "p"] (spM C (ar1 .propose) 2)) (G_m_back : HasMt P w K mg base C "back" 1 ["self"] (spM C (ar0 .back) 1))
    (G_m_finish : HasMt P w K mg base C "finish" 3 ["self"] (spM C (ar0 .finish) 1)) (G_m_learn : HasMt P w K mg base C "learn" 2 ["self", "worlds"] (spM C (ar1 .learn) 2)) : FnOk P w K mg base CX0 5 f fd ["held", "call", "given"] (spPart C 1 5) := by
  refine F.ok sc_f_answer_what_changes (fun vs H Q E h => ?_) (fun cdv A outer s H vs Q E hr h => ?_)
  · obtain ⟨p, l, g, h, n, gs, rfl, _⟩ := h
    rfl
  · obtain ⟨p, l, g, h, n, gs, rfl, lo, hi, ok, hg, hA, k⟩ := h
    obtain ⟨dx, hp⟩ := hA.2.ob
    refine ⟨_, (pss_cons (ps_if (pt_cmpR op_eq (pv 1) (pe_gint rfl T.g_LAY) (nomark _)) (pss_one (ps_ret (pe_mt (pv 0) T.cl G_m_lay (hr.mono (by decide)) (pa_cons (pe_ix ix_list (pv 2) pe_int (fun _ _ => rfl)) pa_nil)))) pss_nil)
      (pss_cons (ps_if (pt_cmpR op_eq (pv 1) (pe_gint rfl T.g_PROPOSE) (nomark _)) (pss_one (ps_ret (pe_mt (pv 0) T.cl G_m_propose (hr.mono (by decide)) (pa_cons (pe_ix ix_list (pv 2) pe_int (fun _ _ => rfl)) pa_nil)))) pss_nil)
      (pss_cons (ps_if (pt_cmpR op_eq (pv 1) (pe_gint rfl T.g_BACK) (nomark _)) (pss_one (ps_ret (pe_mt0 (pv 0) T.cl G_m_back (hr.mono (by decide))))) pss_nil)
      (pss_cons (ps_if (pt_cmpR op_eq (pv 1) (pe_gint rfl T.g_FINISH) (nomark _)) (pss_one (ps_ret (pe_mt0 (pv 0) T.cl G_m_finish (hr.mono (by decide))))) pss_nil)
      (pss_one (ps_ret (pe_mt (pv 0) T.cl G_m_learn (hr.mono (by decide)) (pa_cons (pe_ix ix_list (pv 2) pe_int (fun _ _ => rfl)) pa_nil)))))))), ?_⟩
    refine ⟨_, rfl, rfl, _, rfl, ?_⟩
    show if decide (V.int (n : Nat) = V.int (1 : Nat)) = true then _ else _
    refine iteI (fun e => ?_) (fun e1 => ?_)
    · obtain rfl : n = 1 := Int.ofNat.inj e
      obtain ⟨x, rfl⟩ := one_of ok (by decide) rfl
      exact ⟨_, rfl, p, dx, _, rfl, hp, dno _ _ _ _, _, rfl, g, _, _, _, rfl, rfl, SqL.of hg, at_of (j := 0) rfl rfl, rfl, p, l, h, _, _, rfl, ⟨x, rfl, rfl⟩, hA, k⟩
    refine ⟨_, rfl, rfl, _, rfl, ?_⟩
    show if decide (V.int (n : Nat) = V.int (2 : Nat)) = true then _ else _
    refine iteI (fun e => ?_) (fun e2 => ?_)
    · obtain rfl : n = 2 := Int.ofNat.inj e
      obtain ⟨x, rfl⟩ := one_of ok (by decide) rfl
      exact ⟨_, rfl, p, dx, _, rfl, hp, dno _ _ _ _, _, rfl, g, _, _, _, rfl, rfl, SqL.of hg, at_of (j := 0) rfl rfl, rfl, p, l, h, _, _, rfl, ⟨x, rfl, rfl⟩, hA, k⟩
    refine ⟨_, rfl, rfl, _, rfl, ?_⟩
    show if decide (V.int (n : Nat) = V.int (3 : Nat)) = true then _ else _
    refine iteI (fun e => ?_) (fun e3 => ?_)
    · obtain rfl : n = 3 := Int.ofNat.inj e
      exact ⟨_, rfl, p, dx, _, rfl, hp, dno _ _ _ _, rfl, p, l, h, _, _, rfl, ⟨rfl, rfl⟩, hA, k⟩
    refine ⟨_, rfl, rfl, _, rfl, ?_⟩
    show if decide (V.int (n : Nat) = V.int (4 : Nat)) = true then _ else _
    refine iteI (fun e => ?_) (fun e4 => ?_)
    · obtain rfl : n = 4 := Int.ofNat.inj e
      exact ⟨_, rfl, p, dx, _, rfl, hp, dno _ _ _ _, rfl, p, l, h, _, _, rfl, ⟨rfl, rfl⟩, hA, k⟩
    · obtain rfl : n = 5 := by omega
      obtain ⟨x, rfl⟩ := one_of ok (by decide) rfl
      exact ⟨_, rfl, p, dx, _, rfl, hp, dno _ _ _ _, _, rfl, g, _, _, _, rfl, rfl, SqL.of hg, at_of (j := 0) rfl rfl, rfl, p, l, h, _, _, rfl, ⟨x, rfl, rfl⟩, hA, k⟩
theorem ok_f_answer_what_is_asked (F : Fun K "answer_what_is_asked" "answer_what_is_asked" s_f_answer_what_is_asked f fd) (T : Txt K mg C a_PROPOSITIONS a_WORLDS_OF_LETTERS a_HOW_MANY_GIVEN) (G_m_answer : HasMt P w K mg base C "answer" 4 ["self", "p"] (spM C (ar1 .answer) 2)) (G_m_row : HasMt P w K mg base C "row" 4 ["self", "propositions"] (spM C arL 2)) (G_m_stands : HasMt P w K mg base C "stands" 3 ["self"] (spM C (ar0 .stands) 1))
    (G_m_matters : HasMt P w K mg base C "matters" 3 ["self", "p"] (spM C (ar1 .matters) 2)) (G_m_log : HasMt P w K mg base C "log" 1 ["self"] (spM C (ar0 .log) 1)) (G_m_counts : HasMt P w K mg base C "counts" 5 ["self"] (spM C (ar0 .counts) 1)) (G_m_nth : HasMt P w K mg base C "nth" 5 ["self", "answer", "which"] (spM C (ar2 .nth) 3)) : FnOk P w K mg base CX0 6 f fd ["held", "call", "given"] (spPart C 6 12) := by
  refine F.ok sc_f_answer_what_is_asked (fun vs H Q E h => ?_) (fun cdv A outer s H vs Q E hr h => ?_)
  · obtain ⟨p, l, g, h, n, gs, rfl, _⟩ := h
    rfl
  · obtain ⟨p, l, g, h, n, gs, rfl, lo, hi, ok, hg, hA, k⟩ := h
    obtain ⟨dx, hp⟩ := hA.2.ob
    refine ⟨_, (pss_cons (ps_if (pt_cmpR op_eq (pv 1) (pe_gint rfl T.g_ANSWER) (nomark _)) (pss_one (ps_ret (pe_mt (pv 0) T.cl G_m_answer (hr.mono (by decide)) (pa_cons (pe_ix ix_list (pv 2) pe_int (fun _ _ => rfl)) pa_nil)))) pss_nil)
      (pss_cons (ps_if (pt_cmpR op_eq (pv 1) (pe_gint rfl T.g_ROW) (nomark _)) (pss_one (ps_ret (pe_mt (pv 0) T.cl G_m_row (hr.mono (by decide)) (pa_cons (pv 2) pa_nil)))) pss_nil)
      (pss_cons (ps_if (pt_cmpR op_eq (pv 1) (pe_gint rfl T.g_STANDS) (nomark _)) (pss_one (ps_ret (pe_mt0 (pv 0) T.cl G_m_stands (hr.mono (by decide))))) pss_nil)
      (pss_cons (ps_if (pt_cmpR op_eq (pv 1) (pe_gint rfl T.g_MATTERS) (nomark _)) (pss_one (ps_ret (pe_mt (pv 0) T.cl G_m_matters (hr.mono (by decide)) (pa_cons (pe_ix ix_list (pv 2) pe_int (fun _ _ => rfl)) pa_nil)))) pss_nil)
      (pss_cons (ps_if (pt_cmpR op_eq (pv 1) (pe_gint rfl T.g_LOG) (nomark _)) (pss_one (ps_ret (pe_mt0 (pv 0) T.cl G_m_log (hr.mono (by decide))))) pss_nil)
      (pss_cons (ps_if (pt_cmpR op_eq (pv 1) (pe_gint rfl T.g_COUNTS) (nomark _)) (pss_one (ps_ret (pe_mt0 (pv 0) T.cl G_m_counts (hr.mono (by decide))))) pss_nil)
      (pss_one (ps_ret (pe_mt (pv 0) T.cl G_m_nth (hr.mono (by decide)) (pa_cons (pe_ix ix_list (pv 2) pe_int (fun _ _ => rfl)) (pa_cons (pe_ix ix_list (pv 2) pe_int (fun _ _ => rfl)) pa_nil))))))))))), ?_⟩
    refine ⟨_, rfl, rfl, _, rfl, ?_⟩
    show if decide (V.int (n : Nat) = V.int (6 : Nat)) = true then _ else _
    refine iteI (fun e => ?_) (fun e6 => ?_)
    · obtain rfl : n = 6 := Int.ofNat.inj e
      obtain ⟨x, rfl⟩ := one_of ok (by decide) rfl
      exact ⟨_, rfl, p, dx, _, rfl, hp, dno _ _ _ _, _, rfl, g, _, _, _, rfl, rfl, SqL.of hg, at_of (j := 0) rfl rfl, rfl, p, l, h, _, _, rfl, ⟨x, rfl, rfl⟩, hA, k⟩
    refine ⟨_, rfl, rfl, _, rfl, ?_⟩
    show if decide (V.int (n : Nat) = V.int (7 : Nat)) = true then _ else _
    refine iteI (fun e => ?_) (fun e7 => ?_)
    · obtain rfl : n = 7 := Int.ofNat.inj e
      exact ⟨_, rfl, p, dx, _, rfl, hp, dno _ _ _ _, _, rfl, rfl, p, l, h, _, _, rfl, ⟨g, gs, rfl, hg, rfl⟩, hA, k⟩
    refine ⟨_, rfl, rfl, _, rfl, ?_⟩
    show if decide (V.int (n : Nat) = V.int (8 : Nat)) = true then _ else _
    refine iteI (fun e => ?_) (fun e8 => ?_)
    · obtain rfl : n = 8 := Int.ofNat.inj e
      exact ⟨_, rfl, p, dx, _, rfl, hp, dno _ _ _ _, rfl, p, l, h, _, _, rfl, ⟨rfl, rfl⟩, hA, k⟩
    refine ⟨_, rfl, rfl, _, rfl, ?_⟩
    show if decide (V.int (n : Nat) = V.int (9 : Nat)) = true then _ else _
    refine iteI (fun e => ?_) (fun e9 => ?_)
    · obtain rfl : n = 9 := Int.ofNat.inj e
      obtain ⟨x, rfl⟩ := one_of ok (by decide) rfl
      exact ⟨_, rfl, p, dx, _, rfl, hp, dno _ _ _ _, _, rfl, g, _, _, _, rfl, rfl, SqL.of hg, at_of (j := 0) rfl rfl, rfl, p, l, h, _, _, rfl, ⟨x, rfl, rfl⟩, hA, k⟩
    refine ⟨_, rfl, rfl, _, rfl, ?_⟩
    show if decide (V.int (n : Nat) = V.int (10 : Nat)) = true then _ else _
    refine iteI (fun e => ?_) (fun e10 => ?_)
    · obtain rfl : n = 10 := Int.ofNat.inj e
      exact ⟨_, rfl, p, dx, _, rfl, hp, dno _ _ _ _, rfl, p, l, h, _, _, rfl, ⟨rfl, rfl⟩, hA, k⟩
    refine ⟨_, rfl, rfl, _, rfl, ?_⟩
    show if decide (V.int (n : Nat) = V.int (11 : Nat)) = true then _ else _
    refine iteI (fun e => ?_) (fun e11 => ?_)
    · obtain rfl : n = 11 := Int.ofNat.inj e
      exact ⟨_, rfl, p, dx, _, rfl, hp, dno _ _ _ _, rfl, p, l, h, _, _, rfl, ⟨rfl, rfl⟩, hA, k⟩
    · obtain rfl : n = 12 := by omega
      obtain ⟨x, y, rfl⟩ := two_of ok (by decide) rfl
      exact ⟨_, rfl, p, dx, _, rfl, hp, dno _ _ _ _, _, rfl, g, _, _, _, rfl, rfl, SqL.of hg, at_of (j := 0) rfl rfl, _, rfl, g, _, _, _, rfl, rfl, SqL.of hg, at_of (j := 1) rfl rfl, rfl, p, l, h, _, _, rfl, ⟨x, y, rfl, rfl⟩, hA, k⟩
theorem ok_f_answer_without_laying (F : Fun K "answer_without_laying" "answer_without_laying" s_f_answer_without_laying f fd) (T : Txt K mg C a_PROPOSITIONS a_WORLDS_OF_LETTERS a_HOW_MANY_GIVEN) (G_m_truth : HasMt P w K mg base C "truth" 2 ["self", "p"] (spM C (ar1 .truth) 2)) (G_m_letter : HasMt P w K mg base C "letter" 2 ["self", "i"] (spM C (ar1 .letter) 2)) (G_m_not_of : HasMt P w K mg base C "not_of" 2 ["self", "p"] (spM C (ar1 .not_) 2))
    (G_m_both : HasMt P w K mg base C "both" 3 ["self", "p", "q"] (spM C (ar2 .both) 3)) (G_m_either : HasMt P w K mg base C "either" 3 ["self", "p", "q"] (spM C (ar2 .either) 3)) (G_m_if_then : HasMt P w K mg base C "if_then" 3 ["self", "p", "q"] (spM C (ar2 .if_) 3)) (G_m_follows : HasMt P w K mg base C "follows" 3 ["self", "p", "q"] (spM C (ar2 .follows) 3)) (G_m_state : HasMt P w K mg base C "state" 1 ["self"] (spM C (ar0 .state) 1)) : FnOk P w K mg base CX0 4 f fd ["held", "call", "given"] (spPart C 13 20) := by
  refine F.ok sc_f_answer_without_laying (fun vs H Q E h => ?_) (fun cdv A outer s H vs Q E hr h => ?_)
  · obtain ⟨p, l, g, h, n, gs, rfl, _⟩ := h
    rfl
  · obtain ⟨p, l, g, h, n, gs, rfl, lo, hi, ok, hg, hA, k⟩ := h
    obtain ⟨dx, hp⟩ := hA.2.ob
    refine ⟨_, (pss_cons (ps_if (pt_cmpR op_eq (pv 1) (pe_gint rfl T.g_TRUTH) (nomark _)) (pss_one (ps_ret (pe_mt (pv 0) T.cl G_m_truth (hr.mono (by decide)) (pa_cons (pe_ix ix_list (pv 2) pe_int (fun _ _ => rfl)) pa_nil)))) pss_nil)
      (pss_cons (ps_if (pt_cmpR op_eq (pv 1) (pe_gint rfl T.g_LETTER) (nomark _)) (pss_one (ps_ret (pe_mt (pv 0) T.cl G_m_letter (hr.mono (by decide)) (pa_cons (pe_ix ix_list (pv 2) pe_int (fun _ _ => rfl)) pa_nil)))) pss_nil)
      (pss_cons (ps_if (pt_cmpR op_eq (pv 1) (pe_gint rfl T.g_NOT_OF) (nomark _)) (pss_one (ps_ret (pe_mt (pv 0) T.cl G_m_not_of (hr.mono (by decide)) (pa_cons (pe_ix ix_list (pv 2) pe_int (fun _ _ => rfl)) pa_nil)))) pss_nil)
      (pss_cons (ps_if (pt_cmpR op_eq (pv 1) (pe_gint rfl T.g_BOTH) (nomark _)) (pss_one (ps_ret (pe_mt (pv 0) T.cl G_m_both (hr.mono (by decide)) (pa_cons (pe_ix ix_list (pv 2) pe_int (fun _ _ => rfl)) (pa_cons (pe_ix ix_list (pv 2) pe_int (fun _ _ => rfl)) pa_nil))))) pss_nil)
      (pss_cons (ps_if (pt_cmpR op_eq (pv 1) (pe_gint rfl T.g_EITHER) (nomark _)) (pss_one (ps_ret (pe_mt (pv 0) T.cl G_m_either (hr.mono (by decide)) (pa_cons (pe_ix ix_list (pv 2) pe_int (fun _ _ => rfl)) (pa_cons (pe_ix ix_list (pv 2) pe_int (fun _ _ => rfl)) pa_nil))))) pss_nil)
      (pss_cons (ps_if (pt_cmpR op_eq (pv 1) (pe_gint rfl T.g_IF_THEN) (nomark _)) (pss_one (ps_ret (pe_mt (pv 0) T.cl G_m_if_then (hr.mono (by decide)) (pa_cons (pe_ix ix_list (pv 2) pe_int (fun _ _ => rfl)) (pa_cons (pe_ix ix_list (pv 2) pe_int (fun _ _ => rfl)) pa_nil))))) pss_nil)
      (pss_cons (ps_if (pt_cmpR op_eq (pv 1) (pe_gint rfl T.g_FOLLOWS_granted) (nomark _)) (pss_one (ps_ret (pe_mt (pv 0) T.cl G_m_follows (hr.mono (by decide)) (pa_cons (pe_ix ix_list (pv 2) pe_int (fun _ _ => rfl)) (pa_cons (pe_ix ix_list (pv 2) pe_int (fun _ _ => rfl)) pa_nil))))) pss_nil)
      (pss_one (ps_ret (pe_mt0 (pv 0) T.cl G_m_state (hr.mono (by decide)))))))))))), ?_⟩
    refine ⟨_, rfl, rfl, _, rfl, ?_⟩
    show if decide (V.int (n : Nat) = V.int (13 : Nat)) = true then _ else _
    refine iteI (fun e => ?_) (fun e13 => ?_)
    · obtain rfl : n = 13 := Int.ofNat.inj e
      obtain ⟨x, rfl⟩ := one_of ok (by decide) rfl
      exact ⟨_, rfl, p, dx, _, rfl, hp, dno _ _ _ _, _, rfl, g, _, _, _, rfl, rfl, SqL.of hg, at_of (j := 0) rfl rfl, rfl, p, l, h, _, _, rfl, ⟨x, rfl, rfl⟩, hA, k⟩
    refine ⟨_, rfl, rfl, _, rfl, ?_⟩
    show if decide (V.int (n : Nat) = V.int (14 : Nat)) = true then _ else _
    refine iteI (fun e => ?_) (fun e14 => ?_)
    · obtain rfl : n = 14 := Int.ofNat.inj e
      obtain ⟨x, rfl⟩ := one_of ok (by decide) rfl
      exact ⟨_, rfl, p, dx, _, rfl, hp, dno _ _ _ _, _, rfl, g, _, _, _, rfl, rfl, SqL.of hg, at_of (j := 0) rfl rfl, rfl, p, l, h, _, _, rfl, ⟨x, rfl, rfl⟩, hA, k⟩
    refine ⟨_, rfl, rfl, _, rfl, ?_⟩
    show if decide (V.int (n : Nat) = V.int (15 : Nat)) = true then _ else _
    refine iteI (fun e => ?_) (fun e15 => ?_)
    · obtain rfl : n = 15 := Int.ofNat.inj e
      obtain ⟨x, rfl⟩ := one_of ok (by decide) rfl
      exact ⟨_, rfl, p, dx, _, rfl, hp, dno _ _ _ _, _, rfl, g, _, _, _, rfl, rfl, SqL.of hg, at_of (j := 0) rfl rfl, rfl, p, l, h, _, _, rfl, ⟨x, rfl, rfl⟩, hA, k⟩
    refine ⟨_, rfl, rfl, _, rfl, ?_⟩
    show if decide (V.int (n : Nat) = V.int (16 : Nat)) = true then _ else _
    refine iteI (fun e => ?_) (fun e16 => ?_)
    · obtain rfl : n = 16 := Int.ofNat.inj e
      obtain ⟨x, y, rfl⟩ := two_of ok (by decide) rfl
      exact ⟨_, rfl, p, dx, _, rfl, hp, dno _ _ _ _, _, rfl, g, _, _, _, rfl, rfl, SqL.of hg, at_of (j := 0) rfl rfl, _, rfl, g, _, _, _, rfl, rfl, SqL.of hg, at_of (j := 1) rfl rfl, rfl, p, l, h, _, _, rfl, ⟨x, y, rfl, rfl⟩, hA, k⟩
    refine ⟨_, rfl, rfl, _, rfl, ?_⟩
    show if decide (V.int (n : Nat) = V.int (17 : Nat)) = true then _ else _
    refine iteI (fun e => ?_) (fun e17 => ?_)
    · obtain rfl : n = 17 := Int.ofNat.inj e
      obtain ⟨x, y, rfl⟩ := two_of ok (by decide) rfl
      exact ⟨_, rfl, p, dx, _, rfl, hp, dno _ _ _ _, _, rfl, g, _, _, _, rfl, rfl, SqL.of hg, at_of (j := 0) rfl rfl, _, rfl, g, _, _, _, rfl, rfl, SqL.of hg, at_of (j := 1) rfl rfl, rfl, p, l, h, _, _, rfl, ⟨x, y, rfl, rfl⟩, hA, k⟩
    refine ⟨_, rfl, rfl, _, rfl, ?_⟩
    show if decide (V.int (n : Nat) = V.int (18 : Nat)) = true then _ else _
    refine iteI (fun e => ?_) (fun e18 => ?_)
    · obtain rfl : n = 18 := Int.ofNat.inj e
      obtain ⟨x, y, rfl⟩ := two_of ok (by decide) rfl
      exact ⟨_, rfl, p, dx, _, rfl, hp, dno _ _ _ _, _, rfl, g, _, _, _, rfl, rfl, SqL.of hg, at_of (j := 0) rfl rfl, _, rfl, g, _, _, _, rfl, rfl, SqL.of hg, at_of (j := 1) rfl rfl, rfl, p, l, h, _, _, rfl, ⟨x, y, rfl, rfl⟩, hA, k⟩
    refine ⟨_, rfl, rfl, _, rfl, ?_⟩
    show if decide (V.int (n : Nat) = V.int (19 : Nat)) = true then _ else _
    refine iteI (fun e => ?_) (fun e19 => ?_)
    · obtain rfl : n = 19 := Int.ofNat.inj e
      obtain ⟨x, y, rfl⟩ := two_of ok (by decide) rfl
      exact ⟨_, rfl, p, dx, _, rfl, hp, dno _ _ _ _, _, rfl, g, _, _, _, rfl, rfl, SqL.of hg, at_of (j := 0) rfl rfl, _, rfl, g, _, _, _, rfl, rfl, SqL.of hg, at_of (j := 1) rfl rfl, rfl, p, l, h, _, _, rfl, ⟨x, y, rfl, rfl⟩, hA, k⟩
    · obtain rfl : n = 20 := by omega
      exact ⟨_, rfl, p, dx, _, rfl, hp, dno _ _ _ _, rfl, p, l, h, _, _, rfl, ⟨rfl, rfl⟩, hA, k⟩
theorem ok_f_answer_call (F : Fun K "answer_call" "answer_call" s_f_answer_call f fd) (T : Txt K mg C a_PROPOSITIONS a_WORLDS_OF_LETTERS a_HOW_MANY_GIVEN) (G_m_begin : HasMt P w K mg base C "begin" 2 ["self", "letters", "known"] (spBegin C)) (G_m_has_begun : HasMt P w K mg base C "has_begun" 1 ["self"] (spBegun C)) (G_f_answer_what_changes : HasFn P w K mg base "answer_what_changes" 5 ["held", "call", "given"] (spPart C 1 5)) (G_f_answer_what_is_asked : HasFn P w K mg base "answer_what_is_asked" 6 ["held", "call", "given"] (spPart C 6 12)) (G_f_answer_without_laying : HasFn P w K mg base "answer_without_laying" 4 ["held", "call", "given"] (spPart C 13 20)) : FnOk P w K mg base CX0 7 f fd ["held", "call", "given"] (spCallOf C) := by
  refine F.ok sc_f_answer_call (fun vs H Q E h => ?_) (fun cdv A outer s H vs Q E hr h => ?_)
  · obtain ⟨p, l, g, a, n, gs, rfl, _⟩ := h
    rfl
  · obtain ⟨p, l, g, a, n, gs, rfl, ok, hg, hA, k⟩ := h
    obtain ⟨m0, k0, b0, said0, D⟩ := hA.disp
    obtain ⟨⟨dx, hp⟩, xs, hl, pr⟩ := id D
    refine ⟨_, (pss_cons (ps_if (pt_cmpR op_eq (pv 1) (pe_gint rfl T.g_BEGIN) (nomark _)) (pss_one (ps_ret (pe_mt (pv 0) T.cl G_m_begin (hr.mono (by decide)) (pa_cons (pe_ix ix_list (pv 2) pe_int (fun _ _ => rfl)) (pa_cons (pe_ix ix_list (pv 2) pe_int (fun _ _ => rfl)) pa_nil))))) pss_nil)
      (pss_cons (ps_if (pt_not (pt_val (pe_mt0 (pv 0) T.cl G_m_has_begun (hr.mono (by decide))))) (pss_one (ps_ret (pe_lst (pa_cons (pe_gint rfl T.g_NOT_BEGUN) pa_nil)))) pss_nil)
      (pss_cons (ps_if (pt_cmpR op_le (pv 1) (pe_gint rfl T.g_LEARN) (nomark _)) (pss_one (ps_ret (pe_fn G_f_answer_what_changes (hr.mono (by decide)) rfl (pa_cons (pv 0) (pa_cons (pv 1) (pa_cons (pv 2) pa_nil)))))) pss_nil)
      (pss_cons (ps_if (pt_cmpR op_le (pv 1) (pe_gint rfl T.g_NTH) (nomark _)) (pss_one (ps_ret (pe_fn G_f_answer_what_is_asked (hr.mono (by decide)) rfl (pa_cons (pv 0) (pa_cons (pv 1) (pa_cons (pv 2) pa_nil)))))) pss_nil)
      (pss_one (ps_ret (pe_fn G_f_answer_without_laying (hr.mono (by decide)) rfl (pa_cons (pv 0) (pa_cons (pv 1) (pa_cons (pv 2) pa_nil)))))))))), ?_⟩
    refine ⟨_, rfl, rfl, _, rfl, ?_⟩
    show if decide (V.int (n : Nat) = V.int (0 : Nat)) = true then _ else _
    refine iteI (fun e => ?_) (fun e => ?_)
    · obtain rfl : n = 0 := Int.ofNat.inj e
      obtain ⟨x, y, rfl⟩ : ∃ x y, gs = [x, y] := match gs, ok.ar (by decide) with | [x, y], _ => ⟨x, y, rfl⟩
      exact ⟨_, rfl, p, dx, _, rfl, hp, dno _ _ _ _, _, rfl, g, _, _, _, rfl, rfl, SqL.of hg, at_of (j := 0) rfl rfl, _, rfl, g, _, _, _, rfl, rfl, SqL.of hg, at_of (j := 1) rfl rfl, p, l, a, x, y, rfl, hA, k⟩
    · have e0 : n ≠ 0 := fun z => e (congrArg Int.ofNat z)
      cases a with
      | none =>
        have hp2 : ∃ dx, H p = some (.ins C dx (df 0 0 0 l)) := hA.ob
        obtain ⟨dx2, hp2⟩ := hp2
        rw [act_none gs e0] at k
        refine ⟨_, rfl, p, dx2, _, rfl, hp2, dno _ _ _ _, p, dx2, l, 0, 0, 0, rfl, hp2, _, rfl, ?_⟩
        exact iteT ⟨s1, k.read hA rfl rfl⟩
      | some h =>
        obtain ⟨dx2, hp2⟩ := hA.2.ob
        refine ⟨_, rfl, p, dx2, _, rfl, hp2, dno _ _ _ _, p, dx2, l, _, _, _, rfl, hp2, _, rfl, ?_⟩
        have hm : decide ((0 : Int) < (h.m : Nat)) = true := decide_eq_true (by
          have := hA.1.m
          rcases this with z | z | z <;> omega)
        rw [hm]
        refine iteF ?_
        have hlim := ok.lim
        refine ⟨_, rfl, _, _, rfl, rfl, _, rfl, ?_⟩
        show if decide ((n : Int) ≤ 5) = true then _ else _
        refine iteP (fun h5 => ?_) (fun h5 => ?_)
        · exact ⟨_, rfl, _, rfl, _, rfl, p, l, g, h, n, gs, rfl, by omega, by omega, ok, hg, hA, k⟩
        refine ⟨_, rfl, _, _, rfl, rfl, _, rfl, ?_⟩
        show if decide ((n : Int) ≤ 12) = true then _ else _
        refine iteP (fun h12 => ?_) (fun h12 => ?_)
        · exact ⟨_, rfl, _, rfl, _, rfl, p, l, g, h, n, gs, rfl, by omega, by omega, ok, hg, hA, k⟩
        · exact ⟨_, rfl, _, rfl, _, rfl, p, l, g, h, n, gs, rfl, by omega, hlim, ok, hg, hA, k⟩
theorem ok_f_answers {fI : Addr} {fdI : FuncData} (F : Fun K "answers" "answers" s_f_answers f fd) (T : Txt K mg C a_PROPOSITIONS a_WORLDS_OF_LETTERS a_HOW_MANY_GIVEN) (Mk : Mk K C fI) (GI : FnOk P w K mg base CX0 1 fI fdI ["self"] (spInit C)) (bI : Binds K fdI ["self"] [])
    (G_f_where_given : HasFn P w K mg base "where_given" 1 ["calls", "at"] (spWhere K)) (G_f_how_many_given : HasFn P w K mg base "how_many_given" 1 ["calls", "at"] (spMany K)) (G_f_answer_call : HasFn P w K mg base "answer_call" 7 ["held", "call", "given"] (spCallOf C)) : FnOk P w K mg base CX0 8 f fd ["calls"] (spAns K) := by
  refine F.ok sc_f_answers (fun vs H Q E h => ?_) (fun cdv A outer s H vs Q E hr h => ?_)
  · obtain ⟨a, ns, rfl, _⟩ := h
    rfl
  · obtain ⟨a, ns, rfl, hS, hask, h0, k⟩ := h
    obtain ⟨raw0, hraw, hsz⟩ := asked_calls hask
    have ea := answers_calls hraw h0
    have hr2 := hr
    refine ⟨_, (pss_cons (ps_set (i := 1) sc_f_answers.nd rfl (Or.inl rfl) (pe_make0 Mk GI (hr.mono (by decide)) rfl T.mgC bI .nil pass0))
      (pss_cons (ps_set (i := 2) sc_f_answers.nd rfl (Or.inl rfl) (pe_lst pa_nil))
      (pss_cons (ps_set (i := 3) sc_f_answers.nd rfl (Or.inl rfl) pe_int)
      (pss_cons (ps_while PassesOwn.never (pt_cmpR op_lt (pv 3) (pe_callB call_len_seq (by rfl) T.len PySem.boot_len (pa_cons (pv 0) pa_nil)) (nomark _)) (pss_cons (ps_set (i := 4) sc_f_answers.nd rfl (Or.inl rfl) (pe_fn G_f_where_given (hr.mono (by decide)) rfl (pa_cons (pv 0) (pa_cons (pv 3) pa_nil))))
      (pss_cons (ps_set (i := 5) sc_f_answers.nd rfl (Or.inl rfl) (pe_op op_add (pv 4) (pe_fn G_f_how_many_given (hr.mono (by decide)) rfl (pa_cons (pv 0) (pa_cons (pv 3) pa_nil)))))
      (pss_cons (ps_set (i := 6) sc_f_answers.nd rfl (Or.inl rfl) (pe_fn G_f_answer_call (hr.mono (by decide)) rfl (pa_cons (pv 1) (pa_cons (pe_ix ix_list (pv 0) (pv 3) (fun _ _ => rfl)) (pa_cons (pe_slice sl_list (pv 0) (po_some (pv 4)) (po_some (pv 5))) pa_nil)))))
      (pss_cons (ps_expr (pe_bm PySem.F.plainAttrs_list PySem.F.slot_list_append PySem.F.type_list_append mt_append (pv 2) (pa_cons (pe_callB call_len_seq (by rfl) T.len PySem.boot_len (pa_cons (pv 6) pa_nil)) pa_nil)))
      (pss_cons (ps_expr (pe_bm PySem.F.plainAttrs_list PySem.F.slot_list_extend PySem.F.type_list_extend mt_extend (pv 2) (pa_cons (pv 6) pa_nil)))
      (pss_one (ps_set (i := 3) sc_f_answers.nd rfl (Or.inl rfl) (pv 5)))))))))
      (pss_one (ps_ret (pv 2))))))), ?_⟩
    -- held = Disputation()
    intro p dx np ndx nex
    refine ⟨p, dx, rfl, upd_same, fun H1 l A1 fl kp => ⟨rfl, ?_⟩⟩
    have s1' : Same H H1 := Same.made np ndx kp
    have nl : H l = none := none_of_upd (none_of_upd fl)
    -- told = []; at = 0
    refine ⟨Nat.zero_le _, fun t ht => ?_⟩
    have s2' : Same H (upd H1 t (.lst [])) := s1'.trans (fresh_same ht)
    have nt : H t = none := s1'.free ht
    -- while at < len(calls)
    refine ⟨fun m σ H' => ∃ (i : Nat) (raw : List (List (List Int))) (st : Krb7.Abs) (l : Addr) (tl : List Int) (u4 u5 u6 : Option V) (fu : Nat), m = ns.length - i ∧ σ = [some (.ref a), some (.ref p), some (.ref t), some (.int (i : Nat)), u4, u5, u6] ∧ i ≤ ns.length ∧
      PyFlat.calls PyKrb7.shape fu (ns.drop i) = some raw ∧ At C H' p l st ∧ H' t = some (.lst (tl.map V.int)) ∧ t ≠ l ∧ H l = none ∧ Same H H' ∧ tl ++ PyFlat.told (PyFlat.played Krb7Neutral.step st raw) = PyKrb7.answers ns,
      ⟨ns.length, 0, raw0, none, l, [], none, none, none, ns.length, rfl, rfl, Nat.zero_le _, hraw, A1.keep (fresh_same ht), upd_same, ?_, nl, s2', by rw [ea]; rfl⟩, ?_⟩
    · obtain ⟨_, _, _, _, D⟩ := A1.disp
      obtain ⟨_, xs, hl, _⟩ := D
      exact (ne_of_none hl ht).symm
    rintro m σ H' ⟨i, raw, st, l, tl, u4, u5, u6, fu, rfl, rfl, hi, hc, hA, htl, ntl, nl, sm, eq⟩
    refine ⟨_, rfl, _, rfl, a, _, rfl, .inl (sm.seq hS), _, _, rfl, rfl, _, rfl, ?_⟩
    show if decide ((i : Int) < ((ns.map V.int).length : Nat)) = true then _ else _
    rw [List.length_map]
    refine iteP (fun hlt => ?_) (fun hlt => ?_)
    · have hil : i < ns.length := by omega
      obtain ⟨q, r, eqr⟩ : ∃ q r, ns.drop i = q :: r := ⟨_, _, List.drop_eq_getElem_cons hil⟩
      rw [eqr] at hc
      obtain ⟨n, gs, rest, raw', f', ok, ef, rfl, hc'⟩ := calls_cons hc (by rw [← eqr]; exact fun x hx => h0 x (List.mem_of_mem_drop hx))
      have ed : ns.drop i = flat n gs ++ rest := eqr.trans ef
      have hat : ns[i]? = some (n : Int) := at_call ed
      have hlen : ns.length - i = skip n + gs.length + rest.length := by
        rw [← List.length_drop, ed, List.length_append, flat_len]
      have hsk : 1 ≤ skip n := by unfold skip; split <;> decide
      refine ⟨fun σ' H2 => ∃ (raw : List (List (List Int))) (st : Krb7.Abs) (l : Addr) (tl : List Int) (u4 u5 u6 : Option V) (fu : Nat), σ' = [some (.ref a), some (.ref p), some (.ref t), some (.int (i + skip n + gs.length : Nat)), u4, u5, u6] ∧
        PyFlat.calls PyKrb7.shape fu (ns.drop (i + skip n + gs.length)) = some raw ∧ At C H2 p l st ∧ H2 t = some (.lst (tl.map V.int)) ∧ t ≠ l ∧ H l = none ∧ Same H H2 ∧ tl ++ PyFlat.told (PyFlat.played Krb7Neutral.step st raw) = PyKrb7.answers ns,
        fun σ' H2 ⟨raw, st, l, tl, u4, u5, u6, fu, z⟩ => ⟨ns.length - (i + skip n + gs.length), by omega, i + skip n + gs.length, raw, st, l, tl, u4, u5, u6, fu, rfl, z.1, by omega, z.2⟩, ?_⟩
      -- start, end
      refine ⟨_, rfl, _, rfl, a, ns, i, n, rfl, sm.seq hS, hat, ?_⟩
      refine ⟨_, rfl, _, rfl, _, rfl, a, ns, i, n, gs, rfl, sm.seq hS, hat, ok, fun z => at_row (by rw [ed, z]), _, _, rfl, rfl, ?_⟩
      -- answered = answer_call(held, calls[at], calls[start:end])
      refine ⟨_, rfl, _, rfl, _, rfl, a, _, _, _, rfl, rfl, sm.seq hS, atI_nat (get_ints hat), _, rfl, _, rfl, _, rfl, _, rfl, _, rfl, a, _, rfl, sm.seq hS, fun g hg => ?_⟩
      have ecut : cutV (ns.map V.int) (some ((i + skip n : Nat) : Int)) (some (((i + skip n : Nat) : Int) + ((gs.length : Nat) : Int))) = gs.map fun m => V.int (m : Nat) := by
        have z := cut_given ed
        rw [Int.natCast_add] at z
        exact z
      have sg : Same H' (upd H' g (.lst (gs.map fun m => V.int (m : Nat)))) := fresh_same hg
      refine ⟨p, l, g, st, n, gs, rfl, ok, (by rw [upd_same]; exact congrArg (fun z => some (HO.lst z)) ecut), ?_, ?_⟩
      · exact hA.keep (fresh_same hg)
      intro H2 l' r' A2 hl' hr' hans fr
      have hstep : Krb7.act st (mkCall n gs) = Krb7.act st (Krb7Neutral.call (rowsOf n gs)) := by rw [call_rows ok]
      rw [hstep] at A2 hans
      have hgt : ∀ o, upd H' g o t = some (.lst (tl.map V.int)) := fun o => by rw [upd_ne (ne_of_none htl hg)]; exact htl
      have ntp : t ≠ p := by
        obtain ⟨_, _, _, _, D⟩ := hA.disp
        obtain ⟨⟨dx, h⟩, _⟩ := D
        exact ne_of htl h (by intro z; cases z)
      have ht2 : H2 t = some (.lst (tl.map V.int)) := fr t _ (hgt _) ntp ntl
      have ntr : t ≠ r' := ne_of_none (hgt _) hr'
      have ntl' : t ≠ l' := by
        rcases hl' with z | z
        · rw [z]; exact ntl
        · exact ne_of_none (hgt _) z
      have nl' : H l' = none := by
        rcases hl' with z | z
        · rw [z]; exact nl
        · exact sm.free (none_of_upd z)
      have sm2 : Same H H2 := fun b o e => fr b o (by rw [upd_ne (ne_of_none (sm b o e) hg)]; exact sm b o e) (ne_of_none e np) (ne_of_none e nl)
      have hbound : tl.length + 1 + (Krb7Neutral.told (Krb7.act st (Krb7Neutral.call (rowsOf n gs))).2).length ≤ 10000000 := by
        have z := congrArg List.length eq
        rw [List.length_append] at z
        have z2 : (PyFlat.told (PyFlat.played Krb7Neutral.step st (rowsOf n gs :: raw'))).length = (Krb7Neutral.told (Krb7.act st (Krb7Neutral.call (rowsOf n gs))).2).length + (PyFlat.told (PyFlat.played Krb7Neutral.step (Krb7.act st (Krb7Neutral.call (rowsOf n gs))).1 raw')).length + 1 := by
          show (PyFlat.told ((Krb7Neutral.told (Krb7.act st (Krb7Neutral.call (rowsOf n gs))).2) :: PyFlat.played Krb7Neutral.step (Krb7.act st (Krb7Neutral.call (rowsOf n gs))).1 raw')).length = _
          rw [told_cons, List.length_cons, List.length_append]
        omega
      have hline : sizeLine = 16777216 := rfl
      -- told.append(len(answered)); told.extend(answered); at = end
      refine ⟨_, rfl, .inl ⟨rfl, _, SqL.of ht2⟩, _, rfl, r', _, rfl, .inl (SqL.of hans), t, _, _, rfl, rfl, ht2, ?_, ?_⟩
      · rw [List.length_map, hline]
        omega
      refine ⟨_, rfl, .inl ⟨rfl, _, SqL.of upd_same⟩, _, rfl, t, r', _, _, rfl, rfl, upd_same, (by rw [upd_ne ntr.symm]; exact hans), ?_, ?_⟩
      · rw [List.length_append, List.length_map, List.length_map, List.length_singleton, hline]
        omega
      refine ⟨_, rfl, raw', (Krb7.act st (Krb7Neutral.call (rowsOf n gs))).1, l', tl ++ ((Krb7Neutral.told (Krb7.act st (Krb7Neutral.call (rowsOf n gs))).2).length : Int) :: Krb7Neutral.told (Krb7.act st (Krb7Neutral.call (rowsOf n gs))).2, some (.int (i + skip n : Nat)), some (.int (((i + skip n : Nat) : Int) + ((gs.length : Nat) : Int))), some (.ref r'), f', rfl, ?_, ?_, ?_, ntl', nl', ?_, ?_⟩
      · have ee : ns.drop (i + skip n + gs.length) = rest := by
          rw [Nat.add_assoc, ← List.drop_drop, ed, flat_drop2]
        rw [ee]
        exact hc'
      · exact At.other upd_same ntl' (At.other ht2 ntl' A2)
      · rw [upd_same, List.length_map, List.map_append, List.map_cons, List.append_assoc]
        rfl
      · intro b o e
        rw [upd_ne (ne_of_none e nt), upd_ne (ne_of_none e nt)]
        exact sm2 b o e
      · rw [← eq, List.append_assoc]
        rfl
    · have hie : i = ns.length := by omega
      subst hie
      rw [List.drop_length] at hc
      have hr0 : raw = [] := by
        cases fu <;> exact (Option.some.inj hc).symm
      subst hr0
      have etl : tl = PyKrb7.answers ns := by
        rw [← eq]
        exact (List.append_nil tl).symm
      rw [etl] at htl
      exact ⟨_, rfl, k H' t htl⟩
end
end Ht

set_option Elab.async false
set_option linter.all false
set_option maxRecDepth 100000
set_option maxHeartbeats 8000000
namespace Ht
open PySem PySem.Spec PyProof.Rows L2
/-! ### 11. All that the top has written, put together -/
theorem all_mk {P : Program} {w : World} {K : PySem.W.Frag} {h : Heap} {mg : Str → Option Value} {fa C x_f_how_many_worlds x_f_verdict x_f_bearing x_f_right_answer x_f_narrowed x_f_where_given x_f_how_many_given x_f_answer_what_changes x_f_answer_what_is_asked x_f_answer_without_laying x_f_answer_call x_f_answers x_m_init x_m_has_begun x_m_is_proposition x_m_are_propositions x_m_all_worlds x_m_standing x_m_right_answers x_m_how_many_proposed x_m_refusal x_m_begin x_m_lay x_m_propose x_m_back x_m_finish x_m_learn x_m_answer x_m_row x_m_stands x_m_matters x_m_log x_m_counts x_m_nth x_m_truth x_m_letter x_m_not_of x_m_both x_m_either x_m_if_then x_m_follows x_m_state x_PROPOSITIONS x_WORLDS_OF_LETTERS x_HOW_MANY_GIVEN : Addr} {od0 an0 od1 an1 od2 an2 od3 an3 od4 an4 od5 an5 od6 an6 od7 an7 od8 an8 od9 an9 od10 an10 od11 an11 od12 an12 od13 an13 od14 an14 od15 an15 od16 an16 od17 an17 od18 an18 od19 an19 od20 an20 od21 an21 od22 an22 od23 an23 od24 an24 od25 an25 od26 an26 od27 an27 od28 an28 od29 an29 od30 an30 od31 an31 od32 an32 od33 an33 od34 an34 od35 an35 od36 an36 od37 an37 od38 an38 od39 an39 od40 an40 od41 an41 od_PROPOSITIONS od_WORLDS_OF_LETTERS od_HOW_MANY_GIVEN : Option Addr} {sl0 sl1 sl2 sl3 sl4 sl5 sl6 sl7 sl8 sl9 sl10 sl11 sl12 sl13 sl14 sl15 sl16 sl17 sl18 sl19 sl20 sl21 sl22 sl23 sl24 sl25 sl26 sl27 sl28 sl29 sl30 sl31 sl32 sl33 sl34 sl35 sl36 sl37 sl38 sl39 sl40 sl41 sl_PROPOSITIONS sl_WORLDS_OF_LETTERS sl_HOW_MANY_GIVEN : Array (Option Value)} {oc0 kV0 dc0 pm0 cd0 ct0 oc1 kV1 dc1 pm1 cd1 ct1 oc2 kV2 dc2 pm2 cd2 ct2 oc3 kV3 dc3 pm3 cd3 ct3 oc4 kV4 dc4 pm4 cd4 ct4 oc5 kV5 dc5 pm5 cd5 ct5 oc6 kV6 dc6 pm6 cd6 ct6 oc7 kV7 dc7 pm7 cd7 ct7 oc8 kV8 dc8 pm8 cd8 ct8 oc9 kV9 dc9 pm9 cd9 ct9 oc10 kV10 dc10 pm10 cd10 ct10 oc11 kV11 dc11 pm11 cd11 ct11 oc12 kV12 dc12 pm12 cd12 ct12 oc13 kV13 dc13 pm13 cd13 ct13 oc14 kV14 dc14 pm14 cd14 ct14 oc15 kV15 dc15 pm15 cd15 ct15 oc16 kV16 dc16 pm16 cd16 ct16 oc17 kV17 dc17 pm17 cd17 ct17 oc18 kV18 dc18 pm18 cd18 ct18 oc19 kV19 dc19 pm19 cd19 ct19 oc20 kV20 dc20 pm20 cd20 ct20 oc21 kV21 dc21 pm21 cd21 ct21 oc22 kV22 dc22 pm22 cd22 ct22 oc23 kV23 dc23 pm23 cd23 ct23 oc24 kV24 dc24 pm24 cd24 ct24 oc25 kV25 dc25 pm25 cd25 ct25 oc26 kV26 dc26 pm26 cd26 ct26 oc27 kV27 dc27 pm27 cd27 ct27 oc28 kV28 dc28 pm28 cd28 ct28 oc29 kV29 dc29 pm29 cd29 ct29 oc30 kV30 dc30 pm30 cd30 ct30 oc31 kV31 dc31 pm31 cd31 ct31 oc32 kV32 dc32 pm32 cd32 ct32 oc33 kV33 dc33 pm33 cd33 ct33 oc34 kV34 dc34 pm34 cd34 ct34 oc35 kV35 dc35 pm35 cd35 ct35 oc36 kV36 dc36 pm36 cd36 ct36 oc37 kV37 dc37 pm37 cd37 ct37 oc38 kV38 dc38 pm38 cd38 ct38 oc39 kV39 dc39 pm39 cd39 ct39 oc40 kV40 dc40 pm40 cd40 ct40 oc41 kV41 dc41 pm41 cd41 ct41 : Value} {t_DENIED t_CONCEDED t_DOUBTED t_DOES_NOT_MATTER t_FOLLOWS_disputation t_IS_AGAINST t_NO_SUCH_LETTER t_NOTHING_THERE t_NOT_BEGUN t_ALREADY_LAID t_NOT_RIGHT t_TOO_MANY t_CANNOT_BE t_HIGHEST_ANSWER t_MOST_LETTERS t_MOST_PROPOSED t_LONGEST_ROW t_BEGIN t_LAY t_PROPOSE t_BACK t_FINISH t_LEARN t_ANSWER t_ROW t_STANDS t_MATTERS t_LOG t_COUNTS t_NTH t_TRUTH t_LETTER t_NOT_OF t_BOTH t_EITHER t_IF_THEN t_FOLLOWS_granted t_PROPOSITIONS_0 t_PROPOSITIONS_1 t_PROPOSITIONS_2 t_PROPOSITIONS_3 t_WORLDS_OF_LETTERS_0 t_WORLDS_OF_LETTERS_1 t_WORLDS_OF_LETTERS_2 t_HOW_MANY_GIVEN_0 t_HOW_MANY_GIVEN_1 t_HOW_MANY_GIVEN_2 t_HOW_MANY_GIVEN_3 t_HOW_MANY_GIVEN_4 t_HOW_MANY_GIVEN_5 t_HOW_MANY_GIVEN_6 t_HOW_MANY_GIVEN_7 t_HOW_MANY_GIVEN_8 t_HOW_MANY_GIVEN_9 t_HOW_MANY_GIVEN_10 t_HOW_MANY_GIVEN_11 t_HOW_MANY_GIVEN_12 t_HOW_MANY_GIVEN_13 t_HOW_MANY_GIVEN_14 t_HOW_MANY_GIVEN_15 t_HOW_MANY_GIVEN_16 t_HOW_MANY_GIVEN_17 t_HOW_MANY_GIVEN_18 t_HOW_MANY_GIVEN_19 t_HOW_MANY_GIVEN_20 : Tok} {n_PROPOSITIONS n_WORLDS_OF_LETTERS n_HOW_MANY_GIVEN : Nat} (X : K.In h) (G : h.Ns mainGlobals mg) (hfa : mg "answers" = some (.ref fa))
    (aC : PySem.W.nsIn K mainGlobals "Disputation" = some (some (.ref C)))
    (a_f_how_many_worlds : PySem.W.nsIn K mainGlobals "how_many_worlds" = some (some (.ref x_f_how_many_worlds)))
    (l_f_how_many_worlds : K.lookup x_f_how_many_worlds = some ⟨oc0, od0, .func (PySem.W.fnOf "how_many_worlds" "how_many_worlds" (defArgs s_f_how_many_worlds) (defBody s_f_how_many_worlds) (defScope s_f_how_many_worlds) .none kV0 dc0 pm0 an0 cd0 ct0), sl0⟩)
    (c_f_how_many_worlds : PySem.W.codeIn K cd0 "how_many_worlds" = true)
    (k_f_how_many_worlds : PySem.W.keepIn K (.ref x_f_how_many_worlds) = true)
    (a_f_verdict : PySem.W.nsIn K mainGlobals "verdict" = some (some (.ref x_f_verdict)))
    (l_f_verdict : K.lookup x_f_verdict = some ⟨oc1, od1, .func (PySem.W.fnOf "verdict" "verdict" (defArgs s_f_verdict) (defBody s_f_verdict) (defScope s_f_verdict) .none kV1 dc1 pm1 an1 cd1 ct1), sl1⟩)
    (c_f_verdict : PySem.W.codeIn K cd1 "verdict" = true)
    (k_f_verdict : PySem.W.keepIn K (.ref x_f_verdict) = true)
    (a_f_bearing : PySem.W.nsIn K mainGlobals "bearing" = some (some (.ref x_f_bearing)))
    (l_f_bearing : K.lookup x_f_bearing = some ⟨oc2, od2, .func (PySem.W.fnOf "bearing" "bearing" (defArgs s_f_bearing) (defBody s_f_bearing) (defScope s_f_bearing) .none kV2 dc2 pm2 an2 cd2 ct2), sl2⟩)
    (c_f_bearing : PySem.W.codeIn K cd2 "bearing" = true)
    (k_f_bearing : PySem.W.keepIn K (.ref x_f_bearing) = true)
    (a_f_right_answer : PySem.W.nsIn K mainGlobals "right_answer" = some (some (.ref x_f_right_answer)))
    (l_f_right_answer : K.lookup x_f_right_answer = some ⟨oc3, od3, .func (PySem.W.fnOf "right_answer" "right_answer" (defArgs s_f_right_answer) (defBody s_f_right_answer) (defScope s_f_right_answer) .none kV3 dc3 pm3 an3 cd3 ct3), sl3⟩)
    (c_f_right_answer : PySem.W.codeIn K cd3 "right_answer" = true)
    (k_f_right_answer : PySem.W.keepIn K (.ref x_f_right_answer) = true)
    (a_f_narrowed : PySem.W.nsIn K mainGlobals "narrowed" = some (some (.ref x_f_narrowed)))
    (l_f_narrowed : K.lookup x_f_narrowed = some ⟨oc4, od4, .func (PySem.W.fnOf "narrowed" "narrowed" (defArgs s_f_narrowed) (defBody s_f_narrowed) (defScope s_f_narrowed) .none kV4 dc4 pm4 an4 cd4 ct4), sl4⟩)
    (c_f_narrowed : PySem.W.codeIn K cd4 "narrowed" = true)
    (k_f_narrowed : PySem.W.keepIn K (.ref x_f_narrowed) = true)
    (a_f_where_given : PySem.W.nsIn K mainGlobals "where_given" = some (some (.ref x_f_where_given)))
    (l_f_where_given : K.lookup x_f_where_given = some ⟨oc5, od5, .func (PySem.W.fnOf "where_given" "where_given" (defArgs s_f_where_given) (defBody s_f_where_given) (defScope s_f_where_given) .none kV5 dc5 pm5 an5 cd5 ct5), sl5⟩)
    (c_f_where_given : PySem.W.codeIn K cd5 "where_given" = true)
    (k_f_where_given : PySem.W.keepIn K (.ref x_f_where_given) = true)
    (a_f_how_many_given : PySem.W.nsIn K mainGlobals "how_many_given" = some (some (.ref x_f_how_many_given)))
    (l_f_how_many_given : K.lookup x_f_how_many_given = some ⟨oc6, od6, .func (PySem.W.fnOf "how_many_given" "how_many_given" (defArgs s_f_how_many_given) (defBody s_f_how_many_given) (defScope s_f_how_many_given) .none kV6 dc6 pm6 an6 cd6 ct6), sl6⟩)
    (c_f_how_many_given : PySem.W.codeIn K cd6 "how_many_given" = true)
    (k_f_how_many_given : PySem.W.keepIn K (.ref x_f_how_many_given) = true)
    (a_f_answer_what_changes : PySem.W.nsIn K mainGlobals "answer_what_changes" = some (some (.ref x_f_answer_what_changes)))
    (l_f_answer_what_changes : K.lookup x_f_answer_what_changes = some ⟨oc7, od7, .func (PySem.W.fnOf "answer_what_changes" "answer_what_changes" (defArgs s_f_answer_what_changes) (defBody s_f_answer_what_changes) (defScope s_f_answer_what_changes) .none kV7 dc7 pm7 an7 cd7 ct7), sl7⟩)
    (c_f_answer_what_changes : PySem.W.codeIn K cd7 "answer_what_changes" = true)
    (k_f_answer_what_changes : PySem.W.keepIn K (.ref x_f_answer_what_changes) = true)
    (a_f_answer_what_is_asked : PySem.W.nsIn K mainGlobals "answer_what_is_asked" = some (some (.ref x_f_answer_what_is_asked)))
    (l_f_answer_what_is_asked : K.lookup x_f_answer_what_is_asked = some ⟨oc8, od8, .func (PySem.W.fnOf "answer_what_is_asked" "answer_what_is_asked" (defArgs s_f_answer_what_is_asked) (defBody s_f_answer_what_is_asked) (defScope s_f_answer_what_is_asked) .none kV8 dc8 pm8 an8 cd8 ct8), sl8⟩)
    (c_f_answer_what_is_asked : PySem.W.codeIn K cd8 "answer_what_is_asked" = true)
    (k_f_answer_what_is_asked : PySem.W.keepIn K (.ref x_f_answer_what_is_asked) = true)
    (a_f_answer_without_laying : PySem.W.nsIn K mainGlobals "answer_without_laying" = some (some (.ref x_f_answer_without_laying)))
    (l_f_answer_without_laying : K.lookup x_f_answer_without_laying = some ⟨oc9, od9, .func (PySem.W.fnOf "answer_without_laying" "answer_without_laying" (defArgs s_f_answer_without_laying) (defBody s_f_answer_without_laying) (defScope s_f_answer_without_laying) .none kV9 dc9 pm9 an9 cd9 ct9), sl9⟩)
    (c_f_answer_without_laying : PySem.W.codeIn K cd9 "answer_without_laying" = true)
    (k_f_answer_without_laying : PySem.W.keepIn K (.ref x_f_answer_without_laying) = true)
    (a_f_answer_call : PySem.W.nsIn K mainGlobals "answer_call" = some (some (.ref x_f_answer_call)))
    (l_f_answer_call : K.lookup x_f_answer_call = some ⟨oc10, od10, .func (PySem.W.fnOf "answer_call" "answer_call" (defArgs s_f_answer_call) (defBody s_f_answer_call) (defScope s_f_answer_call) .none kV10 dc10 pm10 an10 cd10 ct10), sl10⟩)
    (c_f_answer_call : PySem.W.codeIn K cd10 "answer_call" = true)
    (k_f_answer_call : PySem.W.keepIn K (.ref x_f_answer_call) = true)
    (a_f_answers : PySem.W.nsIn K mainGlobals "answers" = some (some (.ref x_f_answers)))
    (l_f_answers : K.lookup x_f_answers = some ⟨oc11, od11, .func (PySem.W.fnOf "answers" "answers" (defArgs s_f_answers) (defBody s_f_answers) (defScope s_f_answers) .none kV11 dc11 pm11 an11 cd11 ct11), sl11⟩)
    (c_f_answers : PySem.W.codeIn K cd11 "answers" = true)
    (k_f_answers : PySem.W.keepIn K (.ref x_f_answers) = true)
    (a_m_init : PySem.W.findIn K (.ref C) "__init__" = some (some (.ref x_m_init)))
    (i_m_init : PySem.W.isFn K (.ref x_m_init) = true)
    (l_m_init : K.lookup x_m_init = some ⟨oc12, od12, .func (PySem.W.fnOf "__init__" "Disputation.__init__" (defArgs s_m_init) (defBody s_m_init) (defScope s_m_init) .none kV12 dc12 pm12 an12 cd12 ct12), sl12⟩)
    (c_m_init : PySem.W.codeIn K cd12 "Disputation.__init__" = true)
    (k_m_init : PySem.W.keepIn K (.ref x_m_init) = true)
    (a_m_has_begun : PySem.W.findIn K (.ref C) "has_begun" = some (some (.ref x_m_has_begun)))
    (i_m_has_begun : PySem.W.isFn K (.ref x_m_has_begun) = true)
    (l_m_has_begun : K.lookup x_m_has_begun = some ⟨oc13, od13, .func (PySem.W.fnOf "has_begun" "Disputation.has_begun" (defArgs s_m_has_begun) (defBody s_m_has_begun) (defScope s_m_has_begun) .none kV13 dc13 pm13 an13 cd13 ct13), sl13⟩)
    (c_m_has_begun : PySem.W.codeIn K cd13 "Disputation.has_begun" = true)
    (k_m_has_begun : PySem.W.keepIn K (.ref x_m_has_begun) = true)
    (a_m_is_proposition : PySem.W.findIn K (.ref C) "is_proposition" = some (some (.ref x_m_is_proposition)))
    (i_m_is_proposition : PySem.W.isFn K (.ref x_m_is_proposition) = true)
    (l_m_is_proposition : K.lookup x_m_is_proposition = some ⟨oc14, od14, .func (PySem.W.fnOf "is_proposition" "Disputation.is_proposition" (defArgs s_m_is_proposition) (defBody s_m_is_proposition) (defScope s_m_is_proposition) .none kV14 dc14 pm14 an14 cd14 ct14), sl14⟩)
    (c_m_is_proposition : PySem.W.codeIn K cd14 "Disputation.is_proposition" = true)
    (k_m_is_proposition : PySem.W.keepIn K (.ref x_m_is_proposition) = true)
    (a_m_are_propositions : PySem.W.findIn K (.ref C) "are_propositions" = some (some (.ref x_m_are_propositions)))
    (i_m_are_propositions : PySem.W.isFn K (.ref x_m_are_propositions) = true)
    (l_m_are_propositions : K.lookup x_m_are_propositions = some ⟨oc15, od15, .func (PySem.W.fnOf "are_propositions" "Disputation.are_propositions" (defArgs s_m_are_propositions) (defBody s_m_are_propositions) (defScope s_m_are_propositions) .none kV15 dc15 pm15 an15 cd15 ct15), sl15⟩)
    (c_m_are_propositions : PySem.W.codeIn K cd15 "Disputation.are_propositions" = true)
    (k_m_are_propositions : PySem.W.keepIn K (.ref x_m_are_propositions) = true)
    (a_m_all_worlds : PySem.W.findIn K (.ref C) "all_worlds" = some (some (.ref x_m_all_worlds)))
    (i_m_all_worlds : PySem.W.isFn K (.ref x_m_all_worlds) = true)
    (l_m_all_worlds : K.lookup x_m_all_worlds = some ⟨oc16, od16, .func (PySem.W.fnOf "all_worlds" "Disputation.all_worlds" (defArgs s_m_all_worlds) (defBody s_m_all_worlds) (defScope s_m_all_worlds) .none kV16 dc16 pm16 an16 cd16 ct16), sl16⟩)
    (c_m_all_worlds : PySem.W.codeIn K cd16 "Disputation.all_worlds" = true)
    (k_m_all_worlds : PySem.W.keepIn K (.ref x_m_all_worlds) = true)
    (a_m_standing : PySem.W.findIn K (.ref C) "standing" = some (some (.ref x_m_standing)))
    (i_m_standing : PySem.W.isFn K (.ref x_m_standing) = true)
    (l_m_standing : K.lookup x_m_standing = some ⟨oc17, od17, .func (PySem.W.fnOf "standing" "Disputation.standing" (defArgs s_m_standing) (defBody s_m_standing) (defScope s_m_standing) .none kV17 dc17 pm17 an17 cd17 ct17), sl17⟩)
    (c_m_standing : PySem.W.codeIn K cd17 "Disputation.standing" = true)
    (k_m_standing : PySem.W.keepIn K (.ref x_m_standing) = true)
    (a_m_right_answers : PySem.W.findIn K (.ref C) "right_answers" = some (some (.ref x_m_right_answers)))
    (i_m_right_answers : PySem.W.isFn K (.ref x_m_right_answers) = true)
    (l_m_right_answers : K.lookup x_m_right_answers = some ⟨oc18, od18, .func (PySem.W.fnOf "right_answers" "Disputation.right_answers" (defArgs s_m_right_answers) (defBody s_m_right_answers) (defScope s_m_right_answers) .none kV18 dc18 pm18 an18 cd18 ct18), sl18⟩)
    (c_m_right_answers : PySem.W.codeIn K cd18 "Disputation.right_answers" = true)
    (k_m_right_answers : PySem.W.keepIn K (.ref x_m_right_answers) = true)
    (a_m_how_many_proposed : PySem.W.findIn K (.ref C) "how_many_proposed" = some (some (.ref x_m_how_many_proposed)))
    (i_m_how_many_proposed : PySem.W.isFn K (.ref x_m_how_many_proposed) = true)
    (l_m_how_many_proposed : K.lookup x_m_how_many_proposed = some ⟨oc19, od19, .func (PySem.W.fnOf "how_many_proposed" "Disputation.how_many_proposed" (defArgs s_m_how_many_proposed) (defBody s_m_how_many_proposed) (defScope s_m_how_many_proposed) .none kV19 dc19 pm19 an19 cd19 ct19), sl19⟩)
    (c_m_how_many_proposed : PySem.W.codeIn K cd19 "Disputation.how_many_proposed" = true)
    (k_m_how_many_proposed : PySem.W.keepIn K (.ref x_m_how_many_proposed) = true)
    (a_m_refusal : PySem.W.findIn K (.ref C) "refusal" = some (some (.ref x_m_refusal)))
    (i_m_refusal : PySem.W.isFn K (.ref x_m_refusal) = true)
    (l_m_refusal : K.lookup x_m_refusal = some ⟨oc20, od20, .func (PySem.W.fnOf "refusal" "Disputation.refusal" (defArgs s_m_refusal) (defBody s_m_refusal) (defScope s_m_refusal) .none kV20 dc20 pm20 an20 cd20 ct20), sl20⟩)
    (c_m_refusal : PySem.W.codeIn K cd20 "Disputation.refusal" = true)
    (k_m_refusal : PySem.W.keepIn K (.ref x_m_refusal) = true)
    (a_m_begin : PySem.W.findIn K (.ref C) "begin" = some (some (.ref x_m_begin)))
    (i_m_begin : PySem.W.isFn K (.ref x_m_begin) = true)
    (l_m_begin : K.lookup x_m_begin = some ⟨oc21, od21, .func (PySem.W.fnOf "begin" "Disputation.begin" (defArgs s_m_begin) (defBody s_m_begin) (defScope s_m_begin) .none kV21 dc21 pm21 an21 cd21 ct21), sl21⟩)
    (c_m_begin : PySem.W.codeIn K cd21 "Disputation.begin" = true)
    (k_m_begin : PySem.W.keepIn K (.ref x_m_begin) = true)
    (a_m_lay : PySem.W.findIn K (.ref C) "lay" = some (some (.ref x_m_lay)))
    (i_m_lay : PySem.W.isFn K (.ref x_m_lay) = true)
    (l_m_lay : K.lookup x_m_lay = some ⟨oc22, od22, .func (PySem.W.fnOf "lay" "Disputation.lay" (defArgs s_m_lay) (defBody s_m_lay) (defScope s_m_lay) .none kV22 dc22 pm22 an22 cd22 ct22), sl22⟩)
    (c_m_lay : PySem.W.codeIn K cd22 "Disputation.lay" = true)
    (k_m_lay : PySem.W.keepIn K (.ref x_m_lay) = true)
    (a_m_propose : PySem.W.findIn K (.ref C) "propose" = some (some (.ref x_m_propose)))
    (i_m_propose : PySem.W.isFn K (.ref x_m_propose) = true)
    (l_m_propose : K.lookup x_m_propose = some ⟨oc23, od23, .func (PySem.W.fnOf "propose" "Disputation.propose" (defArgs s_m_propose) (defBody s_m_propose) (defScope s_m_propose) .none kV23 dc23 pm23 an23 cd23 ct23), sl23⟩)
    (c_m_propose : PySem.W.codeIn K cd23 "Disputation.propose" = true)
    (k_m_propose : PySem.W.keepIn K (.ref x_m_propose) = true)
    (a_m_back : PySem.W.findIn K (.ref C) "back" = some (some (.ref x_m_back)))
    (i_m_back : PySem.W.isFn K (.ref x_m_back) = true)
    (l_m_back : K.lookup x_m_back = some ⟨oc24, od24, .func (PySem.W.fnOf "back" "Disputation.back" (defArgs s_m_back) (defBody s_m_back) (defScope s_m_back) .none kV24 dc24 pm24 an24 cd24 ct24), sl24⟩)
    (c_m_back : PySem.W.codeIn K cd24 "Disputation.back" = true)
    (k_m_back : PySem.W.keepIn K (.ref x_m_back) = true)
    (a_m_finish : PySem.W.findIn K (.ref C) "finish" = some (some (.ref x_m_finish)))
    (i_m_finish : PySem.W.isFn K (.ref x_m_finish) = true)
    (l_m_finish : K.lookup x_m_finish = some ⟨oc25, od25, .func (PySem.W.fnOf "finish" "Disputation.finish" (defArgs s_m_finish) (defBody s_m_finish) (defScope s_m_finish) .none kV25 dc25 pm25 an25 cd25 ct25), sl25⟩)
    (c_m_finish : PySem.W.codeIn K cd25 "Disputation.finish" = true)
    (k_m_finish : PySem.W.keepIn K (.ref x_m_finish) = true)
    (a_m_learn : PySem.W.findIn K (.ref C) "learn" = some (some (.ref x_m_learn)))
    (i_m_learn : PySem.W.isFn K (.ref x_m_learn) = true)
    (l_m_learn : K.lookup x_m_learn = some ⟨oc26, od26, .func (PySem.W.fnOf "learn" "Disputation.learn" (defArgs s_m_learn) (defBody s_m_learn) (defScope s_m_learn) .none kV26 dc26 pm26 an26 cd26 ct26), sl26⟩)
    (c_m_learn : PySem.W.codeIn K cd26 "Disputation.learn" = true)
    (k_m_learn : PySem.W.keepIn K (.ref x_m_learn) = true)
    (a_m_answer : PySem.W.findIn K (.ref C) "answer" = some (some (.ref x_m_answer)))
    (i_m_answer : PySem.W.isFn K (.ref x_m_answer) = true)
    (l_m_answer : K.lookup x_m_answer = some ⟨oc27, od27, .func (PySem.W.fnOf "answer" "Disputation.answer" (defArgs s_m_answer) (defBody s_m_answer) (defScope s_m_answer) .none kV27 dc27 pm27 an27 cd27 ct27), sl27⟩)
    (c_m_answer : PySem.W.codeIn K cd27 "Disputation.answer" = true)
    (k_m_answer : PySem.W.keepIn K (.ref x_m_answer) = true)
    (a_m_row : PySem.W.findIn K (.ref C) "row" = some (some (.ref x_m_row)))
    (i_m_row : PySem.W.isFn K (.ref x_m_row) = true)
    (l_m_row : K.lookup x_m_row = some ⟨oc28, od28, .func (PySem.W.fnOf "row" "Disputation.row" (defArgs s_m_row) (defBody s_m_row) (defScope s_m_row) .none kV28 dc28 pm28 an28 cd28 ct28), sl28⟩)
    (c_m_row : PySem.W.codeIn K cd28 "Disputation.row" = true)
    (k_m_row : PySem.W.keepIn K (.ref x_m_row) = true)
    (a_m_stands : PySem.W.findIn K (.ref C) "stands" = some (some (.ref x_m_stands)))
    (i_m_stands : PySem.W.isFn K (.ref x_m_stands) = true)
    (l_m_stands : K.lookup x_m_stands = some ⟨oc29, od29, .func (PySem.W.fnOf "stands" "Disputation.stands" (defArgs s_m_stands) (defBody s_m_stands) (defScope s_m_stands) .none kV29 dc29 pm29 an29 cd29 ct29), sl29⟩)
    (c_m_stands : PySem.W.codeIn K cd29 "Disputation.stands" = true)
    (k_m_stands : PySem.W.keepIn K (.ref x_m_stands) = true)
    (a_m_matters : PySem.W.findIn K (.ref C) "matters" = some (some (.ref x_m_matters)))
    (i_m_matters : PySem.W.isFn K (.ref x_m_matters) = true)
    (l_m_matters : K.lookup x_m_matters = some ⟨oc30, od30, .func (PySem.W.fnOf "matters" "Disputation.matters" (defArgs s_m_matters) (defBody s_m_matters) (defScope s_m_matters) .none kV30 dc30 pm30 an30 cd30 ct30), sl30⟩)
    (c_m_matters : PySem.W.codeIn K cd30 "Disputation.matters" = true)
    (k_m_matters : PySem.W.keepIn K (.ref x_m_matters) = true)
    (a_m_log : PySem.W.findIn K (.ref C) "log" = some (some (.ref x_m_log)))
    (i_m_log : PySem.W.isFn K (.ref x_m_log) = true)
    (l_m_log : K.lookup x_m_log = some ⟨oc31, od31, .func (PySem.W.fnOf "log" "Disputation.log" (defArgs s_m_log) (defBody s_m_log) (defScope s_m_log) .none kV31 dc31 pm31 an31 cd31 ct31), sl31⟩)
    (c_m_log : PySem.W.codeIn K cd31 "Disputation.log" = true)
    (k_m_log : PySem.W.keepIn K (.ref x_m_log) = true)
    (a_m_counts : PySem.W.findIn K (.ref C) "counts" = some (some (.ref x_m_counts)))
    (i_m_counts : PySem.W.isFn K (.ref x_m_counts) = true)
    (l_m_counts : K.lookup x_m_counts = some ⟨oc32, od32, .func (PySem.W.fnOf "counts" "Disputation.counts" (defArgs s_m_counts) (defBody s_m_counts) (defScope s_m_counts) .none kV32 dc32 pm32 an32 cd32 ct32), sl32⟩)
    (c_m_counts : PySem.W.codeIn K cd32 "Disputation.counts" = true)
    (k_m_counts : PySem.W.keepIn K (.ref x_m_counts) = true)
    (a_m_nth : PySem.W.findIn K (.ref C) "nth" = some (some (.ref x_m_nth)))
    (i_m_nth : PySem.W.isFn K (.ref x_m_nth) = true)
    (l_m_nth : K.lookup x_m_nth = some ⟨oc33, od33, .func (PySem.W.fnOf "nth" "Disputation.nth" (defArgs s_m_nth) (defBody s_m_nth) (defScope s_m_nth) .none kV33 dc33 pm33 an33 cd33 ct33), sl33⟩)
    (c_m_nth : PySem.W.codeIn K cd33 "Disputation.nth" = true)
    (k_m_nth : PySem.W.keepIn K (.ref x_m_nth) = true)
    (a_m_truth : PySem.W.findIn K (.ref C) "truth" = some (some (.ref x_m_truth)))
    (i_m_truth : PySem.W.isFn K (.ref x_m_truth) = true)
    (l_m_truth : K.lookup x_m_truth = some ⟨oc34, od34, .func (PySem.W.fnOf "truth" "Disputation.truth" (defArgs s_m_truth) (defBody s_m_truth) (defScope s_m_truth) .none kV34 dc34 pm34 an34 cd34 ct34), sl34⟩)
    (c_m_truth : PySem.W.codeIn K cd34 "Disputation.truth" = true)
    (k_m_truth : PySem.W.keepIn K (.ref x_m_truth) = true)
    (a_m_letter : PySem.W.findIn K (.ref C) "letter" = some (some (.ref x_m_letter)))
    (i_m_letter : PySem.W.isFn K (.ref x_m_letter) = true)
    (l_m_letter : K.lookup x_m_letter = some ⟨oc35, od35, .func (PySem.W.fnOf "letter" "Disputation.letter" (defArgs s_m_letter) (defBody s_m_letter) (defScope s_m_letter) .none kV35 dc35 pm35 an35 cd35 ct35), sl35⟩)
    (c_m_letter : PySem.W.codeIn K cd35 "Disputation.letter" = true)
    (k_m_letter : PySem.W.keepIn K (.ref x_m_letter) = true)
    (a_m_not_of : PySem.W.findIn K (.ref C) "not_of" = some (some (.ref x_m_not_of)))
    (i_m_not_of : PySem.W.isFn K (.ref x_m_not_of) = true)
    (l_m_not_of : K.lookup x_m_not_of = some ⟨oc36, od36, .func (PySem.W.fnOf "not_of" "Disputation.not_of" (defArgs s_m_not_of) (defBody s_m_not_of) (defScope s_m_not_of) .none kV36 dc36 pm36 an36 cd36 ct36), sl36⟩)
    (c_m_not_of : PySem.W.codeIn K cd36 "Disputation.not_of" = true)
    (k_m_not_of : PySem.W.keepIn K (.ref x_m_not_of) = true)
    (a_m_both : PySem.W.findIn K (.ref C) "both" = some (some (.ref x_m_both)))
    (i_m_both : PySem.W.isFn K (.ref x_m_both) = true)
    (l_m_both : K.lookup x_m_both = some ⟨oc37, od37, .func (PySem.W.fnOf "both" "Disputation.both" (defArgs s_m_both) (defBody s_m_both) (defScope s_m_both) .none kV37 dc37 pm37 an37 cd37 ct37), sl37⟩)
    (c_m_both : PySem.W.codeIn K cd37 "Disputation.both" = true)
    (k_m_both : PySem.W.keepIn K (.ref x_m_both) = true)
    (a_m_either : PySem.W.findIn K (.ref C) "either" = some (some (.ref x_m_either)))
    (i_m_either : PySem.W.isFn K (.ref x_m_either) = true)
    (l_m_either : K.lookup x_m_either = some ⟨oc38, od38, .func (PySem.W.fnOf "either" "Disputation.either" (defArgs s_m_either) (defBody s_m_either) (defScope s_m_either) .none kV38 dc38 pm38 an38 cd38 ct38), sl38⟩)
    (c_m_either : PySem.W.codeIn K cd38 "Disputation.either" = true)
    (k_m_either : PySem.W.keepIn K (.ref x_m_either) = true)
    (a_m_if_then : PySem.W.findIn K (.ref C) "if_then" = some (some (.ref x_m_if_then)))
    (i_m_if_then : PySem.W.isFn K (.ref x_m_if_then) = true)
    (l_m_if_then : K.lookup x_m_if_then = some ⟨oc39, od39, .func (PySem.W.fnOf "if_then" "Disputation.if_then" (defArgs s_m_if_then) (defBody s_m_if_then) (defScope s_m_if_then) .none kV39 dc39 pm39 an39 cd39 ct39), sl39⟩)
    (c_m_if_then : PySem.W.codeIn K cd39 "Disputation.if_then" = true)
    (k_m_if_then : PySem.W.keepIn K (.ref x_m_if_then) = true)
    (a_m_follows : PySem.W.findIn K (.ref C) "follows" = some (some (.ref x_m_follows)))
    (i_m_follows : PySem.W.isFn K (.ref x_m_follows) = true)
    (l_m_follows : K.lookup x_m_follows = some ⟨oc40, od40, .func (PySem.W.fnOf "follows" "Disputation.follows" (defArgs s_m_follows) (defBody s_m_follows) (defScope s_m_follows) .none kV40 dc40 pm40 an40 cd40 ct40), sl40⟩)
    (c_m_follows : PySem.W.codeIn K cd40 "Disputation.follows" = true)
    (k_m_follows : PySem.W.keepIn K (.ref x_m_follows) = true)
    (a_m_state : PySem.W.findIn K (.ref C) "state" = some (some (.ref x_m_state)))
    (i_m_state : PySem.W.isFn K (.ref x_m_state) = true)
    (l_m_state : K.lookup x_m_state = some ⟨oc41, od41, .func (PySem.W.fnOf "state" "Disputation.state" (defArgs s_m_state) (defBody s_m_state) (defScope s_m_state) .none kV41 dc41 pm41 an41 cd41 ct41), sl41⟩)
    (c_m_state : PySem.W.codeIn K cd41 "Disputation.state" = true)
    (k_m_state : PySem.W.keepIn K (.ref x_m_state) = true)
    (pg : PySem.W.plainGet K C Str.empty = true)
    (hd : PySem.W.hasDictIn K C = true)
    (po : PySem.W.plainOver K C = true)
    (sa : PySem.W.findIn K (.ref C) "__setattr__" = some (some (.builtin "object.__setattr__")))
    (mk : PySem.W.makesIn K C = true)
    (kc : PySem.W.keepIn K (.ref C) = true)
    (n_letters : PySem.W.findIn K (.ref C) "letters" = some none)
    (n_known : PySem.W.findIn K (.ref C) "known" = some none)
    (n_laid : PySem.W.findIn K (.ref C) "laid" = some none)
    (n_proposed : PySem.W.findIn K (.ref C) "proposed" = some none)
    (h_DENIED : PySem.W.nsIn K mainGlobals "DENIED" = some (some (.int (0) t_DENIED)))
    (h_CONCEDED : PySem.W.nsIn K mainGlobals "CONCEDED" = some (some (.int (1) t_CONCEDED)))
    (h_DOUBTED : PySem.W.nsIn K mainGlobals "DOUBTED" = some (some (.int (2) t_DOUBTED)))
    (h_DOES_NOT_MATTER : PySem.W.nsIn K mainGlobals "DOES_NOT_MATTER" = some (some (.int (0) t_DOES_NOT_MATTER)))
    (h_FOLLOWS_disputation : PySem.W.nsIn K mainGlobals "FOLLOWS_disputation" = some (some (.int (1) t_FOLLOWS_disputation)))
    (h_IS_AGAINST : PySem.W.nsIn K mainGlobals "IS_AGAINST" = some (some (.int (2) t_IS_AGAINST)))
    (h_NO_SUCH_LETTER : PySem.W.nsIn K mainGlobals "NO_SUCH_LETTER" = some (some (.int (-2) t_NO_SUCH_LETTER)))
    (h_NOTHING_THERE : PySem.W.nsIn K mainGlobals "NOTHING_THERE" = some (some (.int (-6) t_NOTHING_THERE)))
    (h_NOT_BEGUN : PySem.W.nsIn K mainGlobals "NOT_BEGUN" = some (some (.int (-11) t_NOT_BEGUN)))
    (h_ALREADY_LAID : PySem.W.nsIn K mainGlobals "ALREADY_LAID" = some (some (.int (-17) t_ALREADY_LAID)))
    (h_NOT_RIGHT : PySem.W.nsIn K mainGlobals "NOT_RIGHT" = some (some (.int (-22) t_NOT_RIGHT)))
    (h_TOO_MANY : PySem.W.nsIn K mainGlobals "TOO_MANY" = some (some (.int (-28) t_TOO_MANY)))
    (h_CANNOT_BE : PySem.W.nsIn K mainGlobals "CANNOT_BE" = some (some (.int (-33) t_CANNOT_BE)))
    (h_HIGHEST_ANSWER : PySem.W.nsIn K mainGlobals "HIGHEST_ANSWER" = some (some (.int (2) t_HIGHEST_ANSWER)))
    (h_MOST_LETTERS : PySem.W.nsIn K mainGlobals "MOST_LETTERS" = some (some (.int (3) t_MOST_LETTERS)))
    (h_MOST_PROPOSED : PySem.W.nsIn K mainGlobals "MOST_PROPOSED" = some (some (.int (20) t_MOST_PROPOSED)))
    (h_LONGEST_ROW : PySem.W.nsIn K mainGlobals "LONGEST_ROW" = some (some (.int (16) t_LONGEST_ROW)))
    (h_BEGIN : PySem.W.nsIn K mainGlobals "BEGIN" = some (some (.int (0) t_BEGIN)))
    (h_LAY : PySem.W.nsIn K mainGlobals "LAY" = some (some (.int (1) t_LAY)))
    (h_PROPOSE : PySem.W.nsIn K mainGlobals "PROPOSE" = some (some (.int (2) t_PROPOSE)))
    (h_BACK : PySem.W.nsIn K mainGlobals "BACK" = some (some (.int (3) t_BACK)))
    (h_FINISH : PySem.W.nsIn K mainGlobals "FINISH" = some (some (.int (4) t_FINISH)))
    (h_LEARN : PySem.W.nsIn K mainGlobals "LEARN" = some (some (.int (5) t_LEARN)))
    (h_ANSWER : PySem.W.nsIn K mainGlobals "ANSWER" = some (some (.int (6) t_ANSWER)))
    (h_ROW : PySem.W.nsIn K mainGlobals "ROW" = some (some (.int (7) t_ROW)))
    (h_STANDS : PySem.W.nsIn K mainGlobals "STANDS" = some (some (.int (8) t_STANDS)))
    (h_MATTERS : PySem.W.nsIn K mainGlobals "MATTERS" = some (some (.int (9) t_MATTERS)))
    (h_LOG : PySem.W.nsIn K mainGlobals "LOG" = some (some (.int (10) t_LOG)))
    (h_COUNTS : PySem.W.nsIn K mainGlobals "COUNTS" = some (some (.int (11) t_COUNTS)))
    (h_NTH : PySem.W.nsIn K mainGlobals "NTH" = some (some (.int (12) t_NTH)))
    (h_TRUTH : PySem.W.nsIn K mainGlobals "TRUTH" = some (some (.int (13) t_TRUTH)))
    (h_LETTER : PySem.W.nsIn K mainGlobals "LETTER" = some (some (.int (14) t_LETTER)))
    (h_NOT_OF : PySem.W.nsIn K mainGlobals "NOT_OF" = some (some (.int (15) t_NOT_OF)))
    (h_BOTH : PySem.W.nsIn K mainGlobals "BOTH" = some (some (.int (16) t_BOTH)))
    (h_EITHER : PySem.W.nsIn K mainGlobals "EITHER" = some (some (.int (17) t_EITHER)))
    (h_IF_THEN : PySem.W.nsIn K mainGlobals "IF_THEN" = some (some (.int (18) t_IF_THEN)))
    (h_FOLLOWS_granted : PySem.W.nsIn K mainGlobals "FOLLOWS_granted" = some (some (.int (19) t_FOLLOWS_granted)))
    (h_PROPOSITIONS : PySem.W.nsIn K mainGlobals "PROPOSITIONS" = some (some (.ref x_PROPOSITIONS)))
    (q_PROPOSITIONS : K.lookup x_PROPOSITIONS = some ⟨.type "tuple", od_PROPOSITIONS, .seq #[.int 0 t_PROPOSITIONS_0, .int 4 t_PROPOSITIONS_1, .int 16 t_PROPOSITIONS_2, .int 256 t_PROPOSITIONS_3] n_PROPOSITIONS, sl_PROPOSITIONS⟩)
    (h_WORLDS_OF_LETTERS : PySem.W.nsIn K mainGlobals "WORLDS_OF_LETTERS" = some (some (.ref x_WORLDS_OF_LETTERS)))
    (q_WORLDS_OF_LETTERS : K.lookup x_WORLDS_OF_LETTERS = some ⟨.type "tuple", od_WORLDS_OF_LETTERS, .seq #[.int 170 t_WORLDS_OF_LETTERS_0, .int 204 t_WORLDS_OF_LETTERS_1, .int 240 t_WORLDS_OF_LETTERS_2] n_WORLDS_OF_LETTERS, sl_WORLDS_OF_LETTERS⟩)
    (h_HOW_MANY_GIVEN : PySem.W.nsIn K mainGlobals "HOW_MANY_GIVEN" = some (some (.ref x_HOW_MANY_GIVEN)))
    (q_HOW_MANY_GIVEN : K.lookup x_HOW_MANY_GIVEN = some ⟨.type "tuple", od_HOW_MANY_GIVEN, .seq #[.int 2 t_HOW_MANY_GIVEN_0, .int 1 t_HOW_MANY_GIVEN_1, .int 1 t_HOW_MANY_GIVEN_2, .int 0 t_HOW_MANY_GIVEN_3, .int 0 t_HOW_MANY_GIVEN_4, .int 1 t_HOW_MANY_GIVEN_5, .int 1 t_HOW_MANY_GIVEN_6, .int 0 t_HOW_MANY_GIVEN_7, .int 0 t_HOW_MANY_GIVEN_8, .int 1 t_HOW_MANY_GIVEN_9, .int 0 t_HOW_MANY_GIVEN_10, .int 0 t_HOW_MANY_GIVEN_11, .int 2 t_HOW_MANY_GIVEN_12, .int 1 t_HOW_MANY_GIVEN_13, .int 1 t_HOW_MANY_GIVEN_14, .int 1 t_HOW_MANY_GIVEN_15, .int 2 t_HOW_MANY_GIVEN_16, .int 2 t_HOW_MANY_GIVEN_17, .int 2 t_HOW_MANY_GIVEN_18, .int 2 t_HOW_MANY_GIVEN_19, .int 0 t_HOW_MANY_GIVEN_20] n_HOW_MANY_GIVEN, sl_HOW_MANY_GIVEN⟩)
    (nlen : PySem.W.nsIn K mainGlobals "len" = some none)
    (nrange : PySem.W.nsIn K mainGlobals "range" = some none)
    (nenum : PySem.W.nsIn K mainGlobals "enumerate" = some none) :
    ∃ fd : FuncData, (∀ (s : Shared) (us : List Value), us.length = (["calls"] : List Str).length → BindsTo s fd ⟨us, []⟩ ((["calls"] : List Str).zip us)) ∧ ∀ base : Heap, K.In base → base.Ns mainGlobals mg → FnOk P w K mg base CX0 8 fa fd ["calls"] (Ht.spAns K) := by
  have e := hfa.symm.trans (PySem.W.mg_of X G a_f_answers)
  cases e
  have T : Txt K mg C x_PROPOSITIONS x_WORLDS_OF_LETTERS x_HOW_MANY_GIVEN := ⟨⟨pg, hd, po, sa⟩, PySem.W.mg_of X G aC, PySem.W.mg_none_of X G nlen, PySem.W.mg_none_of X G nrange, PySem.W.mg_none_of X G nenum, n_letters, n_known, n_laid, n_proposed, ⟨_, PySem.W.mg_of X G h_DENIED⟩, ⟨_, PySem.W.mg_of X G h_CONCEDED⟩, ⟨_, PySem.W.mg_of X G h_DOUBTED⟩, ⟨_, PySem.W.mg_of X G h_DOES_NOT_MATTER⟩, ⟨_, PySem.W.mg_of X G h_FOLLOWS_disputation⟩, ⟨_, PySem.W.mg_of X G h_IS_AGAINST⟩, ⟨_, PySem.W.mg_of X G h_NO_SUCH_LETTER⟩, ⟨_, PySem.W.mg_of X G h_NOTHING_THERE⟩, ⟨_, PySem.W.mg_of X G h_NOT_BEGUN⟩, ⟨_, PySem.W.mg_of X G h_ALREADY_LAID⟩, ⟨_, PySem.W.mg_of X G h_NOT_RIGHT⟩, ⟨_, PySem.W.mg_of X G h_TOO_MANY⟩, ⟨_, PySem.W.mg_of X G h_CANNOT_BE⟩, ⟨_, PySem.W.mg_of X G h_HIGHEST_ANSWER⟩, ⟨_, PySem.W.mg_of X G h_MOST_LETTERS⟩, ⟨_, PySem.W.mg_of X G h_MOST_PROPOSED⟩, ⟨_, PySem.W.mg_of X G h_LONGEST_ROW⟩, ⟨_, PySem.W.mg_of X G h_BEGIN⟩, ⟨_, PySem.W.mg_of X G h_LAY⟩, ⟨_, PySem.W.mg_of X G h_PROPOSE⟩, ⟨_, PySem.W.mg_of X G h_BACK⟩, ⟨_, PySem.W.mg_of X G h_FINISH⟩, ⟨_, PySem.W.mg_of X G h_LEARN⟩, ⟨_, PySem.W.mg_of X G h_ANSWER⟩, ⟨_, PySem.W.mg_of X G h_ROW⟩, ⟨_, PySem.W.mg_of X G h_STANDS⟩, ⟨_, PySem.W.mg_of X G h_MATTERS⟩, ⟨_, PySem.W.mg_of X G h_LOG⟩, ⟨_, PySem.W.mg_of X G h_COUNTS⟩, ⟨_, PySem.W.mg_of X G h_NTH⟩, ⟨_, PySem.W.mg_of X G h_TRUTH⟩, ⟨_, PySem.W.mg_of X G h_LETTER⟩, ⟨_, PySem.W.mg_of X G h_NOT_OF⟩, ⟨_, PySem.W.mg_of X G h_BOTH⟩, ⟨_, PySem.W.mg_of X G h_EITHER⟩, ⟨_, PySem.W.mg_of X G h_IF_THEN⟩, ⟨_, PySem.W.mg_of X G h_FOLLOWS_granted⟩, PySem.W.mg_of X G h_PROPOSITIONS, fun _ => .inr ⟨_, _, _, q_PROPOSITIONS, rfl, rfl, (by show 4 ≤ sizeLine; decide), (.cons ⟨_, rfl⟩ (.cons ⟨_, rfl⟩ (.cons ⟨_, rfl⟩ (.cons ⟨_, rfl⟩ .nil))))⟩, PySem.W.mg_of X G h_WORLDS_OF_LETTERS, fun _ => .inr ⟨_, _, _, q_WORLDS_OF_LETTERS, rfl, rfl, (by show 3 ≤ sizeLine; decide), (.cons ⟨_, rfl⟩ (.cons ⟨_, rfl⟩ (.cons ⟨_, rfl⟩ .nil)))⟩, PySem.W.mg_of X G h_HOW_MANY_GIVEN, fun _ => .inr ⟨_, _, _, q_HOW_MANY_GIVEN, rfl, rfl, (by show 21 ≤ sizeLine; decide), (.cons ⟨_, rfl⟩ (.cons ⟨_, rfl⟩ (.cons ⟨_, rfl⟩ (.cons ⟨_, rfl⟩ (.cons ⟨_, rfl⟩ (.cons ⟨_, rfl⟩ (.cons ⟨_, rfl⟩ (.cons ⟨_, rfl⟩ (.cons ⟨_, rfl⟩ (.cons ⟨_, rfl⟩ (.cons ⟨_, rfl⟩ (.cons ⟨_, rfl⟩ (.cons ⟨_, rfl⟩ (.cons ⟨_, rfl⟩ (.cons ⟨_, rfl⟩ (.cons ⟨_, rfl⟩ (.cons ⟨_, rfl⟩ (.cons ⟨_, rfl⟩ (.cons ⟨_, rfl⟩ (.cons ⟨_, rfl⟩ (.cons ⟨_, rfl⟩ .nil)))))))))))))))))))))⟩⟩
  have F_f_how_many_worlds := fun_mk (st := s_f_how_many_worlds) l_f_how_many_worlds c_f_how_many_worlds k_f_how_many_worlds
  have b_f_how_many_worlds := F_f_how_many_worlds.binds (ps := ["worlds"]) fun _ _ _ _ _ _ us hl => match us, hl with | [_], _ => rfl
  have F_f_verdict := fun_mk (st := s_f_verdict) l_f_verdict c_f_verdict k_f_verdict
  have b_f_verdict := F_f_verdict.binds (ps := ["worlds", "p"]) fun _ _ _ _ _ _ us hl => match us, hl with | [_, _], _ => rfl
  have F_f_bearing := fun_mk (st := s_f_bearing) l_f_bearing c_f_bearing k_f_bearing
  have b_f_bearing := F_f_bearing.binds (ps := ["standing", "p"]) fun _ _ _ _ _ _ us hl => match us, hl with | [_, _], _ => rfl
  have F_f_right_answer := fun_mk (st := s_f_right_answer) l_f_right_answer c_f_right_answer k_f_right_answer
  have b_f_right_answer := F_f_right_answer.binds (ps := ["standing", "known", "p"]) fun _ _ _ _ _ _ us hl => match us, hl with | [_, _, _], _ => rfl
  have F_f_narrowed := fun_mk (st := s_f_narrowed) l_f_narrowed c_f_narrowed k_f_narrowed
  have b_f_narrowed := F_f_narrowed.binds (ps := ["standing", "p", "answer"]) fun _ _ _ _ _ _ us hl => match us, hl with | [_, _, _], _ => rfl
  have F_f_where_given := fun_mk (st := s_f_where_given) l_f_where_given c_f_where_given k_f_where_given
  have b_f_where_given := F_f_where_given.binds (ps := ["calls", "at"]) fun _ _ _ _ _ _ us hl => match us, hl with | [_, _], _ => rfl
  have F_f_how_many_given := fun_mk (st := s_f_how_many_given) l_f_how_many_given c_f_how_many_given k_f_how_many_given
  have b_f_how_many_given := F_f_how_many_given.binds (ps := ["calls", "at"]) fun _ _ _ _ _ _ us hl => match us, hl with | [_, _], _ => rfl
  have F_f_answer_what_changes := fun_mk (st := s_f_answer_what_changes) l_f_answer_what_changes c_f_answer_what_changes k_f_answer_what_changes
  have b_f_answer_what_changes := F_f_answer_what_changes.binds (ps := ["held", "call", "given"]) fun _ _ _ _ _ _ us hl => match us, hl with | [_, _, _], _ => rfl
  have F_f_answer_what_is_asked := fun_mk (st := s_f_answer_what_is_asked) l_f_answer_what_is_asked c_f_answer_what_is_asked k_f_answer_what_is_asked
  have b_f_answer_what_is_asked := F_f_answer_what_is_asked.binds (ps := ["held", "call", "given"]) fun _ _ _ _ _ _ us hl => match us, hl with | [_, _, _], _ => rfl
  have F_f_answer_without_laying := fun_mk (st := s_f_answer_without_laying) l_f_answer_without_laying c_f_answer_without_laying k_f_answer_without_laying
  have b_f_answer_without_laying := F_f_answer_without_laying.binds (ps := ["held", "call", "given"]) fun _ _ _ _ _ _ us hl => match us, hl with | [_, _, _], _ => rfl
  have F_f_answer_call := fun_mk (st := s_f_answer_call) l_f_answer_call c_f_answer_call k_f_answer_call
  have b_f_answer_call := F_f_answer_call.binds (ps := ["held", "call", "given"]) fun _ _ _ _ _ _ us hl => match us, hl with | [_, _, _], _ => rfl
  have F_f_answers := fun_mk (st := s_f_answers) l_f_answers c_f_answers k_f_answers
  have b_f_answers := F_f_answers.binds (ps := ["calls"]) fun _ _ _ _ _ _ us hl => match us, hl with | [_], _ => rfl
  have F_m_init := fun_mk (st := s_m_init) l_m_init c_m_init k_m_init
  have b_m_init := F_m_init.binds (ps := ["self"]) fun _ _ _ _ _ _ us hl => match us, hl with | [_], _ => rfl
  have F_m_has_begun := fun_mk (st := s_m_has_begun) l_m_has_begun c_m_has_begun k_m_has_begun
  have b_m_has_begun := F_m_has_begun.binds (ps := ["self"]) fun _ _ _ _ _ _ us hl => match us, hl with | [_], _ => rfl
  have F_m_is_proposition := fun_mk (st := s_m_is_proposition) l_m_is_proposition c_m_is_proposition k_m_is_proposition
  have b_m_is_proposition := F_m_is_proposition.binds (ps := ["self", "p"]) fun _ _ _ _ _ _ us hl => match us, hl with | [_, _], _ => rfl
  have F_m_are_propositions := fun_mk (st := s_m_are_propositions) l_m_are_propositions c_m_are_propositions k_m_are_propositions
  have b_m_are_propositions := F_m_are_propositions.binds (ps := ["self", "p", "q"]) fun _ _ _ _ _ _ us hl => match us, hl with | [_, _, _], _ => rfl
  have F_m_all_worlds := fun_mk (st := s_m_all_worlds) l_m_all_worlds c_m_all_worlds k_m_all_worlds
  have b_m_all_worlds := F_m_all_worlds.binds (ps := ["self"]) fun _ _ _ _ _ _ us hl => match us, hl with | [_], _ => rfl
  have F_m_standing := fun_mk (st := s_m_standing) l_m_standing c_m_standing k_m_standing
  have b_m_standing := F_m_standing.binds (ps := ["self"]) fun _ _ _ _ _ _ us hl => match us, hl with | [_], _ => rfl
  have F_m_right_answers := fun_mk (st := s_m_right_answers) l_m_right_answers c_m_right_answers k_m_right_answers
  have b_m_right_answers := F_m_right_answers.binds (ps := ["self"]) fun _ _ _ _ _ _ us hl => match us, hl with | [_], _ => rfl
  have F_m_how_many_proposed := fun_mk (st := s_m_how_many_proposed) l_m_how_many_proposed c_m_how_many_proposed k_m_how_many_proposed
  have b_m_how_many_proposed := F_m_how_many_proposed.binds (ps := ["self", "answer", "by_known"]) fun _ _ _ _ _ _ us hl => match us, hl with | [_, _, _], _ => rfl
  have F_m_refusal := fun_mk (st := s_m_refusal) l_m_refusal c_m_refusal k_m_refusal
  have b_m_refusal := F_m_refusal.binds (ps := ["self", "p"]) fun _ _ _ _ _ _ us hl => match us, hl with | [_, _], _ => rfl
  have F_m_begin := fun_mk (st := s_m_begin) l_m_begin c_m_begin k_m_begin
  have b_m_begin := F_m_begin.binds (ps := ["self", "letters", "known"]) fun _ _ _ _ _ _ us hl => match us, hl with | [_, _, _], _ => rfl
  have F_m_lay := fun_mk (st := s_m_lay) l_m_lay c_m_lay k_m_lay
  have b_m_lay := F_m_lay.binds (ps := ["self", "p"]) fun _ _ _ _ _ _ us hl => match us, hl with | [_, _], _ => rfl
  have F_m_propose := fun_mk (st := s_m_propose) l_m_propose c_m_propose k_m_propose
  have b_m_propose := F_m_propose.binds (ps := ["self", "p"]) fun _ _ _ _ _ _ us hl => match us, hl with | [_, _], _ => rfl
  have F_m_back := fun_mk (st := s_m_back) l_m_back c_m_back k_m_back
  have b_m_back := F_m_back.binds (ps := ["self"]) fun _ _ _ _ _ _ us hl => match us, hl with | [_], _ => rfl
  have F_m_finish := fun_mk (st := s_m_finish) l_m_finish c_m_finish k_m_finish
  have b_m_finish := F_m_finish.binds (ps := ["self"]) fun _ _ _ _ _ _ us hl => match us, hl with | [_], _ => rfl
  have F_m_learn := fun_mk (st := s_m_learn) l_m_learn c_m_learn k_m_learn
  have b_m_learn := F_m_learn.binds (ps := ["self", "worlds"]) fun _ _ _ _ _ _ us hl => match us, hl with | [_, _], _ => rfl
  have F_m_answer := fun_mk (st := s_m_answer) l_m_answer c_m_answer k_m_answer
  have b_m_answer := F_m_answer.binds (ps := ["self", "p"]) fun _ _ _ _ _ _ us hl => match us, hl with | [_, _], _ => rfl
  have F_m_row := fun_mk (st := s_m_row) l_m_row c_m_row k_m_row
  have b_m_row := F_m_row.binds (ps := ["self", "propositions"]) fun _ _ _ _ _ _ us hl => match us, hl with | [_, _], _ => rfl
  have F_m_stands := fun_mk (st := s_m_stands) l_m_stands c_m_stands k_m_stands
  have b_m_stands := F_m_stands.binds (ps := ["self"]) fun _ _ _ _ _ _ us hl => match us, hl with | [_], _ => rfl
  have F_m_matters := fun_mk (st := s_m_matters) l_m_matters c_m_matters k_m_matters
  have b_m_matters := F_m_matters.binds (ps := ["self", "p"]) fun _ _ _ _ _ _ us hl => match us, hl with | [_, _], _ => rfl
  have F_m_log := fun_mk (st := s_m_log) l_m_log c_m_log k_m_log
  have b_m_log := F_m_log.binds (ps := ["self"]) fun _ _ _ _ _ _ us hl => match us, hl with | [_], _ => rfl
  have F_m_counts := fun_mk (st := s_m_counts) l_m_counts c_m_counts k_m_counts
  have b_m_counts := F_m_counts.binds (ps := ["self"]) fun _ _ _ _ _ _ us hl => match us, hl with | [_], _ => rfl
  have F_m_nth := fun_mk (st := s_m_nth) l_m_nth c_m_nth k_m_nth
  have b_m_nth := F_m_nth.binds (ps := ["self", "answer", "which"]) fun _ _ _ _ _ _ us hl => match us, hl with | [_, _, _], _ => rfl
  have F_m_truth := fun_mk (st := s_m_truth) l_m_truth c_m_truth k_m_truth
  have b_m_truth := F_m_truth.binds (ps := ["self", "p"]) fun _ _ _ _ _ _ us hl => match us, hl with | [_, _], _ => rfl
  have F_m_letter := fun_mk (st := s_m_letter) l_m_letter c_m_letter k_m_letter
  have b_m_letter := F_m_letter.binds (ps := ["self", "i"]) fun _ _ _ _ _ _ us hl => match us, hl with | [_, _], _ => rfl
  have F_m_not_of := fun_mk (st := s_m_not_of) l_m_not_of c_m_not_of k_m_not_of
  have b_m_not_of := F_m_not_of.binds (ps := ["self", "p"]) fun _ _ _ _ _ _ us hl => match us, hl with | [_, _], _ => rfl
  have F_m_both := fun_mk (st := s_m_both) l_m_both c_m_both k_m_both
  have b_m_both := F_m_both.binds (ps := ["self", "p", "q"]) fun _ _ _ _ _ _ us hl => match us, hl with | [_, _, _], _ => rfl
  have F_m_either := fun_mk (st := s_m_either) l_m_either c_m_either k_m_either
  have b_m_either := F_m_either.binds (ps := ["self", "p", "q"]) fun _ _ _ _ _ _ us hl => match us, hl with | [_, _, _], _ => rfl
  have F_m_if_then := fun_mk (st := s_m_if_then) l_m_if_then c_m_if_then k_m_if_then
  have b_m_if_then := F_m_if_then.binds (ps := ["self", "p", "q"]) fun _ _ _ _ _ _ us hl => match us, hl with | [_, _, _], _ => rfl
  have F_m_follows := fun_mk (st := s_m_follows) l_m_follows c_m_follows k_m_follows
  have b_m_follows := F_m_follows.binds (ps := ["self", "p", "q"]) fun _ _ _ _ _ _ us hl => match us, hl with | [_, _, _], _ => rfl
  have F_m_state := fun_mk (st := s_m_state) l_m_state c_m_state k_m_state
  have b_m_state := F_m_state.binds (ps := ["self"]) fun _ _ _ _ _ _ us hl => match us, hl with | [_], _ => rfl
  refine ⟨PySem.W.fnOf "answers" "answers" (defArgs s_f_answers) (defBody s_f_answers) (defScope s_f_answers) .none kV11 dc11 pm11 an11 cd11 ct11, fun s us hu => match us, hu with | [_], _ => .of_eq rfl, fun base _ _ => ?_⟩
  · have G_f_how_many_worlds : HasFn P w K mg base "how_many_worlds" 1 ["worlds"] (spCount) := ⟨x_f_how_many_worlds, _, PySem.W.mg_of X G a_f_how_many_worlds, k_f_how_many_worlds, b_f_how_many_worlds, ok_f_how_many_worlds F_f_how_many_worlds T⟩
    have G_f_verdict : HasFn P w K mg base "verdict" 1 ["worlds", "p"] (spVerdict) := ⟨x_f_verdict, _, PySem.W.mg_of X G a_f_verdict, k_f_verdict, b_f_verdict, ok_f_verdict F_f_verdict T⟩
    have G_f_narrowed : HasFn P w K mg base "narrowed" 1 ["standing", "p", "answer"] (spNarrow) := ⟨x_f_narrowed, _, PySem.W.mg_of X G a_f_narrowed, k_f_narrowed, b_f_narrowed, ok_f_narrowed F_f_narrowed T⟩
    have G_f_where_given : HasFn P w K mg base "where_given" 1 ["calls", "at"] (spWhere K) := ⟨x_f_where_given, _, PySem.W.mg_of X G a_f_where_given, k_f_where_given, b_f_where_given, ok_f_where_given F_f_where_given T⟩
    have G_f_how_many_given : HasFn P w K mg base "how_many_given" 1 ["calls", "at"] (spMany K) := ⟨x_f_how_many_given, _, PySem.W.mg_of X G a_f_how_many_given, k_f_how_many_given, b_f_how_many_given, ok_f_how_many_given F_f_how_many_given T⟩
    have G_m_has_begun : HasMt P w K mg base C "has_begun" 1 ["self"] (spBegun C) := ⟨x_m_has_begun, _, ⟨a_m_has_begun, i_m_has_begun, k_m_has_begun⟩, b_m_has_begun, ok_m_has_begun F_m_has_begun T⟩
    have G_m_is_proposition : HasMt P w K mg base C "is_proposition" 1 ["self", "p"] (spIsProp C) := ⟨x_m_is_proposition, _, ⟨a_m_is_proposition, i_m_is_proposition, k_m_is_proposition⟩, b_m_is_proposition, ok_m_is_proposition F_m_is_proposition T⟩
    have G_m_all_worlds : HasMt P w K mg base C "all_worlds" 1 ["self"] (spFull C) := ⟨x_m_all_worlds, _, ⟨a_m_all_worlds, i_m_all_worlds, k_m_all_worlds⟩, b_m_all_worlds, ok_m_all_worlds F_m_all_worlds T⟩
    have G_m_back : HasMt P w K mg base C "back" 1 ["self"] (spM C (ar0 .back) 1) := ⟨x_m_back, _, ⟨a_m_back, i_m_back, k_m_back⟩, b_m_back, ok_m_back F_m_back T⟩
    have G_m_log : HasMt P w K mg base C "log" 1 ["self"] (spM C (ar0 .log) 1) := ⟨x_m_log, _, ⟨a_m_log, i_m_log, k_m_log⟩, b_m_log, ok_m_log F_m_log T⟩
    have G_m_state : HasMt P w K mg base C "state" 1 ["self"] (spM C (ar0 .state) 1) := ⟨x_m_state, _, ⟨a_m_state, i_m_state, k_m_state⟩, b_m_state, ok_m_state F_m_state T⟩
    have G_f_bearing : HasFn P w K mg base "bearing" 2 ["standing", "p"] (spBearing) := ⟨x_f_bearing, _, PySem.W.mg_of X G a_f_bearing, k_f_bearing, b_f_bearing, ok_f_bearing F_f_bearing T (G_f_verdict := G_f_verdict)⟩
    have G_m_are_propositions : HasMt P w K mg base C "are_propositions" 2 ["self", "p", "q"] (spAre C) := ⟨x_m_are_propositions, _, ⟨a_m_are_propositions, i_m_are_propositions, k_m_are_propositions⟩, b_m_are_propositions, ok_m_are_propositions F_m_are_propositions T (G_m_is_proposition := G_m_is_proposition)⟩
    have G_m_standing : HasMt P w K mg base C "standing" 2 ["self"] (spStanding C) := ⟨x_m_standing, _, ⟨a_m_standing, i_m_standing, k_m_standing⟩, b_m_standing, ok_m_standing F_m_standing T (G_f_narrowed := G_f_narrowed)⟩
    have G_m_how_many_proposed : HasMt P w K mg base C "how_many_proposed" 2 ["self", "answer", "by_known"] (spTally C) := ⟨x_m_how_many_proposed, _, ⟨a_m_how_many_proposed, i_m_how_many_proposed, k_m_how_many_proposed⟩, b_m_how_many_proposed, ok_m_how_many_proposed F_m_how_many_proposed T (G_f_verdict := G_f_verdict)⟩
    have G_m_refusal : HasMt P w K mg base C "refusal" 2 ["self", "p"] (spRefusal C) := ⟨x_m_refusal, _, ⟨a_m_refusal, i_m_refusal, k_m_refusal⟩, b_m_refusal, ok_m_refusal F_m_refusal T (G_m_is_proposition := G_m_is_proposition)⟩
    have G_m_begin : HasMt P w K mg base C "begin" 2 ["self", "letters", "known"] (spBegin C) := ⟨x_m_begin, _, ⟨a_m_begin, i_m_begin, k_m_begin⟩, b_m_begin, ok_m_begin F_m_begin T (G_f_how_many_worlds := G_f_how_many_worlds)⟩
    have G_m_lay : HasMt P w K mg base C "lay" 2 ["self", "p"] (spM C (ar1 .lay) 2) := ⟨x_m_lay, _, ⟨a_m_lay, i_m_lay, k_m_lay⟩, b_m_lay, ok_m_lay F_m_lay T (G_m_is_proposition := G_m_is_proposition) (G_f_verdict := G_f_verdict)⟩
    have G_m_learn : HasMt P w K mg base C "learn" 2 ["self", "worlds"] (spM C (ar1 .learn) 2) := ⟨x_m_learn, _, ⟨a_m_learn, i_m_learn, k_m_learn⟩, b_m_learn, ok_m_learn F_m_learn T (G_m_is_proposition := G_m_is_proposition) (G_f_how_many_worlds := G_f_how_many_worlds)⟩
    have G_m_truth : HasMt P w K mg base C "truth" 2 ["self", "p"] (spM C (ar1 .truth) 2) := ⟨x_m_truth, _, ⟨a_m_truth, i_m_truth, k_m_truth⟩, b_m_truth, ok_m_truth F_m_truth T (G_m_is_proposition := G_m_is_proposition) (G_f_verdict := G_f_verdict)⟩
    have G_m_letter : HasMt P w K mg base C "letter" 2 ["self", "i"] (spM C (ar1 .letter) 2) := ⟨x_m_letter, _, ⟨a_m_letter, i_m_letter, k_m_letter⟩, b_m_letter, ok_m_letter F_m_letter T (G_m_all_worlds := G_m_all_worlds)⟩
    have G_m_not_of : HasMt P w K mg base C "not_of" 2 ["self", "p"] (spM C (ar1 .not_) 2) := ⟨x_m_not_of, _, ⟨a_m_not_of, i_m_not_of, k_m_not_of⟩, b_m_not_of, ok_m_not_of F_m_not_of T (G_m_is_proposition := G_m_is_proposition) (G_m_all_worlds := G_m_all_worlds)⟩
    have G_f_right_answer : HasFn P w K mg base "right_answer" 3 ["standing", "known", "p"] (spRight) := ⟨x_f_right_answer, _, PySem.W.mg_of X G a_f_right_answer, k_f_right_answer, b_f_right_answer, ok_f_right_answer F_f_right_answer T (G_f_verdict := G_f_verdict) (G_f_bearing := G_f_bearing)⟩
    have G_m_finish : HasMt P w K mg base C "finish" 3 ["self"] (spM C (ar0 .finish) 1) := ⟨x_m_finish, _, ⟨a_m_finish, i_m_finish, k_m_finish⟩, b_m_finish, ok_m_finish F_m_finish T (G_m_how_many_proposed := G_m_how_many_proposed)⟩
    have G_m_stands : HasMt P w K mg base C "stands" 3 ["self"] (spM C (ar0 .stands) 1) := ⟨x_m_stands, _, ⟨a_m_stands, i_m_stands, k_m_stands⟩, b_m_stands, ok_m_stands F_m_stands T (G_m_standing := G_m_standing) (G_f_how_many_worlds := G_f_how_many_worlds)⟩
    have G_m_matters : HasMt P w K mg base C "matters" 3 ["self", "p"] (spM C (ar1 .matters) 2) := ⟨x_m_matters, _, ⟨a_m_matters, i_m_matters, k_m_matters⟩, b_m_matters, ok_m_matters F_m_matters T (G_m_refusal := G_m_refusal) (G_f_bearing := G_f_bearing) (G_m_standing := G_m_standing)⟩
    have G_m_both : HasMt P w K mg base C "both" 3 ["self", "p", "q"] (spM C (ar2 .both) 3) := ⟨x_m_both, _, ⟨a_m_both, i_m_both, k_m_both⟩, b_m_both, ok_m_both F_m_both T (G_m_are_propositions := G_m_are_propositions)⟩
    have G_m_either : HasMt P w K mg base C "either" 3 ["self", "p", "q"] (spM C (ar2 .either) 3) := ⟨x_m_either, _, ⟨a_m_either, i_m_either, k_m_either⟩, b_m_either, ok_m_either F_m_either T (G_m_are_propositions := G_m_are_propositions)⟩
    have G_m_if_then : HasMt P w K mg base C "if_then" 3 ["self", "p", "q"] (spM C (ar2 .if_) 3) := ⟨x_m_if_then, _, ⟨a_m_if_then, i_m_if_then, k_m_if_then⟩, b_m_if_then, ok_m_if_then F_m_if_then T (G_m_are_propositions := G_m_are_propositions) (G_m_all_worlds := G_m_all_worlds)⟩
    have G_m_follows : HasMt P w K mg base C "follows" 3 ["self", "p", "q"] (spM C (ar2 .follows) 3) := ⟨x_m_follows, _, ⟨a_m_follows, i_m_follows, k_m_follows⟩, b_m_follows, ok_m_follows F_m_follows T (G_m_are_propositions := G_m_are_propositions)⟩
    have G_f_answer_without_laying : HasFn P w K mg base "answer_without_laying" 4 ["held", "call", "given"] (spPart C 13 20) := ⟨x_f_answer_without_laying, _, PySem.W.mg_of X G a_f_answer_without_laying, k_f_answer_without_laying, b_f_answer_without_laying, ok_f_answer_without_laying F_f_answer_without_laying T (G_m_state := G_m_state) (G_m_truth := G_m_truth) (G_m_letter := G_m_letter) (G_m_not_of := G_m_not_of) (G_m_both := G_m_both) (G_m_either := G_m_either) (G_m_if_then := G_m_if_then) (G_m_follows := G_m_follows)⟩
    have G_m_right_answers : HasMt P w K mg base C "right_answers" 4 ["self"] (spRights C) := ⟨x_m_right_answers, _, ⟨a_m_right_answers, i_m_right_answers, k_m_right_answers⟩, b_m_right_answers, ok_m_right_answers F_m_right_answers T (G_m_standing := G_m_standing) (G_f_right_answer := G_f_right_answer)⟩
    have G_m_propose : HasMt P w K mg base C "propose" 4 ["self", "p"] (spM C (ar1 .propose) 2) := ⟨x_m_propose, _, ⟨a_m_propose, i_m_propose, k_m_propose⟩, b_m_propose, ok_m_propose F_m_propose T (G_m_refusal := G_m_refusal) (G_m_standing := G_m_standing) (G_f_right_answer := G_f_right_answer) (G_f_bearing := G_f_bearing) (G_f_how_many_worlds := G_f_how_many_worlds)⟩
    have G_m_answer : HasMt P w K mg base C "answer" 4 ["self", "p"] (spM C (ar1 .answer) 2) := ⟨x_m_answer, _, ⟨a_m_answer, i_m_answer, k_m_answer⟩, b_m_answer, ok_m_answer F_m_answer T (G_m_refusal := G_m_refusal) (G_m_standing := G_m_standing) (G_f_right_answer := G_f_right_answer) (G_f_bearing := G_f_bearing)⟩
    have G_m_row : HasMt P w K mg base C "row" 4 ["self", "propositions"] (spM C arL 2) := ⟨x_m_row, _, ⟨a_m_row, i_m_row, k_m_row⟩, b_m_row, ok_m_row F_m_row T (G_m_standing := G_m_standing) (G_f_right_answer := G_f_right_answer) (G_f_narrowed := G_f_narrowed) (G_m_is_proposition := G_m_is_proposition)⟩
    have G_f_answer_what_changes : HasFn P w K mg base "answer_what_changes" 5 ["held", "call", "given"] (spPart C 1 5) := ⟨x_f_answer_what_changes, _, PySem.W.mg_of X G a_f_answer_what_changes, k_f_answer_what_changes, b_f_answer_what_changes, ok_f_answer_what_changes F_f_answer_what_changes T (G_m_learn := G_m_learn) (G_m_lay := G_m_lay) (G_m_propose := G_m_propose) (G_m_back := G_m_back) (G_m_finish := G_m_finish)⟩
    have G_m_counts : HasMt P w K mg base C "counts" 5 ["self"] (spM C (ar0 .counts) 1) := ⟨x_m_counts, _, ⟨a_m_counts, i_m_counts, k_m_counts⟩, b_m_counts, ok_m_counts F_m_counts T (G_m_right_answers := G_m_right_answers)⟩
    have G_m_nth : HasMt P w K mg base C "nth" 5 ["self", "answer", "which"] (spM C (ar2 .nth) 3) := ⟨x_m_nth, _, ⟨a_m_nth, i_m_nth, k_m_nth⟩, b_m_nth, ok_m_nth F_m_nth T (G_m_right_answers := G_m_right_answers)⟩
    have G_f_answer_what_is_asked : HasFn P w K mg base "answer_what_is_asked" 6 ["held", "call", "given"] (spPart C 6 12) := ⟨x_f_answer_what_is_asked, _, PySem.W.mg_of X G a_f_answer_what_is_asked, k_f_answer_what_is_asked, b_f_answer_what_is_asked, ok_f_answer_what_is_asked F_f_answer_what_is_asked T (G_m_nth := G_m_nth) (G_m_answer := G_m_answer) (G_m_row := G_m_row) (G_m_stands := G_m_stands) (G_m_matters := G_m_matters) (G_m_log := G_m_log) (G_m_counts := G_m_counts)⟩
    have G_f_answer_call : HasFn P w K mg base "answer_call" 7 ["held", "call", "given"] (spCallOf C) := ⟨x_f_answer_call, _, PySem.W.mg_of X G a_f_answer_call, k_f_answer_call, b_f_answer_call, ok_f_answer_call F_f_answer_call T (G_f_answer_without_laying := G_f_answer_without_laying) (G_m_begin := G_m_begin) (G_m_has_begun := G_m_has_begun) (G_f_answer_what_changes := G_f_answer_what_changes) (G_f_answer_what_is_asked := G_f_answer_what_is_asked)⟩
    exact ok_f_answers F_f_answers T ⟨mk, a_m_init, i_m_init, kc⟩ (ok_m_init F_m_init T) b_m_init (G_f_where_given := G_f_where_given) (G_f_how_many_given := G_f_how_many_given) (G_f_answer_call := G_f_answer_call)
end Ht

open PySem PySem.W PyProof.Rows
set_option Elab.async false
set_option linter.all false
set_option maxRecDepth 100000 in
set_option maxHeartbeats 0 in
theorem PySem.Challenge.cw_heldtogether_s01_answers_holds : PySem.Challenge.rw_heldtogether_s01_answers.Holds := by
  w_on; k_headS; (case hw => exact ⟨[.list []], by decide +kernel, by decide +kernel⟩)
  k_fillS
  refine L2.walk_specK (r := PySem.Challenge.rw_heldtogether_s01_answers) (k := 8) (CX := L2.CX0) (ps := ["calls"]) (sp := Ht.spAns) (by decide +kernel) rfl rfl ⟨rfl, by decide, by decide⟩ (fun w h Y => PySem.W.kIn_of Y) ?F ?S (fun _ _ _ _ z => z)
  case F =>
    intro w mg fa h Y KX G hmg
    refine' Ht.all_mk KX G hmg ?aC ?a_f_how_many_worlds ?l_f_how_many_worlds ?c_f_how_many_worlds ?k_f_how_many_worlds ?a_f_verdict ?l_f_verdict ?c_f_verdict ?k_f_verdict ?a_f_bearing ?l_f_bearing ?c_f_bearing ?k_f_bearing ?a_f_right_answer ?l_f_right_answer ?c_f_right_answer ?k_f_right_answer ?a_f_narrowed ?l_f_narrowed ?c_f_narrowed ?k_f_narrowed ?a_f_where_given ?l_f_where_given ?c_f_where_given ?k_f_where_given ?a_f_how_many_given ?l_f_how_many_given ?c_f_how_many_given ?k_f_how_many_given ?a_f_answer_what_changes ?l_f_answer_what_changes ?c_f_answer_what_changes ?k_f_answer_what_changes ?a_f_answer_what_is_asked ?l_f_answer_what_is_asked ?c_f_answer_what_is_asked ?k_f_answer_what_is_asked ?a_f_answer_without_laying ?l_f_answer_without_laying ?c_f_answer_without_laying ?k_f_answer_without_laying ?a_f_answer_call ?l_f_answer_call ?c_f_answer_call ?k_f_answer_call ?a_f_answers ?l_f_answers ?c_f_answers ?k_f_answers ?a_m_init ?i_m_init ?l_m_init ?c_m_init ?k_m_init ?a_m_has_begun ?i_m_has_begun ?l_m_has_begun ?c_m_has_begun ?k_m_has_begun ?a_m_is_proposition ?i_m_is_proposition ?l_m_is_proposition ?c_m_is_proposition ?k_m_is_proposition ?a_m_are_propositions ?i_m_are_propositions ?l_m_are_propositions ?c_m_are_propositions ?k_m_are_propositions ?a_m_all_worlds ?i_m_all_worlds ?l_m_all_worlds ?c_m_all_worlds ?k_m_all_worlds ?a_m_standing ?i_m_standing ?l_m_standing ?c_m_standing ?k_m_standing ?a_m_right_answers ?i_m_right_answers ?l_m_right_answers ?c_m_right_answers ?k_m_right_answers ?a_m_how_many_proposed ?i_m_how_many_proposed ?l_m_how_many_proposed ?c_m_how_many_proposed ?k_m_how_many_proposed ?a_m_refusal ?i_m_refusal ?l_m_refusal ?c_m_refusal ?k_m_refusal ?a_m_begin ?i_m_begin ?l_m_begin ?c_m_begin ?k_m_begin ?a_m_lay ?i_m_lay ?l_m_lay ?c_m_lay ?k_m_lay ?a_m_propose ?i_m_propose ?l_m_propose ?c_m_propose ?k_m_propose ?a_m_back ?i_m_back ?l_m_back ?c_m_back ?k_m_back ?a_m_finish ?i_m_finish ?l_m_finish ?c_m_finish ?k_m_finish ?a_m_learn ?i_m_learn ?l_m_learn ?c_m_learn ?k_m_learn ?a_m_answer ?i_m_answer ?l_m_answer ?c_m_answer ?k_m_answer ?a_m_row ?i_m_row ?l_m_row ?c_m_row ?k_m_row ?a_m_stands ?i_m_stands ?l_m_stands ?c_m_stands ?k_m_stands ?a_m_matters ?i_m_matters ?l_m_matters ?c_m_matters ?k_m_matters ?a_m_log ?i_m_log ?l_m_log ?c_m_log ?k_m_log ?a_m_counts ?i_m_counts ?l_m_counts ?c_m_counts ?k_m_counts ?a_m_nth ?i_m_nth ?l_m_nth ?c_m_nth ?k_m_nth ?a_m_truth ?i_m_truth ?l_m_truth ?c_m_truth ?k_m_truth ?a_m_letter ?i_m_letter ?l_m_letter ?c_m_letter ?k_m_letter ?a_m_not_of ?i_m_not_of ?l_m_not_of ?c_m_not_of ?k_m_not_of ?a_m_both ?i_m_both ?l_m_both ?c_m_both ?k_m_both ?a_m_either ?i_m_either ?l_m_either ?c_m_either ?k_m_either ?a_m_if_then ?i_m_if_then ?l_m_if_then ?c_m_if_then ?k_m_if_then ?a_m_follows ?i_m_follows ?l_m_follows ?c_m_follows ?k_m_follows ?a_m_state ?i_m_state ?l_m_state ?c_m_state ?k_m_state ?pg ?hd ?po ?sa ?mk ?kc ?n_letters ?n_known ?n_laid ?n_proposed ?h_DENIED ?h_CONCEDED ?h_DOUBTED ?h_DOES_NOT_MATTER ?h_FOLLOWS_disputation ?h_IS_AGAINST ?h_NO_SUCH_LETTER ?h_NOTHING_THERE ?h_NOT_BEGUN ?h_ALREADY_LAID ?h_NOT_RIGHT ?h_TOO_MANY ?h_CANNOT_BE ?h_HIGHEST_ANSWER ?h_MOST_LETTERS ?h_MOST_PROPOSED ?h_LONGEST_ROW ?h_BEGIN ?h_LAY ?h_PROPOSE ?h_BACK ?h_FINISH ?h_LEARN ?h_ANSWER ?h_ROW ?h_STANDS ?h_MATTERS ?h_LOG ?h_COUNTS ?h_NTH ?h_TRUTH ?h_LETTER ?h_NOT_OF ?h_BOTH ?h_EITHER ?h_IF_THEN ?h_FOLLOWS_granted ?h_PROPOSITIONS ?q_PROPOSITIONS ?h_WORLDS_OF_LETTERS ?q_WORLDS_OF_LETTERS ?h_HOW_MANY_GIVEN ?q_HOW_MANY_GIVEN ?nlen ?nrange ?nenum
    (case aC => k_is)
    (case a_f_how_many_worlds => k_is)
    (case l_f_how_many_worlds => k_is)
    (case c_f_how_many_worlds => k_is)
    (case k_f_how_many_worlds => k_is)
    (case a_f_verdict => k_is)
    (case l_f_verdict => k_is)
    (case c_f_verdict => k_is)
    (case k_f_verdict => k_is)
    (case a_f_bearing => k_is)
    (case l_f_bearing => k_is)
    (case c_f_bearing => k_is)
    (case k_f_bearing => k_is)
    (case a_f_right_answer => k_is)
    (case l_f_right_answer => k_is)
    (case c_f_right_answer => k_is)
    (case k_f_right_answer => k_is)
    (case a_f_narrowed => k_is)
    (case l_f_narrowed => k_is)
    (case c_f_narrowed => k_is)
    (case k_f_narrowed => k_is)
    (case a_f_where_given => k_is)
    (case l_f_where_given => k_is)
    (case c_f_where_given => k_is)
    (case k_f_where_given => k_is)
    (case a_f_how_many_given => k_is)
    (case l_f_how_many_given => k_is)
    (case c_f_how_many_given => k_is)
    (case k_f_how_many_given => k_is)
    (case a_f_answer_what_changes => k_is)
    (case l_f_answer_what_changes => k_is)
    (case c_f_answer_what_changes => k_is)
    (case k_f_answer_what_changes => k_is)
    (case a_f_answer_what_is_asked => k_is)
    (case l_f_answer_what_is_asked => k_is)
    (case c_f_answer_what_is_asked => k_is)
    (case k_f_answer_what_is_asked => k_is)
    (case a_f_answer_without_laying => k_is)
    (case l_f_answer_without_laying => k_is)
    (case c_f_answer_without_laying => k_is)
    (case k_f_answer_without_laying => k_is)
    (case a_f_answer_call => k_is)
    (case l_f_answer_call => k_is)
    (case c_f_answer_call => k_is)
    (case k_f_answer_call => k_is)
    (case a_f_answers => k_is)
    (case l_f_answers => k_is)
    (case c_f_answers => k_is)
    (case k_f_answers => k_is)
    (case a_m_init => k_is)
    (case i_m_init => k_is)
    (case l_m_init => k_is)
    (case c_m_init => k_is)
    (case k_m_init => k_is)
    (case a_m_has_begun => k_is)
    (case i_m_has_begun => k_is)
    (case l_m_has_begun => k_is)
    (case c_m_has_begun => k_is)
    (case k_m_has_begun => k_is)
    (case a_m_is_proposition => k_is)
    (case i_m_is_proposition => k_is)
    (case l_m_is_proposition => k_is)
    (case c_m_is_proposition => k_is)
    (case k_m_is_proposition => k_is)
    (case a_m_are_propositions => k_is)
    (case i_m_are_propositions => k_is)
    (case l_m_are_propositions => k_is)
    (case c_m_are_propositions => k_is)
    (case k_m_are_propositions => k_is)
    (case a_m_all_worlds => k_is)
    (case i_m_all_worlds => k_is)
    (case l_m_all_worlds => k_is)
    (case c_m_all_worlds => k_is)
    (case k_m_all_worlds => k_is)
    (case a_m_standing => k_is)
    (case i_m_standing => k_is)
    (case l_m_standing => k_is)
    (case c_m_standing => k_is)
    (case k_m_standing => k_is)
    (case a_m_right_answers => k_is)
    (case i_m_right_answers => k_is)
    (case l_m_right_answers => k_is)
    (case c_m_right_answers => k_is)
    (case k_m_right_answers => k_is)
    (case a_m_how_many_proposed => k_is)
    (case i_m_how_many_proposed => k_is)
    (case l_m_how_many_proposed => k_is)
    (case c_m_how_many_proposed => k_is)
    (case k_m_how_many_proposed => k_is)
    (case a_m_refusal => k_is)
    (case i_m_refusal => k_is)
    (case l_m_refusal => k_is)
    (case c_m_refusal => k_is)
    (case k_m_refusal => k_is)
    (case a_m_begin => k_is)
    (case i_m_begin => k_is)
    (case l_m_begin => k_is)
    (case c_m_begin => k_is)
    (case k_m_begin => k_is)
    (case a_m_lay => k_is)
    (case i_m_lay => k_is)
    (case l_m_lay => k_is)
    (case c_m_lay => k_is)
    (case k_m_lay => k_is)
    (case a_m_propose => k_is)
    (case i_m_propose => k_is)
    (case l_m_propose => k_is)
    (case c_m_propose => k_is)
    (case k_m_propose => k_is)
    (case a_m_back => k_is)
    (case i_m_back => k_is)
    (case l_m_back => k_is)
    (case c_m_back => k_is)
    (case k_m_back => k_is)
    (case a_m_finish => k_is)
    (case i_m_finish => k_is)
    (case l_m_finish => k_is)
    (case c_m_finish => k_is)
    (case k_m_finish => k_is)
    (case a_m_learn => k_is)
    (case i_m_learn => k_is)
    (case l_m_learn => k_is)
    (case c_m_learn => k_is)
    (case k_m_learn => k_is)
    (case a_m_answer => k_is)
    (case i_m_answer => k_is)
    (case l_m_answer => k_is)
    (case c_m_answer => k_is)
    (case k_m_answer => k_is)
    (case a_m_row => k_is)
    (case i_m_row => k_is)
    (case l_m_row => k_is)
    (case c_m_row => k_is)
    (case k_m_row => k_is)
    (case a_m_stands => k_is)
    (case i_m_stands => k_is)
    (case l_m_stands => k_is)
    (case c_m_stands => k_is)
    (case k_m_stands => k_is)
    (case a_m_matters => k_is)
    (case i_m_matters => k_is)
    (case l_m_matters => k_is)
    (case c_m_matters => k_is)
    (case k_m_matters => k_is)
    (case a_m_log => k_is)
    (case i_m_log => k_is)
    (case l_m_log => k_is)
    (case c_m_log => k_is)
    (case k_m_log => k_is)
    (case a_m_counts => k_is)
    (case i_m_counts => k_is)
    (case l_m_counts => k_is)
    (case c_m_counts => k_is)
    (case k_m_counts => k_is)
    (case a_m_nth => k_is)
    (case i_m_nth => k_is)
    (case l_m_nth => k_is)
    (case c_m_nth => k_is)
    (case k_m_nth => k_is)
    (case a_m_truth => k_is)
    (case i_m_truth => k_is)
    (case l_m_truth => k_is)
    (case c_m_truth => k_is)
    (case k_m_truth => k_is)
    (case a_m_letter => k_is)
    (case i_m_letter => k_is)
    (case l_m_letter => k_is)
    (case c_m_letter => k_is)
    (case k_m_letter => k_is)
    (case a_m_not_of => k_is)
    (case i_m_not_of => k_is)
    (case l_m_not_of => k_is)
    (case c_m_not_of => k_is)
    (case k_m_not_of => k_is)
    (case a_m_both => k_is)
    (case i_m_both => k_is)
    (case l_m_both => k_is)
    (case c_m_both => k_is)
    (case k_m_both => k_is)
    (case a_m_either => k_is)
    (case i_m_either => k_is)
    (case l_m_either => k_is)
    (case c_m_either => k_is)
    (case k_m_either => k_is)
    (case a_m_if_then => k_is)
    (case i_m_if_then => k_is)
    (case l_m_if_then => k_is)
    (case c_m_if_then => k_is)
    (case k_m_if_then => k_is)
    (case a_m_follows => k_is)
    (case i_m_follows => k_is)
    (case l_m_follows => k_is)
    (case c_m_follows => k_is)
    (case k_m_follows => k_is)
    (case a_m_state => k_is)
    (case i_m_state => k_is)
    (case l_m_state => k_is)
    (case c_m_state => k_is)
    (case k_m_state => k_is)
    (case pg => k_is)
    (case hd => k_is)
    (case po => k_is)
    (case sa => k_is)
    (case mk => k_is)
    (case kc => k_is)
    (case n_letters => k_is)
    (case n_known => k_is)
    (case n_laid => k_is)
    (case n_proposed => k_is)
    (case h_DENIED => k_is)
    (case h_CONCEDED => k_is)
    (case h_DOUBTED => k_is)
    (case h_DOES_NOT_MATTER => k_is)
    (case h_FOLLOWS_disputation => k_is)
    (case h_IS_AGAINST => k_is)
    (case h_NO_SUCH_LETTER => k_is)
    (case h_NOTHING_THERE => k_is)
    (case h_NOT_BEGUN => k_is)
    (case h_ALREADY_LAID => k_is)
    (case h_NOT_RIGHT => k_is)
    (case h_TOO_MANY => k_is)
    (case h_CANNOT_BE => k_is)
    (case h_HIGHEST_ANSWER => k_is)
    (case h_MOST_LETTERS => k_is)
    (case h_MOST_PROPOSED => k_is)
    (case h_LONGEST_ROW => k_is)
    (case h_BEGIN => k_is)
    (case h_LAY => k_is)
    (case h_PROPOSE => k_is)
    (case h_BACK => k_is)
    (case h_FINISH => k_is)
    (case h_LEARN => k_is)
    (case h_ANSWER => k_is)
    (case h_ROW => k_is)
    (case h_STANDS => k_is)
    (case h_MATTERS => k_is)
    (case h_LOG => k_is)
    (case h_COUNTS => k_is)
    (case h_NTH => k_is)
    (case h_TRUTH => k_is)
    (case h_LETTER => k_is)
    (case h_NOT_OF => k_is)
    (case h_BOTH => k_is)
    (case h_EITHER => k_is)
    (case h_IF_THEN => k_is)
    (case h_FOLLOWS_granted => k_is)
    (case h_PROPOSITIONS => k_is)
    (case q_PROPOSITIONS => k_is)
    (case h_WORLDS_OF_LETTERS => k_is)
    (case q_WORLDS_OF_LETTERS => k_is)
    (case h_HOW_MANY_GIVEN => k_is)
    (case q_HOW_MANY_GIVEN => k_is)
    (case nlen => k_is)
    (case nrange => k_is)
    (case nenum => k_is)
  case S =>
    intro K H xs a hO hwi hask hx
    cases hx with
    | cons h1 h2 =>
      cases h2
      cases h1 with
      | lst hs ha =>
        have e := L2.ints_dw a.1 _ ha
        subst e
        have q : ((Codec.inLen 0 15500 a.1 && a.1.all (Codec.inInt 0 4294967295)) && true) = true := hwi
        rw [Bool.and_eq_true, Bool.and_eq_true] at q
        have q2 : ∀ x ∈ a.1, 0 ≤ x := fun x hx => (Codec.inInt_iff.mp (List.all_eq_true.mp q.1.2 x hx)).1
        exact ⟨_, a.1, rfl, hs, hask, q2, fun H' p hp => .lst (L2.SqL.of hp) (L2.dw_ints _)⟩

