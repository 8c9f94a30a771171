import PyProof.Rows.All
import Wide.All
import OpenK.AllK
import Wide.FinOn
import PyProof.EqAt
import PyProof.EqKinds
import PyProof.TupleCall
import KE.BitLaws
import Open.SpecLaws
import KE.OsHead
import KE.OsGo
import KE.KMinKey
import PyFlatLaws
import PyKg53
import PySem.Challenge.RW_cuereferee_s01_answers
set_option Elab.async false
section
set_option Elab.async false
set_option linter.all false
set_option maxRecDepth 100000
/-! THE HAND LAYER, for ints, bools, texts, own classes, lists, tuples, dicts, comprehensions, walks over dicts, enumerate, zip, reversed, texts, calls, loops. Paste it whole ahead of your own text; what your proof does not reach may be deleted. -/
namespace L2
open PySem PySem.Spec PyProof.Rows

/-- a key: an int or a str -/
abbrev Key := Sum Int Str
def keyIs : Key → Value → Bool
  | .inl k, v => Value.isInt k v
  | .inr x, v => Value.isStrOf x v
def keyH (w : World) : Key → Int
  | .inl k => hashInt k
  | .inr x => hashStr w x
theorem keyIs_shape : ∀ {k : Key} {v : Value}, keyIs k v = true → (∃ i t, k = Sum.inl i ∧ v = Value.int i t) ∨ (∃ x t, k = Sum.inr x ∧ v = Value.str x t)
  | .inl i, v, h => by
    obtain ⟨t, e⟩ := Value.isInt_shape (k := i) (v := v) h
    exact .inl ⟨i, t, rfl, e⟩
  | .inr x, v, h => by
    obtain ⟨t, e⟩ := Value.isStrOf_shape (x := x) (v := v) h
    exact .inr ⟨x, t, rfl, e⟩
theorem key_ll (a b : Int) : decide ((Sum.inl a : Key) = Sum.inl b) = (a == b) := by
  by_cases e : a = b
  · subst e; simp
  · have h : ¬ (Sum.inl a : Key) = Sum.inl b := fun q => e (Sum.inl.inj q)
    rw [decide_eq_false h]
    exact (beq_eq_false_iff_ne.mpr e).symm
theorem key_rr (a b : Str) : decide ((Sum.inr a : Key) = Sum.inr b) = decide (a = b) := by
  by_cases e : a = b
  · subst e; simp
  · have h : ¬ (Sum.inr a : Key) = Sum.inr b := fun q => e (Sum.inr.inj q)
    rw [decide_eq_false h, decide_eq_false e]
theorem key_lr (a : Int) (b : Str) : decide ((Sum.inl a : Key) = Sum.inr b) = false := decide_eq_false (fun q => nomatch q)
theorem key_rl (a : Str) (b : Int) : decide ((Sum.inr a : Key) = Sum.inl b) = false := decide_eq_false (fun q => nomatch q)

def mixKind (prog : Program) (w : World) : PySem.KeyKind prog w Key where
  is := keyIs
  hash := keyH w
  inj := fun v a b ha hb => by
    rcases keyIs_shape ha with ⟨i, t, rfl, rfl⟩ | ⟨x, t, rfl, rfl⟩
    · rcases keyIs_shape hb with ⟨j, u, rfl, e⟩ | ⟨y, u, rfl, e⟩
      · injection e with e1 _; rw [e1]
      · exact nomatch e
    · rcases keyIs_shape hb with ⟨j, u, rfl, e⟩ | ⟨y, u, rfl, e⟩
      · exact nomatch e
      · injection e with e1 _; rw [e1]
  byValue := fun k v h => by
    rcases keyIs_shape h with ⟨i, t, rfl, rfl⟩ | ⟨x, t, rfl, rfl⟩ <;> rfl
  pyHash := fun hv h => by
    rcases keyIs_shape hv with ⟨i, t, rfl, rfl⟩ | ⟨x, t, rfl, rfl⟩
    · exact wpAny_pyHash_int h
    · exact wpAny_pyHash_str h
  eqBool := fun hu hv h => by
    rcases keyIs_shape hu with ⟨i, t, rfl, rfl⟩ | ⟨x, t, rfl, rfl⟩
    · rcases keyIs_shape hv with ⟨j, u, rfl, rfl⟩ | ⟨y, u, rfl, rfl⟩
      · rw [key_ll] at h; exact wpAny_eqBool_int h
      · rw [key_lr] at h; exact SeqAt.EqAt.int_str i t y u _ _ _ _ h
    · rcases keyIs_shape hv with ⟨j, u, rfl, rfl⟩ | ⟨y, u, rfl, rfl⟩
      · rw [key_rl] at h; exact SeqAt.EqAt.str_int x t j u _ _ _ _ h
      · rw [key_rr] at h; exact wpAny_eqBool_str h
  «strs» := fun k x t v h => by
    rcases keyIs_shape h with ⟨i, u, rfl, e⟩ | ⟨y, u, rfl, e⟩
    · exact nomatch e
    · injection e with e1 _
      subst e1
      cases v <;> rfl

end L2

namespace L2
open PySem PySem.Spec PyProof.Rows

/-- a value, without the heap -/
inductive V where
  | non | bl (b : Bool) | int (i : Int) | str (x : Str) | byt (b : Array UInt8) | flt (b : UInt64) | ref (a : Addr) | ty (n : String)
  deriving DecidableEq

def RelV : V → Value → Prop
  | .non, u => u = Value.none
  | .bl b, u => u = Value.bool b
  | .int i, u => ∃ t, u = Value.int i t
  | .str x, u => ∃ t, u = Value.str x t
  | .byt b, u => ∃ t, u = Value.bytes b t
  | .flt b, u => ∃ t, u = Value.float b t
  | .ref a, u => u = Value.ref a
  | .ty n, u => u = Value.type n

abbrev Vals : List V → List Value → Prop := Paired RelV
theorem Vals.length {xs : List V} {us : List Value} (r : Vals xs us) : xs.length = us.length := Paired.length r
theorem Vals.get : ∀ {xs : List V} {us : List Value} {i : Nat} {x : V}, Vals xs us → xs[i]? = some x → ∃ u, us[i]? = some u ∧ RelV x u
  | _, _, _, _, .nil, e => by simp at e
  | _, _, 0, _, .cons r _, e => by simp at e; subst e; exact ⟨_, rfl, r⟩
  | _, _, i + 1, x, .cons _ t, e => by
    obtain ⟨u, h1, h2⟩ := Vals.get (i := i) (x := x) t (by simpa using e)
    exact ⟨u, by simpa using h1, h2⟩
theorem Vals.set {x : V} {u : Value} (r : RelV x u) : ∀ {xs : List V} {us : List Value} (i : Nat), Vals xs us → Vals (xs.set i x) (us.set i u)
  | _, _, _, .nil => .nil
  | _, _, 0, .cons _ t => .cons r t
  | _, _, i + 1, .cons q t => .cons q (Vals.set r i t)
theorem Vals.append : ∀ {xs ys : List V} {us ws : List Value}, Vals xs us → Vals ys ws → Vals (xs ++ ys) (us ++ ws)
  | _, _, _, _, .nil, s => s
  | _, _, _, _, .cons r t, s => .cons r (Vals.append t s)
theorem Vals.take : ∀ {xs : List V} {us : List Value} (n : Nat), Vals xs us → Vals (xs.take n) (us.take n)
  | _, _, 0, _ => .nil
  | _, _, _ + 1, .nil => .nil
  | _, _, n + 1, .cons r t => .cons r (Vals.take n t)
theorem Vals.drop : ∀ {xs : List V} {us : List Value} (n : Nat), Vals xs us → Vals (xs.drop n) (us.drop n)
  | _, _, 0, r => r
  | _, _, _ + 1, .nil => .nil
  | _, _, n + 1, .cons _ t => Vals.drop n t

def RelO : Option V → Option Value → Prop
  | some v, some u => RelV v u
  | none, none => True
  | _, _ => False
def KV {κ : Type} : List (κ × V) → List (κ × Value) → Prop := Paired fun (p : κ × V) (q : κ × Value) => p.1 = q.1 ∧ RelV p.2 q.2

/-- a key of a dict (00_mix): an int or a text -/
def kV : Key → V
  | .inl i => .int i
  | .inr x => .str x

/-- what stands at a tracked address -/
inductive HO where
  /-- a list -/
  | lst (xs : List V)
  /-- a tuple (never changes) -/
  | tup (xs : List V)
  /-- a dict whose keys are ints and texts; one whose keys are tuples of ints and texts (the empty one is both) -/
  | dK (kvs : List (Key × V)) | dT (kvs : List (List Key × V))
  /-- a set of ints: its members, its size -/
  | set (S : Int → Bool) (n : Nat)
  /-- an instance of the class at C, its dict at dx, its attributes -/
  | ins (C dx : Addr) (fs : List (Str × V))
  /-- the dict of the instance at x -/
  | own (x : Addr)
  /-- the dict of an exception -/
  | xd (fs : List (Str × V))
  /-- a bound method, f of x -/
  | met (f x : Addr)
  /-- a range object lo, lo + 1, .. below hi -/
  | rng (lo hi : Int)
  /-- a thing that is known to the object (the script; a dict while a loop walks it): read, never written while it is so -/
  | frz (o : Obj) (u : HO)
  /-- a code object's table -/
  | tbl (ps : Array Value)
  /-- any other thing, by what is true of its one object (a def of one's own: SetO a S n := HO.ext fun h => ..) -/
  | ext (φ : Heap → Prop)

abbrev Hp := Addr → Option HO
def upd (H : Hp) (a : Addr) (o : HO) : Hp := fun b => if b = a then some o else H b
theorem upd_same {H : Hp} {a : Addr} {o : HO} : upd H a o a = some o := by unfold upd; rw [if_pos rfl]
theorem upd_ne {H : Hp} {a b : Addr} {o : HO} (h : b ≠ a) : upd H a o b = H b := by unfold upd; rw [if_neg h]
theorem upd_upd {H : Hp} {a : Addr} {o u : HO} : upd (upd H a o) a u = upd H a u := by
  funext b; unfold upd; split <;> rfl
/-- two objects of different content stand apart -/
theorem ne_of {H : Hp} {a b : Addr} {o u : HO} (h : H a = some o) (h' : H b = some u) (d : o ≠ u) : a ≠ b := by
  intro e; subst e; rw [h] at h'; exact d (Option.some.inj h')
theorem ne_of_none {H : Hp} {a b : Addr} {o : HO} (h : H a = some o) (h' : H b = none) : a ≠ b := by
  intro e; subst e; rw [h] at h'; cases h'

section
variable (P : Program) (w : World)
def ObjOk (H : Hp) (h : Heap) (a : Addr) : HO → Prop
  | .lst xs => xs.length ≤ sizeLine ∧ ∃ (its : List Value) (n : Nat), Vals xs its ∧ h.get? a = some { cls := .type "list", data := .seq its.toArray n }
  | .tup xs => xs.length ≤ sizeLine ∧ ∃ its : List Value, Vals xs its ∧ IsTup h a its.toArray
  | .dK kvs => kvs.length ≤ sizeLine ∧ (a == sysModules) = false ∧ ∃ vs, KV kvs vs ∧ h.DictOf (mixKind P w) a vs
  | .dT kvs => kvs.length ≤ sizeLine ∧ (a == sysModules) = false ∧ ∃ xs : List (List Key × Addr × Value),
      Paired (fun (p : List Key × V) (q : List Key × Addr × Value) => p.1 = q.1 ∧ H q.2.1 = some (.tup (p.1.map kV)) ∧ RelV p.2 q.2.2) kvs xs ∧
      ∃ o es ep, h.get? a = some o ∧ o.ExactDict ∧ o.data = .dict es ep ∧ es.toList = xs.map (entryOfKey (tupleKind (mixKind P w))) ∧ (xs.map (·.1)).Nodup
  | .set S n => h.SetOf (intKind P w) a S n
  | .ins C dx fs => H dx = some (.own a) ∧ fs.length ≤ 1000 ∧ dx ≠ a ∧ h.get? a = some (PySem.W.instObj C dx) ∧
      ∃ mA, h.Ns1 dx mA ∧ (∀ f, RelO (fs.lookup f) (mA f)) ∧ PySem.Within mA (fs.map (·.1))
  | .own _ => ∃ o, h.get? a = some o
  | .xd fs => ∃ mA, h.Ns1 a mA ∧ ∀ f, RelO (fs.lookup f) (mA f)
  | .rng lo hi => ∃ t u v, h.get? a = some { cls := .type "range", data := .fields #[.int lo t, .int hi u, .int 1 v] }
  | .frz o u => h.get? a = some o ∧ ObjOk H h a u
  | .tbl ps => h.get? a = some { cls := .none, data := .fields ps }
  | .met f x => h.get? a = some (PySem.W.methodObj (.ref f) (.ref x))
  | .ext φ => φ h ∧ (∃ o, h.get? a = some o) ∧ ∀ h1 h2 : Heap, φ h1 → (∀ o, h1.get? a = some o → h2.get? a = some o) → φ h2
/-- the abstract heap is held -/
def HOk (H : Hp) (h : Heap) : Prop := ∀ a o, H a = some o → ObjOk P w H h a o
end

section
variable {P : Program} {w : World} {H H' : Hp} {h h' : Heap} {a : Addr} {o : HO}
theorem ObjOk.lt (x : ObjOk P w H h a o) : a < h.objs.size := by
  cases o with
  | lst xs => obtain ⟨_, _, _, _, e⟩ := x; exact Heap.lt_size e
  | tup xs => obtain ⟨_, _, _, p⟩ := x; exact p.lt
  | dK kvs => obtain ⟨_, _, _, _, o, _, _, e, _⟩ := x; exact Heap.lt_size e
  | dT kvs => obtain ⟨_, _, _, _, o, _, _, e, _⟩ := x; exact Heap.lt_size e
  | set S n => obtain ⟨o, _, _, _, e, _⟩ := x; exact Heap.lt_size e
  | ins C dx fs => obtain ⟨_, _, _, e, _⟩ := x; exact Heap.lt_size e
  | own y => obtain ⟨_, e⟩ := x; exact Heap.lt_size e
  | xd fs => obtain ⟨_, ⟨_, _, _, e, _⟩, _⟩ := x; exact Heap.lt_size e
  | rng lo hi => obtain ⟨_, _, _, e⟩ := x; exact Heap.lt_size e
  | frz ob u => obtain ⟨e, _⟩ := x; exact Heap.lt_size e
  | tbl ps => exact Heap.lt_size (show h.get? a = some _ from x)
  | met f y => exact Heap.lt_size (show h.get? a = some _ from x)
  | ext φ => obtain ⟨_, ⟨_, e⟩, _⟩ := x; exact Heap.lt_size e
theorem Paired.mapP {α β : Type} {F G : α → β → Prop} : ∀ {l₁ : List α} {l₂ : List β}, Paired F l₁ l₂ → (∀ a b, F a b → G a b) → Paired G l₁ l₂
  | _, _, .nil, _ => .nil
  | _, _, .cons r t, f => .cons (f _ _ r) (Paired.mapP t f)
theorem Paired.imp' {α β : Type} {F G : α → β → Prop} (f : ∀ a b, F a b → G a b) {l₁ : List α} {l₂ : List β} (r : Paired F l₁ l₂) : Paired G l₁ l₂ := Paired.mapP r f
/-- what an object's description leans on: its own object, its own dict, the tuples -/
theorem ObjOk.stay (x : ObjOk P w H h a o) (k : ∀ b u, (b = a ∨ H b = some (.own a)) → h.get? b = some u → h'.get? b = some u)
    (ho : ∀ b, H b = some (.own a) → H' b = some (.own a)) (ht : ∀ b xs, H b = some (.tup xs) → H' b = some (.tup xs)) : ObjOk P w H' h' a o := by
  induction o with
  | lst xs => obtain ⟨z, its, n, r, e⟩ := x; exact ⟨z, its, n, r, k _ _ (.inl rfl) e⟩
  | tup xs => obtain ⟨z, its, r, ob, e, c⟩ := x; exact ⟨z, its, r, ob, k _ _ (.inl rfl) e, c⟩
  | dK kvs => obtain ⟨z, y, vs, r, ob, es, ep, e, c⟩ := x; exact ⟨z, y, vs, r, ob, es, ep, k _ _ (.inl rfl) e, c⟩
  | dT kvs =>
    obtain ⟨z, y, xs, r, ob, es, ep, e, c⟩ := x
    exact ⟨z, y, xs, Paired.mapP r fun p q z => ⟨z.1, ht _ _ z.2.1, z.2.2⟩, ob, es, ep, k _ _ (.inl rfl) e, c⟩
  | set S n => obtain ⟨ob, es, ep, t, e, c⟩ := x; exact ⟨ob, es, ep, t, k _ _ (.inl rfl) e, c⟩
  | ins C dx fs =>
    obtain ⟨d, z, ne, e, mA, ⟨od, es, ep, e2, c⟩, r⟩ := x
    exact ⟨ho _ d, z, ne, k _ _ (.inl rfl) e, mA, ⟨od, es, ep, k _ _ (.inr d) e2, c⟩, r⟩
  | own y => obtain ⟨ob, e⟩ := x; exact ⟨ob, k _ _ (.inl rfl) e⟩
  | xd fs => obtain ⟨mA, ⟨od, es, ep, e, c⟩, r⟩ := x; exact ⟨mA, ⟨od, es, ep, k _ _ (.inl rfl) e, c⟩, r⟩
  | rng lo hi => obtain ⟨t, u, v, e⟩ := x; exact ⟨t, u, v, k _ _ (.inl rfl) e⟩
  | frz ob u ih => obtain ⟨e, q⟩ := x; exact ⟨k _ _ (.inl rfl) e, ih q⟩
  | tbl ps =>
    have e : h.get? a = some { cls := .none, data := .fields ps } := x
    show h'.get? a = some { cls := .none, data := .fields ps }
    exact k a _ (.inl rfl) e
  | met f y =>
    have e : h.get? a = some (PySem.W.methodObj (.ref f) (.ref y)) := x
    show h'.get? a = some (PySem.W.methodObj (.ref f) (.ref y))
    exact k a _ (.inl rfl) e
  | ext φ => obtain ⟨p, ⟨o, e⟩, st⟩ := x; exact ⟨st _ _ p fun o q => k _ _ (.inl rfl) q, ⟨o, k _ _ (.inl rfl) e⟩, st⟩
theorem HOk.lt (x : HOk P w H h) (e : H a = some o) : a < h.objs.size := (x a o e).lt
theorem HOk.fresh (x : HOk P w H h) (e : h.objs.size ≤ a) : H a = none := by
  cases q : H a with
  | none => rfl
  | some u => exact absurd (Nat.lt_of_lt_of_le (x.lt q) e) (Nat.lt_irrefl _)
/-- every object of the heap is kept -/
theorem HOk.kept (x : HOk P w H h) (k : ∀ b u, h.get? b = some u → h'.get? b = some u) : HOk P w H h' := fun a o e =>
  (x a o e).stay (fun b u _ q => k b u q) (fun _ q => q) fun _ _ q => q
/-- a new object is laid and tracked -/
theorem HOk.laid (x : HOk P w H h) (k : ∀ b u, h.get? b = some u → h'.get? b = some u) (hp : h.objs.size ≤ a) (new : ObjOk P w (upd H a o) h' a o) : HOk P w (upd H a o) h' := fun b u e => by
  have hn := x.fresh hp
  by_cases hb : b = a
  · subst hb; rw [upd_same] at e; cases e; exact new
  · rw [upd_ne hb] at e
    exact (x b u e).stay (fun c v _ q => k c v q) (fun c q => by rw [upd_ne (ne_of_none q hn)]; exact q) fun c xs q => by rw [upd_ne (ne_of_none q hn)]; exact q
end

/-- what may be read as u: it is u, or a known u -/
def Rd (H : Hp) (a : Addr) (u : HO) : Prop := H a = some u ∨ ∃ o, H a = some (.frz o u)
theorem Rd.ok {P : Program} {w : World} {H : Hp} {h : Heap} {a : Addr} {u : HO} (r : Rd H a u) (x : HOk P w H h) : ObjOk P w H h a u := by
  rcases r with r | ⟨o, r⟩
  · exact x a u r
  · obtain ⟨_, q⟩ := x a _ r
    exact q
/-- what may be written -/
def Mut : Option HO → Prop
  | some (.lst _) => True
  | some (.dK _) => True
  | some (.dT _) => True
  | some (.set _ _) => True
  | some (.ins _ _ _) => True
  | some (.ext _) => True
  | _ => False
section
variable {P : Program} {w : World} {H : Hp} {h h' : Heap} {x e : Addr} {o' : HO}
/-- the object at e is changed: x itself, or the dict of the instance x -/
theorem HOk.write (ok : HOk P w H h) (mu : Mut (H x)) (he : e = x ∨ H e = some (.own x)) (k : ∀ b u, b ≠ e → h.get? b = some u → h'.get? b = some u) (heo : ∃ u, h'.get? e = some u)
    (new : ObjOk P w (upd H x o') h' x o') : HOk P w (upd H x o') h' := fun b u q => by
  have nown : ∀ c y, H c = some (.own y) → c ≠ x := fun c y r z => by subst z; rw [r] at mu; exact mu
  have ntup : ∀ c xs, H c = some (.tup xs) → c ≠ x := fun c xs r z => by subst z; rw [r] at mu; exact mu
  by_cases hb : b = x
  · subst hb; rw [upd_same] at q; cases q; exact new
  · rw [upd_ne hb] at q
    by_cases hbe : b = e
    · have q' : H b = some (.own x) := by
        rcases he with z | z
        · exact absurd (hbe.trans z) hb
        · rw [hbe]; exact z
      rw [q] at q'; cases q'
      obtain ⟨v, hv⟩ := heo
      exact ⟨v, by rw [hbe]; exact hv⟩
    · refine (ok b u q).stay (fun c v hc r => k c v ?_ r) (fun c r => by rw [upd_ne (nown c b r)]; exact r) fun c xs r => by rw [upd_ne (ntup c xs r)]; exact r
      rcases hc with rfl | hc
      · exact hbe
      · rintro rfl
        rcases he with z | z
        · exact nown c b hc z
        · rw [hc] at z; cases z; exact hb rfl
end

/-! ### kept unless tracked; of the frames at fs (the callers') the slots may change (an exception that passes writes there); of the records at ex (iterators) nothing is said -/
structure Un (fs ex : List Addr) (H H' : Hp) (h h' : Heap) : Prop where
  keep : ∀ b o, h.get? b = some o → H b = none → b ∉ fs → b ∉ ex → h'.get? b = some o
  slot : ∀ b o, h.get? b = some o → H b = none → b ∈ fs → b ∉ ex → ∃ sl, h'.get? b = some { o with slots := sl }
  free : ∀ b o, h.get? b = some o → H b = none → b ∉ ex → H' b = none
  there : ∀ b o, h.get? b = some o → b ∉ ex → ∃ o', h'.get? b = some o'
  tups : ∀ b xs, H b = some (.tup xs) → H' b = some (.tup xs)
  frzs : ∀ b o u, H b = some (.frz o u) → H' b = some (.frz o u)
  tbls : ∀ b ps, H b = some (.tbl ps) → ∃ more, H' b = some (.tbl (ps ++ more))
section
variable {fs fs' ex ex' : List Addr} {H H1 H2 : Hp} {h h1 h2 h' : Heap} {a x e : Addr} {o : HO}
theorem Un.any (u : Un fs ex H H1 h h1) {b : Addr} {ob : Obj} (q : h.get? b = some ob) (n : H b = none) (hx : b ∉ ex) : ∃ sl, h1.get? b = some { ob with slots := sl } := by
  by_cases hb : b ∈ fs
  · exact u.slot b ob q n hb hx
  · exact ⟨ob.slots, u.keep b ob q n hb hx⟩
theorem Un.kept (k : ∀ b u, h.get? b = some u → h'.get? b = some u) : Un fs ex H H h h' :=
  ⟨fun b ob q _ _ _ => k b ob q, fun b ob q _ _ _ => ⟨ob.slots, k b ob q⟩, fun _ _ _ n _ => n, fun b ob q _ => ⟨ob, k b ob q⟩, fun _ _ q => q, fun _ _ _ q => q, fun _ ps q => ⟨#[], by rw [q]; simp⟩⟩
theorem Un.refl : Un fs ex H H h h := Un.kept fun _ _ q => q
theorem Un.laid (k : ∀ b u, h.get? b = some u → h'.get? b = some u) (hp : h.objs.size ≤ a) (hn : H a = none) : Un fs ex H (upd H a o) h h' where
  keep := fun b u q _ _ _ => k b u q
  slot := fun b u q _ _ _ => ⟨u.slots, k b u q⟩
  free := fun b u q n _ => by rw [upd_ne (Nat.ne_of_lt (Nat.lt_of_lt_of_le (Heap.lt_size q) hp))]; exact n
  there := fun b u q _ => ⟨u, k b u q⟩
  tups := fun b xs q => by rw [upd_ne (ne_of_none q hn)]; exact q
  frzs := fun b u xs q => by rw [upd_ne (ne_of_none q hn)]; exact q
  tbls := fun b ps q => ⟨#[], by rw [upd_ne (ne_of_none q hn), q]; simp⟩
theorem Un.write (mu : Mut (H x)) (he : e = x ∨ H e = some (.own x)) (k : ∀ b u, b ≠ e → h.get? b = some u → h'.get? b = some u) (heo : ∃ u, h'.get? e = some u) : Un fs ex H (upd H x o) h h' := by
  have hx : ∀ b, H b = none → b ≠ x := fun b n z => by subst z; rw [n] at mu; exact mu
  have hb : ∀ b, H b = none → b ≠ e := fun b n z => by
    subst z
    rcases he with r | r
    · exact hx b n r
    · rw [n] at r; cases r
  have hm : ∀ b u, H b = some u → ¬ Mut (some u) → b ≠ x := fun b u q nm z => by subst z; rw [q] at mu; exact nm mu
  refine ⟨fun b u q n _ _ => k b u (hb b n) q, fun b u q n _ _ => ⟨u.slots, k b u (hb b n) q⟩, fun b u q n _ => by rw [upd_ne (hx b n)]; exact n, fun b u q _ => ?_,
    fun b xs q => by rw [upd_ne (hm b _ q fun z => z)]; exact q, fun b u xs q => by rw [upd_ne (hm b _ q fun z => z)]; exact q, fun b ps q => ⟨#[], by rw [upd_ne (hm b _ q fun z => z), q]; simp⟩⟩
  by_cases hbe : b = e
  · subst hbe; exact heo
  · exact ⟨u, k b u hbe q⟩
end

/-! ### the heap without what is tracked -/
def trk (h : Heap) (H : Hp) : List Addr := (List.range h.objs.size).filter fun a => (H a).isSome
def hidT (h : Heap) (H : Hp) : Heap := PySem.W.hideAll h (trk h H)
theorem hidT_size (h : Heap) (H : Hp) : (hidT h H).objs.size = h.objs.size := PySem.W.hideAll_size _ _
theorem hidT_get {h : Heap} {H : Hp} {b : Addr} {o : Obj} (e : h.get? b = some o) (n : H b = none) : (hidT h H).get? b = some o :=
  PySem.W.hideAll_get _ e fun hm => by
    have q : (H b).isSome = true := (List.mem_filter.mp hm).2
    rw [n] at q; simp at q
theorem of_hidT {h : Heap} {H : Hp} {b : Addr} {o : Obj} (e : (hidT h H).get? b = some o) : h.get? b = some o ∧ H b = none := by
  have e' : h.get? b = some o := PySem.W.of_hideAll (trk h H) e
  refine ⟨e', ?_⟩
  cases q : H b with
  | none => rfl
  | some x =>
    have hm : b ∈ trk h H := List.mem_filter.mpr ⟨List.mem_range.mpr (Heap.lt_size e'), by simp [q]⟩
    have z : (hidT h H).get? b = none := PySem.W.hideAll_none (trk h H) hm
    rw [z] at e; cases e

/-! ### OpenK's ledger, filled with every new object but one -/
end L2

namespace L2
open PySem PySem.Spec PyProof.Rows

/-- the module's facts, over the base: the heap at the law's entry without what is tracked there -/
structure Mod (K : PySem.W.Frag) (mg : Str → Option Value) (base : Heap) : Prop where
  kin : K.In base
  glob : base.Ns mainGlobals mg
  blt : ∃ mb, base.Ns builtinsNs mb ∧ ∀ x : Str, x ≠ "__name__" → mb x = bootBuiltins x
  nolimit : base.NoLimit

/-- the context: a def's body (or a comprehension's block) running. base: fixed through the whole law; s₀, H₀: the entry; outer: the frames whose slots others may change (a def's callers); stack: all frames that run;
   ex: iterators that were made ahead of the entry and are walked here (a comprehension's); fn: the names whose cells were made at the entry (a def: all; a comprehension's block: its own); calm: not within an except suite; pn: pins that every state bears; xe: what is wanted of an exception that leaves the code -/
structure Cx where
  prog : Program
  w : World
  K : PySem.W.Frag
  mg : Str → Option Value
  base : Heap
  A : Around
  N : List Str
  s_0 : Shared
  H_0 : Hp
  env : Env
  outer : List Env
  stack : List Env
  ex : List Addr
  fn : Str → Bool
  calm : Bool
  pn : List (Addr × Obj)
  xe : Value → Shared → Prop
/-- the callers' frames -/
def frs (l : List Env) : List Addr := l.filterMap (·.frame)
abbrev Cx.fs (X : Cx) : List Addr := frs X.outer

def Vis (sc : Scope) (x : Str) : Prop := sc.names.lookup x = some .local ∨ sc.names.lookup x = some .cell ∨ sc.names.lookup x = some .free
def Loc (sc : Scope) (x : Str) : Prop := sc.names.lookup x = some .local ∨ sc.names.lookup x = some .cell
def Look (env : Env) (h : Heap) (m : Str → Option Value) (x : Str) (u : Value) : Prop :=
  (env.kindOf x = some .local ∧ m x = some u) ∨ ((env.kindOf x = some .cell ∨ env.kindOf x = some .free) ∧ ∃ c, env.cells.lookup x = some c ∧ h.IsCell c (some u))

structure Cx.Ok (X : Cx) : Prop where
  mod : Mod X.K X.mg X.base
  kind : X.env.scope.kind = .function
  glob : X.env.globals = mainGlobals
  blt : X.env.builtins = builtinsNs
  above : X.s_0.heap.objs.size ≤ X.env.locals
  inj : ∀ x y c, X.env.cells.lookup x = some c → X.env.cells.lookup y = some c → x = y
  has : ∀ x, (X.env.kindOf x = some .cell ∨ X.env.kindOf x = some .free) → ∃ c, X.env.cells.lookup x = some c
  cab : ∀ x c, X.fn x = true → X.env.cells.lookup x = some c → X.s_0.heap.objs.size ≤ c
  hd : X.calm = true → X.A.handled = none
  frames : X.A.frames = some X.stack
  stk : X.stack = X.outer ∨ (X.stack = X.env :: X.outer ∧ X.env.frame = some X.env.locals)
  exf : ∀ b ∈ X.ex, b ≠ X.env.locals ∧ ∀ x c, X.env.cells.lookup x = some c → c ≠ b
  bs : ∀ b o, X.base.get? b = some o → X.s_0.heap.get? b = some o ∧ X.H_0 b = none
  bsz : X.base.objs.size ≤ X.s_0.heap.objs.size
  noex : ∀ b o, X.base.get? b = some o → b ∉ X.ex
  exfs : ∀ b ∈ X.ex, b ∉ X.fs
  funs : X.s_0.heap.FunFrames X.base X.outer
  frf : ∀ b ∈ X.fs, X.H_0 b = none

structure Inv (X : Cx) (pins : List (Addr × Obj)) (σ : List (Option V)) (H : Hp) (s : Shared) : Prop where
  ok : X.Ok
  os : s.os = X.s_0.os
  bare : AllBare s.gens
  base : Un X.fs X.ex X.H_0 H X.s_0.heap s.heap
  loc : ∃ m, s.heap.Ns X.env.locals m ∧ ∀ (i : Nat) (x : Str) (v : V), X.N[i]? = some x → σ[i]? = some (some v) → Vis X.env.scope x → ∃ u, RelV v u ∧ Look X.env s.heap m x u
  cell : ∀ x c, X.env.cells.lookup x = some c → ∃ v, s.heap.IsCell c v
  free : H X.env.locals = none
  freeC : ∀ x c, X.env.cells.lookup x = some c → H c = none
  pin : ∀ p ∈ X.pn ++ pins, s.heap.get? p.1 = some p.2 ∧ H p.1 = none ∧ p.1 ≠ X.env.locals ∧ p.1 ∉ X.fs ∧ ∀ v, p.2.data ≠ .cell v
  hok : HOk X.prog X.w H s.heap
  len : σ.length = X.N.length

section
variable {X : Cx} {pins : List (Addr × Obj)} {σ : List (Option V)} {H H' : Hp} {s : Shared} {h' : Heap}

theorem Cx.Ok.nofr (ok : X.Ok) {b : Addr} {o : Obj} (e : X.base.get? b = some o) : b ∉ X.fs := fun hb => by
  have := (ok.funs.mem hb).1
  rw [e] at this; cases this
theorem Inv.bs (I : Inv X pins σ H s) : ∀ b o, X.base.get? b = some o → s.heap.get? b = some o ∧ H b = none := fun b o e =>
  ⟨I.base.keep b o (I.ok.bs b o e).1 (I.ok.bs b o e).2 (I.ok.nofr e) (I.ok.noex b o e), I.base.free b o (I.ok.bs b o e).1 (I.ok.bs b o e).2 (I.ok.noex b o e)⟩
theorem Inv.bk (I : Inv X pins σ H s) : ∀ b o, X.base.get? b = some o → s.heap.get? b = some o := fun b o e => (I.bs b o e).1
theorem Inv.mod (I : Inv X pins σ H s) : Mod X.K X.mg X.base := I.ok.mod
theorem Inv.kIn (I : Inv X pins σ H s) : X.K.In s.heap := I.ok.mod.kin.keeps I.bk
theorem Inv.lt (I : Inv X pins σ H s) : X.env.locals < s.heap.objs.size := let ⟨_, hn, _⟩ := I.loc; hn.lt
theorem Inv.sz (I : Inv X pins σ H s) : X.s_0.heap.objs.size ≤ s.heap.objs.size := Nat.le_trans I.ok.above (Nat.le_of_lt I.lt)
theorem Inv.nofs (I : Inv X pins σ H s) {a : Addr} (h : s.heap.objs.size ≤ a) : a ∉ X.fs := fun hb => by
  obtain ⟨_, o, ho, _⟩ := I.ok.funs.mem hb
  exact absurd (Nat.lt_of_lt_of_le (Heap.lt_size ho) (Nat.le_trans I.sz h)) (Nat.lt_irrefl _)
theorem Inv.cne (I : Inv X pins σ H s) : ∀ x c, X.env.cells.lookup x = some c → c ≠ X.env.locals := fun x c e z => by
  obtain ⟨v, o, ho, hd⟩ := I.cell x c e
  obtain ⟨m, ⟨o', es, ep, ho', hd', _⟩, _⟩ := I.loc
  rw [z, ho'] at ho; cases ho; rw [hd'] at hd; cases hd
theorem Inv.funs (I : Inv X pins σ H s) : s.heap.FunFrames X.base X.outer := by
  have all : ∀ (l : List Env), (∀ b ∈ frs l, b ∈ X.fs) → X.s_0.heap.FunFrames X.base l → s.heap.FunFrames X.base l := by
    intro l
    induction l with
    | nil => intro _ _; trivial
    | cons env r ih =>
      intro hs hl
      obtain ⟨hk, ⟨L, o, hf, hn, ho, hd⟩, hr⟩ := hl
      have hL : L ∈ X.fs := hs L (by unfold frs; rw [List.filterMap_cons, hf]; exact List.mem_cons_self)
      obtain ⟨sl, e⟩ := I.base.slot L o ho (I.ok.frf L hL) hL fun z => I.ok.exfs L z hL
      exact ⟨hk, ⟨L, _, hf, hn, e, hd⟩, ih (fun b hb => hs b (by unfold frs; rw [List.filterMap_cons, hf]; exact List.mem_cons_of_mem _ hb)) hr⟩
  exact all X.outer (fun _ hb => hb) I.ok.funs

/-- the frames that run, for a call -/
theorem Inv.stack (I : Inv X pins σ H s) : s.heap.FunFrames X.base X.stack := by
  rcases I.ok.stk with e | ⟨e, hf⟩
  · rw [e]; exact I.funs
  · rw [e]
    obtain ⟨m, hn, _⟩ := I.loc
    refine .cons (by rw [I.ok.kind]; decide) hf hn ?_ I.funs
    exact Heap.get?_none_of_le (Nat.le_trans I.ok.bsz I.ok.above)
theorem Inv.stkSub (I : Inv X pins σ H s) : ∀ b ∈ frs X.stack, b ∈ X.env.locals :: X.fs := fun b hb => by
  rcases I.ok.stk with e | ⟨e, hf⟩
  · rw [e] at hb; exact List.mem_cons_of_mem _ hb
  · rw [e] at hb
    unfold frs at hb
    rw [List.filterMap_cons, hf] at hb
    exact hb
theorem Inv.stkFree (I : Inv X pins σ H s) : ∀ b ∈ frs X.stack, H b = none := fun b hb => by
  rcases List.mem_cons.mp (I.stkSub b hb) with e | hb
  · rw [e]; exact I.free
  · obtain ⟨_, o, ho, _⟩ := I.ok.funs.mem hb
    exact I.base.free b o ho (I.ok.frf b hb) fun z => I.ok.exfs b z hb

/-- THE STEP: the untracked objects but the frame and the records at ch are kept (the callers' frames up to slots), the frame's map is kept, the new abstract heap is held -/
theorem Inv.step {g' : Array GenState} {t' : Nat} {d' : Drawn} {ch : List Addr} (I : Inv X pins σ H s)
    (hch : ∀ b ∈ ch, (b ∈ X.ex ∨ X.s_0.heap.objs.size ≤ b) ∧ b ≠ X.env.locals ∧ (∀ x c, X.env.cells.lookup x = some c → c ≠ b) ∧ ∀ p ∈ X.pn ++ pins, p.1 ≠ b)
    (keep : ∀ b o, b ≠ X.env.locals → b ∉ X.fs → b ∉ ch → s.heap.get? b = some o → H b = none → h'.get? b = some o)
    (slot : ∀ b o, b ≠ X.env.locals → b ∈ X.fs → b ∉ ch → s.heap.get? b = some o → H b = none → ∃ sl, h'.get? b = some { o with slots := sl }) (free : ∀ b o, b ∉ ch → s.heap.get? b = some o → H b = none → H' b = none)
    (there : ∀ b o, b ∉ ch → s.heap.get? b = some o → ∃ o', h'.get? b = some o')
    (tups : ∀ b xs, H b = some (.tup xs) → H' b = some (.tup xs)) (frzs : ∀ b o u, H b = some (.frz o u) → H' b = some (.frz o u)) (tbls : ∀ b ps, H b = some (.tbl ps) → ∃ more, H' b = some (.tbl (ps ++ more)))
    (ns : ∀ m, s.heap.Ns X.env.locals m → h'.Ns X.env.locals m) (hok : HOk X.prog X.w H' h') (hg : AllBare g') :
    Inv X pins σ H' { s with heap := h', gens := g', drawn := d', toks := t' } := by
  have neL : ∀ b o, X.s_0.heap.get? b = some o → b ≠ X.env.locals := fun b o e => Nat.ne_of_lt (Nat.lt_of_lt_of_le (Heap.lt_size e) I.ok.above)
  have neC : ∀ b o, X.s_0.heap.get? b = some o → b ∉ X.ex → b ∉ ch := fun b o e hx hb => by
    rcases (hch b hb).1 with z | z
    · exact hx z
    · exact absurd (Nat.lt_of_lt_of_le (Heap.lt_size e) z) (Nat.lt_irrefl _)
  have cellK : ∀ x c, X.env.cells.lookup x = some c → ∀ v, s.heap.IsCell c v → h'.IsCell c v := fun x c e v ⟨o, ho, hd⟩ => by
    have nch : c ∉ ch := fun z => (hch c z).2.2.1 x c e rfl
    by_cases hc : c ∈ X.fs
    · obtain ⟨sl, q⟩ := slot c o (I.cne x c e) hc nch ho (I.freeC x c e)
      exact ⟨_, q, hd⟩
    · exact ⟨o, keep c o (I.cne x c e) hc nch ho (I.freeC x c e), hd⟩
  refine ⟨I.ok, I.os, hg, ⟨fun b o e n hb hx => ?_, fun b o e n hb hx => ?_, fun b o e n hx => ?_, fun b o e hx => ?_, fun b xs e => tups b xs (I.base.tups b xs e), fun b o xs e => frzs b o xs (I.base.frzs b o xs e), fun b ps e => ?_⟩, ?_, fun x c e => ?_, ?_, fun x c e => ?_, fun p hp => ?_, hok, I.len⟩
  · exact keep b o (neL b o e) hb (neC b o e hx) (I.base.keep b o e n hb hx) (I.base.free b o e n hx)
  · obtain ⟨sl, e1⟩ := I.base.slot b o e n hb hx
    obtain ⟨sl', e2⟩ := slot b _ (neL b o e) hb (neC b o e hx) e1 (I.base.free b o e n hx)
    exact ⟨sl', e2⟩
  · obtain ⟨o', e1⟩ := I.base.there b o e hx
    exact free b o' (neC b o e hx) e1 (I.base.free b o e n hx)
  · obtain ⟨o', e1⟩ := I.base.there b o e hx
    exact there b o' (neC b o e hx) e1
  · obtain ⟨m1, e1⟩ := I.base.tbls b ps e
    obtain ⟨m2, e2⟩ := tbls b _ e1
    exact ⟨m1 ++ m2, by rw [e2, Array.append_assoc]⟩
  · obtain ⟨m, hn, hl⟩ := I.loc
    refine ⟨m, ns m hn, fun i x v e1 e2 e3 => ?_⟩
    obtain ⟨u, r, l⟩ := hl i x v e1 e2 e3
    refine ⟨u, r, ?_⟩
    rcases l with l | ⟨k, c, e, z⟩
    · exact .inl l
    · exact .inr ⟨k, c, e, cellK x c e _ z⟩
  · obtain ⟨v, z⟩ := I.cell x c e
    exact ⟨v, cellK x c e v z⟩
  · obtain ⟨m, ⟨o, _, _, ho, _⟩, _⟩ := I.loc
    exact free _ o (fun z => (hch _ z).2.1 rfl) ho I.free
  · obtain ⟨v, o, ho, hd⟩ := I.cell x c e
    exact free c o (fun z => (hch c z).2.2.1 x c e rfl) ho (I.freeC x c e)
  · obtain ⟨e, n, ne, nf, d⟩ := I.pin p hp
    have nch : p.1 ∉ ch := fun z => (hch p.1 z).2.2.2 p hp rfl
    exact ⟨keep p.1 p.2 ne nf nch e n, free p.1 p.2 nch e n, ne, nf, d⟩
/-- .. where the frame's own object is kept too -/
theorem Inv.un {t' : Nat} (I : Inv X pins σ H s) (u : Un X.fs [] H H' s.heap h') (hok : HOk X.prog X.w H' h') : Inv X pins σ H' { s with heap := h', toks := t' } := by
  obtain ⟨m, ⟨o, es, ep, ho, r⟩, _⟩ := id I.loc
  obtain ⟨sl, hL⟩ := u.any ho I.free (by simp)
  exact I.step (g' := s.gens) (d' := s.drawn) (ch := []) (fun _ z => nomatch z) (fun b o _ hb _ e n => u.keep b o e n hb (by simp)) (fun b o _ hb _ e n => u.slot b o e n hb (by simp)) (fun b o _ e n => u.free b o e n (by simp)) (fun b o _ e => u.there b o e (by simp)) u.tups u.frzs u.tbls (fun m' hm => by
    obtain ⟨o', es', ep', ho', r'⟩ := hm
    rw [ho] at ho'; cases ho'
    exact ⟨_, es', ep', hL, r'⟩) hok I.bare
/-- behind a call (or a comprehension's block): the slots of this frame may have changed too, the records at ch may have turned -/
theorem Inv.call {g' : Array GenState} {t' : Nat} {d' : Drawn} {ch : List Addr} (I : Inv X pins σ H s) (u : Un (frs X.stack) ch H H' s.heap h') (hok : HOk X.prog X.w H' h') (hg : AllBare g')
    (hch : ∀ b ∈ ch, (b ∈ X.ex ∨ X.s_0.heap.objs.size ≤ b) ∧ b ≠ X.env.locals ∧ (∀ x c, X.env.cells.lookup x = some c → c ≠ b) ∧ ∀ p ∈ X.pn ++ pins, p.1 ≠ b) :
    Inv X pins σ H' { s with heap := h', gens := g', drawn := d', toks := t' } := by
  obtain ⟨m, ⟨o, es, ep, ho, r⟩, _⟩ := id I.loc
  obtain ⟨sl, hL⟩ := u.any ho I.free fun z => (hch _ z).2.1 rfl
  exact I.step (ch := ch) hch (fun b o hL hb hc e n => u.keep b o e n (fun z => (List.mem_cons.mp (I.stkSub b z)).elim hL hb) hc) (fun b o _ _ hc e n => u.any e n hc) (fun b o hc e n => u.free b o e n hc) (fun b o hc e => u.there b o e hc) u.tups u.frzs u.tbls (fun m' hm => by
    obtain ⟨o', es', ep', ho', r'⟩ := hm
    rw [ho] at ho'; cases ho'
    exact ⟨_, es', ep', hL, r'⟩) hok hg
/-- an untracked record of ours (an iterator) has turned -/
theorem Inv.turned {t' : Nat} {it : Addr} (I : Inv X pins σ H s) (k : ∀ b o, b ≠ it → s.heap.get? b = some o → h'.get? b = some o) (hn : H it = none) (hL : it ≠ X.env.locals)
    (h1 : it ∈ X.ex ∨ X.s_0.heap.objs.size ≤ it) (h2 : ∀ x c, X.env.cells.lookup x = some c → c ≠ it) (h3 : ∀ p ∈ X.pn ++ pins, p.1 ≠ it) : Inv X pins σ H { s with heap := h', toks := t' } := by
  have nit : ∀ b u, H b = some u → b ≠ it := fun b u e z => by rw [z, hn] at e; cases e
  refine I.step (g' := s.gens) (d' := s.drawn) (ch := [it]) (fun b hb => ?_) (fun b o _ _ hc e _ => k b o (fun z => hc (by simp [z])) e) (fun b o _ _ hc e _ => ⟨o.slots, k b o (fun z => hc (by simp [z])) e⟩) (fun _ _ _ _ n => n)
    (fun b o hc e => ⟨o, k b o (fun z => hc (by simp [z])) e⟩) (fun _ _ e => e) (fun _ _ _ e => e) (fun b ps e => ⟨#[], by rw [e]; simp⟩) (fun m hm => ?_) (fun b u e => ?_) I.bare
  · have e : b = it := by simpa using hb
    subst e
    exact ⟨h1, hL, h2, h3⟩
  · obtain ⟨o, es, ep, ho, r⟩ := hm
    exact ⟨o, es, ep, k _ o (Ne.symm hL) ho, r⟩
  · refine (I.hok b u e).stay (fun c v hc q => k c v ?_ q) (fun _ q => q) fun _ _ q => q
    rcases hc with z | z
    · rw [z]; exact nit b u e
    · exact nit c _ z
theorem Inv.tok (I : Inv X pins σ H s) (t : Nat) : Inv X pins σ H { s with toks := t } := I.un (h' := s.heap) (t' := t) Un.refl I.hok
/-- all objects kept -/
theorem Inv.kept {t' : Nat} (I : Inv X pins σ H s) (k : ∀ b u, s.heap.get? b = some u → h'.get? b = some u) : Inv X pins σ H { s with heap := h', toks := t' } := I.un (Un.kept k) (I.hok.kept k)
/-- a new object laid and tracked -/
theorem Inv.laid {a : Addr} {o : HO} {t' : Nat} (I : Inv X pins σ H s) (k : ∀ b u, s.heap.get? b = some u → h'.get? b = some u) (hp : s.heap.objs.size ≤ a) (new : ObjOk X.prog X.w (upd H a o) h' a o) :
    Inv X pins σ (upd H a o) { s with heap := h', toks := t' } := I.un (Un.laid k hp (I.hok.fresh hp)) (I.hok.laid k hp new)
/-- an object written -/
theorem Inv.write {x e : Addr} {o : HO} {t' : Nat} (I : Inv X pins σ H s) (mu : Mut (H x)) (he : e = x ∨ H e = some (.own x)) (k : ∀ b u, b ≠ e → s.heap.get? b = some u → h'.get? b = some u) (heo : ∃ u, h'.get? e = some u)
    (new : ObjOk X.prog X.w (upd H x o) h' x o) : Inv X pins σ (upd H x o) { s with heap := h', toks := t' } := I.un (Un.write mu he k heo) (I.hok.write mu he k heo new)
/-- forgetting slots, pins -/
theorem Inv.weak {σ' : List (Option V)} (I : Inv X pins σ H s) (hl : σ'.length = σ.length) (w : ∀ (i : Nat) v, σ'[i]? = some (some v) → σ[i]? = some (some v)) : Inv X pins σ' H s :=
  ⟨I.ok, I.os, I.bare, I.base, let ⟨m, hn, hl'⟩ := I.loc; ⟨m, hn, fun i x v e1 e2 e3 => hl' i x v e1 (w i v e2) e3⟩, I.cell, I.free, I.freeC, I.pin, I.hok, hl.trans I.len⟩
theorem Inv.pins_of {pins' : List (Addr × Obj)} (I : Inv X pins σ H s) (h : ∀ p ∈ pins', s.heap.get? p.1 = some p.2 ∧ H p.1 = none ∧ p.1 ≠ X.env.locals ∧ p.1 ∉ X.fs ∧ ∀ v, p.2.data ≠ .cell v) : Inv X pins' σ H s :=
  ⟨I.ok, I.os, I.bare, I.base, I.loc, I.cell, I.free, I.freeC, fun p hp => (List.mem_append.mp hp).elim (fun z => I.pin p (List.mem_append_left _ z)) (h p), I.hok, I.len⟩

theorem nodup_ix {N : List Str} (hN : N.Nodup) {i j : Nat} {x : Str} (a : N[i]? = some x) (b : N[j]? = some x) : i = j := by
  obtain ⟨h1, e1⟩ := List.getElem?_eq_some_iff.mp a
  obtain ⟨h2, e2⟩ := List.getElem?_eq_some_iff.mp b
  exact (List.getElem_inj hN).mp (e1.trans e2.symm)

/-- a name is stored; what changed -/
theorem store_ok2 {M : Model} {A : Around} {E : Value → Shared → Prop} {i : Nat} {x : Str} {v : V} {u : Value} {Q : Unit → Shared → Prop} (I : Inv X pins σ H s) (hN : X.N.Nodup) (hi : X.N[i]? = some x) (hx : Loc X.env.scope x) (r : RelV v u)
    (h : ∀ s', Inv X pins (σ.set i (some v)) H s' → (∃ a, Heap.SameBut a s.heap s'.heap ∧ (a = X.env.locals ∨ X.env.cells.lookup x = some a)) → Q () s') (hf : X.fn x = true ∨ X.env.scope.names.lookup x = some .local := by first | exact .inl rfl | exact .inr rfl | assumption) : wpAny M A (storeName X.env x u) Q E s := by
  obtain ⟨m, hn, hl⟩ := id I.loc
  have hcls : (X.env.scope.kind == .class || (X.env.scope.kind == .module && X.env.locals != X.env.globals)) = false := by rw [I.ok.kind]; rfl
  have hiσ : i < σ.length := by rw [I.len]; exact (List.getElem?_eq_some_iff.mp hi).1
  have cne := I.cne
  have tracked : ∀ {a : Addr} {h' : Heap}, (∃ o, s.heap.get? a = some o ∧ H a = none) → Heap.SameBut a s.heap h' → HOk X.prog X.w H h' := fun {a h'} ha hs b ob e => by
    obtain ⟨_, _, hfree⟩ := ha
    refine (I.hok b ob e).stay (fun c w' hc q => (hs.2 c ?_).trans q) (fun _ q => q) fun _ _ q => q
    rintro rfl
    rcases hc with rfl | hc
    · rw [hfree] at e; cases e
    · rw [hfree] at hc; cases hc
  rcases hx with hk | hk
  · refine wpAny_storeName_local hk hn (fun h' hn' hs => ?_) hcls
    obtain ⟨oL, _, _, hoL, _⟩ := id hn
    refine h _ ⟨I.ok, I.os, I.bare, ⟨fun b o e n hb hx => ?_, fun b o e n hb hx => ?_, I.base.free, fun b o e hx => ?_, I.base.tups, I.base.frzs, I.base.tbls⟩, ⟨_, hn', fun j y v' e1 e2 e3 => ?_⟩, fun y c e => ?_, I.free, I.freeC, fun p hp => ?_, tracked ⟨oL, hoL, I.free⟩ hs, by simpa using I.len⟩ ⟨_, hs, .inl rfl⟩
    · exact (hs.2 b (Nat.ne_of_lt (Nat.lt_of_lt_of_le (Heap.lt_size e) I.ok.above))).trans (I.base.keep b o e n hb hx)
    · obtain ⟨sl, e1⟩ := I.base.slot b o e n hb hx
      exact ⟨sl, (hs.2 b (Nat.ne_of_lt (Nat.lt_of_lt_of_le (Heap.lt_size e) I.ok.above))).trans e1⟩
    · obtain ⟨o', e1⟩ := I.base.there b o e hx
      exact ⟨o', (hs.2 b (Nat.ne_of_lt (Nat.lt_of_lt_of_le (Heap.lt_size e) I.ok.above))).trans e1⟩
    · by_cases hj : j = i
      · subst hj
        rw [hi] at e1; cases e1
        rw [List.getElem?_set_self hiσ] at e2
        cases e2
        exact ⟨u, r, .inl ⟨hk, by simp⟩⟩
      · rw [List.getElem?_set_ne (Ne.symm hj)] at e2
        obtain ⟨u', r', q⟩ := hl j y v' e1 e2 e3
        refine ⟨u', r', ?_⟩
        rcases q with ⟨k, e⟩ | ⟨k, c, e, z⟩
        · refine .inl ⟨k, ?_⟩
          have : y ≠ x := fun e => hj (nodup_ix hN e1 (e ▸ hi))
          simp [this, e]
        · exact .inr ⟨k, c, e, z.sameBut hs (cne y c e)⟩
    · obtain ⟨w', z⟩ := I.cell y c e
      exact ⟨w', z.sameBut hs (cne y c e)⟩
    · obtain ⟨e, n, ne, nf, d⟩ := I.pin p hp
      exact ⟨(hs.2 p.1 ne).trans e, n, ne, nf, d⟩
  · have hfn : X.fn x = true := by
      rcases hf with z | z
      · exact z
      · rw [z] at hk; cases hk
    obtain ⟨c, hc⟩ := I.ok.has x (.inl hk)
    obtain ⟨w', z⟩ := I.cell x c hc
    refine wpAny_storeName_cell I.ok.kind hk hc z (fun h' hc' hs => ?_)
    obtain ⟨oc, hoc, hocd⟩ := id z
    refine h { s with heap := h' } ⟨I.ok, I.os, I.bare, ⟨fun b o e n hb hx => ?_, fun b o e n hb hx => ?_, I.base.free, fun b o e hx => ?_, I.base.tups, I.base.frzs, I.base.tbls⟩, ⟨m, hn.sameBut hs (Ne.symm (cne x c hc)), fun j y v' e1 e2 e3 => ?_⟩, fun y c' e => ?_, I.free, I.freeC, fun p hp => ?_, tracked ⟨oc, hoc, I.freeC x c hc⟩ hs, by simpa using I.len⟩ ⟨c, hs, .inr hc⟩
    · exact (hs.2 b (Nat.ne_of_lt (Nat.lt_of_lt_of_le (Heap.lt_size e) (I.ok.cab x c hfn hc)))).trans (I.base.keep b o e n hb hx)
    · obtain ⟨sl, e1⟩ := I.base.slot b o e n hb hx
      exact ⟨sl, (hs.2 b (Nat.ne_of_lt (Nat.lt_of_lt_of_le (Heap.lt_size e) (I.ok.cab x c hfn hc)))).trans e1⟩
    · obtain ⟨o', e1⟩ := I.base.there b o e hx
      exact ⟨o', (hs.2 b (Nat.ne_of_lt (Nat.lt_of_lt_of_le (Heap.lt_size e) (I.ok.cab x c hfn hc)))).trans e1⟩
    · by_cases hj : j = i
      · subst hj
        rw [hi] at e1; cases e1
        rw [List.getElem?_set_self hiσ] at e2
        cases e2
        exact ⟨u, r, .inr ⟨.inl hk, c, hc, hc'⟩⟩
      · rw [List.getElem?_set_ne (Ne.symm hj)] at e2
        obtain ⟨u', r', q⟩ := hl j y v' e1 e2 e3
        refine ⟨u', r', ?_⟩
        rcases q with q | ⟨k, c', e, z'⟩
        · exact .inl q
        · refine .inr ⟨k, c', e, z'.sameBut hs ?_⟩
          rintro rfl
          exact hj (nodup_ix hN e1 (I.ok.inj _ _ _ e hc ▸ hi))
    · by_cases hcc : c' = c
      · subst hcc; exact ⟨_, hc'⟩
      · obtain ⟨w2, z2⟩ := I.cell y c' e
        exact ⟨w2, z2.sameBut hs hcc⟩
    · obtain ⟨e, n, ne, nf, d⟩ := I.pin p hp
      refine ⟨(hs.2 p.1 ?_).trans e, n, ne, nf, d⟩
      intro q
      rw [q, hoc] at e
      have q' : oc = p.2 := Option.some.inj e
      exact d w' (by rw [← q']; exact hocd)
theorem store_ok {M : Model} {A : Around} {E : Value → Shared → Prop} {i : Nat} {x : Str} {v : V} {u : Value} {Q : Unit → Shared → Prop} (I : Inv X pins σ H s) (hN : X.N.Nodup) (hi : X.N[i]? = some x) (hx : Loc X.env.scope x) (r : RelV v u)
    (h : ∀ s', Inv X pins (σ.set i (some v)) H s' → Q () s') (hf : X.fn x = true ∨ X.env.scope.names.lookup x = some .local := by first | exact .inl rfl | exact .inr rfl | assumption) : wpAny M A (storeName X.env x u) Q E s :=
  store_ok2 I hN hi hx r (fun s' I' _ => h s' I') hf
/-- behind a call or a block, the state as it is -/
theorem Inv.call' {s' : Shared} {ch : List Addr} (I : Inv X pins σ H s) (ho : s'.os = s.os) (u : Un (frs X.stack) ch H H' s.heap s'.heap) (hok : HOk X.prog X.w H' s'.heap) (hg : AllBare s'.gens)
    (hch : ∀ b ∈ ch, (b ∈ X.ex ∨ X.s_0.heap.objs.size ≤ b) ∧ b ≠ X.env.locals ∧ (∀ x c, X.env.cells.lookup x = some c → c ≠ b) ∧ ∀ p ∈ X.pn ++ pins, p.1 ≠ b) : Inv X pins σ H' s' := by
  obtain ⟨h', g', d', t', o'⟩ := s'
  have e : o' = s.os := ho
  subst e
  exact I.call (g' := g') (t' := t') (d' := d') u hok hg hch
end

/-! ### the judgements -/
/-- an exception: its class, its own dict's address (where it has one), the abstract heap behind it -/
abbrev XK := Value → Option Addr → Hp → Prop
abbrev St := List (Option V)
abbrev VK := V → Hp → Prop
/-- an expression's reading; a test's; an argument list's -/
abbrev TE := St → Hp → VK → Prop
abbrev TT := St → Hp → (Bool → Hp → Prop) → Prop
abbrev TA := St → Hp → (List V → Hp → Prop) → Prop
/-- what is wanted behind a statement -/
structure Ends where
  nx : St → Hp → Prop
  rt : VK
  bk : St → Hp → Prop := fun _ _ => False
  ct : St → Hp → Prop := fun _ _ => False
abbrev TS := Ends → St → Hp → Prop

def EP (X : Cx) (pins : List (Addr × Obj)) (σ : St) (Q : VK) (u : Value) (s' : Shared) : Prop := ∃ v H', Inv X pins σ H' s' ∧ RelV v u ∧ Q v H'
def TP (X : Cx) (pins : List (Addr × Obj)) (σ : St) (Q : Bool → Hp → Prop) (b : Bool) (s' : Shared) : Prop := ∃ H', Inv X pins σ H' s' ∧ Q b H'
def AP (X : Cx) (pins : List (Addr × Obj)) (σ : St) (Q : List V → Hp → Prop) (us : List Value) (s' : Shared) : Prop := ∃ vs H', Inv X pins σ H' s' ∧ Vals vs us ∧ Q vs H'
def SP (X : Cx) (pins : List (Addr × Obj)) (D : Ends) (f : Flow) (s' : Shared) : Prop :=
  match f with
  | .next => ∃ σ' H', Inv X pins σ' H' s' ∧ D.nx σ' H'
  | .brk => ∃ σ' H', Inv X pins σ' H' s' ∧ D.bk σ' H'
  | .cont => ∃ σ' H', Inv X pins σ' H' s' ∧ D.ct σ' H'
  | .ret u => ∃ v σ' H', Inv X pins σ' H' s' ∧ RelV v u ∧ D.rt v H'

def PE (X : Cx) (e : Expr) (t : TE) : Prop :=
  ∀ (pins : List (Addr × Obj)) (s : Shared) (σ : St) (H : Hp) (Q : VK), Inv X pins σ H s → t σ H Q → wpAny (model X.prog X.w) X.A (eval e X.env) (EP X pins σ Q) X.xe s
def PT (X : Cx) (e : Expr) (t : TT) : Prop :=
  ∀ (pins : List (Addr × Obj)) (s : Shared) (σ : St) (H : Hp) (Q : Bool → Hp → Prop), Inv X pins σ H s → t σ H Q → wpAny (model X.prog X.w) X.A (isTrue e X.env (eval e X.env)) (TP X pins σ Q) X.xe s
/-- a test whatever its 'whole' is (and, or) -/
def PW (X : Cx) (e : Expr) (t : TT) : Prop :=
  ∀ (whole : Sem Value) (pins : List (Addr × Obj)) (s : Shared) (σ : St) (H : Hp) (Q : Bool → Hp → Prop), Inv X pins σ H s → t σ H Q → wpAny (model X.prog X.w) X.A (isTrue e X.env whole) (TP X pins σ Q) X.xe s
theorem PW.pt {X : Cx} {e : Expr} {t : TT} (h : PW X e t) : PT X e t := h _
/-- an argument list (no star), from the left -/
def PA (X : Cx) (es : List Expr) (t : TA) : Prop :=
  ∀ (pos : Pos) (pins : List (Addr × Obj)) (s : Shared) (σ : St) (H : Hp) (Q : List V → Hp → Prop), Inv X pins σ H s → t σ H Q → wpAny (model X.prog X.w) X.A (spliced (backTo pos (starEach es X.env))) (AP X pins σ Q) X.xe s
def PS (X : Cx) (st : Stmt) (t : TS) : Prop :=
  ∀ (pins : List (Addr × Obj)) (s : Shared) (σ : St) (H : Hp) (D : Ends), Inv X pins σ H s → t D σ H → wpAny (model X.prog X.w) X.A (exec st X.env) (SP X pins D) X.xe s
def PSs (X : Cx) (st : List Stmt) (t : TS) : Prop :=
  ∀ (pins : List (Addr × Obj)) (s : Shared) (σ : St) (H : Hp) (D : Ends), Inv X pins σ H s → t D σ H → wpAny (model X.prog X.w) X.A (execs st X.env) (SP X pins D) X.xe s
/-- weaken the end -/
theorem thn {α : Type} {t : Sem α} {Q Q' : α → Shared → Prop} {M : Model} {A : Around} {E : Value → Shared → Prop} {s : Shared} (h : wpAny M A t Q E s) (hQ : ∀ a s, Q a s → Q' a s) : wpAny M A t Q' E s := wpAny_mono h hQ fun _ _ x => x
end L2

namespace L2
open PySem PySem.Spec PyProof.Rows
section
variable {X : Cx}


/-! ### names and constants -/
def tVar (i : Nat) : TE := fun σ H Q => ∃ v, σ[i]? = some (some v) ∧ Q v H
def tC (v : V) : TE := fun _ H Q => Q v H
theorem pe_var {i : Nat} {x : Str} {pos : Pos} (hN : X.N[i]? = some x) (hv : Vis X.env.scope x) (hd : (x == ("__debug__" : Str)) = false := by decide) (hcd : (x == ("__classdict__" : Str)) = false := by decide) : PE X (.Name x pos) (tVar i) := by
  intro pins s σ H Q I h
  obtain ⟨v, e, h⟩ := h
  obtain ⟨m, hn, hl⟩ := I.loc
  obtain ⟨u, r, l⟩ := hl i x v hN e hv
  have fin : EP X pins σ Q u s := ⟨v, H, I, r, h⟩
  rcases l with ⟨hk, hm⟩ | ⟨hk, c, hc, hcell⟩
  · exact wpAny_Name (wpAny_loadName_local I.ok.kind hk hn hm fin) hd
  · rcases hk with hk | hk
    · exact wpAny_Name (wpAny_loadName_cell I.ok.kind hk hc hcell fin) hd
    · exact wpAny_Name (wpAny_loadName_free I.ok.kind hk hc hcell fin hcd) hd
theorem pe_int {i j pos} : PE X (.Constant (.int i) j pos) (tC (.int i)) := fun _ _ _ H _ I h => wpAny_Constant_int ⟨.int i, H, I.tok _, ⟨_, rfl⟩, h⟩
theorem pe_bl {b j pos} : PE X (.Constant (.bool b) j pos) (tC (.bl b)) := fun _ _ _ H _ I h => Constant_bool ⟨.bl b, H, I, rfl, h⟩
theorem pe_non {j pos} : PE X (.Constant .none j pos) (tC .non) := fun _ _ _ H _ I h => Constant_none ⟨.non, H, I, rfl, h⟩

/-- a global name of the def -/
def Gl (X : Cx) (x : Str) : Prop := X.env.kindOf x = some .globalImplicit
theorem ld_glob {E : Value → Shared → Prop} {pins : List (Addr × Obj)} {s : Shared} {σ : St} {H : Hp} {x : Str} {u : Value} {pos : Pos} {Q : Value → Shared → Prop} (I : Inv X pins σ H s) (hg : Gl X x) (hm : X.mg x = some u) (h : Q u s)
    (hd : (x == ("__debug__" : Str)) = false := by decide) : wpAny (model X.prog X.w) X.A (eval (.Name x pos) X.env) Q E s :=
  Calls.Name_function_global I.ok.kind hg (Calls.loadGlobal_global (by rw [I.ok.glob]; exact I.mod.glob.keeps I.bk) hm h) hd
theorem ld_blt {E : Value → Shared → Prop} {pins : List (Addr × Obj)} {s : Shared} {σ : St} {H : Hp} {x : Str} {u : Value} {pos : Pos} {Q : Value → Shared → Prop} (I : Inv X pins σ H s) (hg : Gl X x) (hm : X.mg x = none) (hv : bootBuiltins x = some u) (h : Q u s)
    (hn : x ≠ "__name__" := by decide) (hd : (x == ("__debug__" : Str)) = false := by decide) : wpAny (model X.prog X.w) X.A (eval (.Name x pos) X.env) Q E s := by
  obtain ⟨mb, h1, h2⟩ := I.mod.blt
  exact Calls.Name_function_global I.ok.kind hg (Calls.loadGlobal_builtin (by rw [I.ok.glob]; exact I.mod.glob.keeps I.bk) hm (by rw [I.ok.blt]; exact h1.keeps I.bk) ((h2 x hn).trans hv) h) hd
/-- a module's constant, a class, a function, as a value -/
theorem pe_glob {x : Str} {v : V} {u : Value} {pos : Pos} (hg : Gl X x) (hm : X.mg x = some u) (r : RelV v u) (hd : (x == ("__debug__" : Str)) = false := by decide) : PE X (.Name x pos) (tC v) :=
  fun _ _ _ H _ I h => ld_glob I hg hm ⟨v, H, I, r, h⟩ hd

/-! ### arithmetic -/
variable {a b : Expr} {ta tb : TE} {pos : Pos}

/-! ### comparisons -/
/-- a comparison as a value, as a test -/
def tB (t : TE) : TT := fun σ H Q => t σ H fun x H1 => ∃ c, x = .bl c ∧ Q c H1
/-- an expression whose value is a bool, as a test -/
theorem pt_val {e : Expr} {t : TE} (h : PE X e t) (he : ∀ whole, isTrue e X.env whole = (do let v ← whole; standAt e.pos; holding [v] (truthy v)) := by intro _; rfl) : PT X e (tB t) := by
  intro pins s σ H Q I hw
  refine isTrue_plain (thn (h pins s σ H _ I hw) fun v s1 ⟨x, H1, I1, r1, q1⟩ => ?_) (he _)
  obtain ⟨d, rfl, q⟩ := q1
  cases r1
  exact wpAny_truthy_bool ⟨H1, I1, q⟩

/-! ### and, or, not -/
variable {tA tB' : TT} {rest : List Expr}
def tAnd (t u : TT) : TT := fun σ H Q => t σ H fun c H1 => if c = true then u σ H1 Q else Q false H1
def tOr (t u : TT) : TT := fun σ H Q => t σ H fun c H1 => if c = true then Q true H1 else u σ H1 Q
def tNot (t : TT) : TT := fun σ H Q => t σ H fun c H1 => Q (!c) H1
theorem pw_and1 (ha : PT X a tA) : PW X (.BoolOp .And [a] pos) tA := by
  intro wh pins s σ H Q I h
  refine isTrue_and (thn (ha pins s σ H Q I h) fun c s1 e => ?_)
  cases c with
  | true => exact isTrue_and_nil e
  | false => exact e
theorem pw_or1 (ha : PT X a tA) : PW X (.BoolOp .Or [a] pos) tA := by
  intro wh pins s σ H Q I h
  refine isTrue_or (thn (ha pins s σ H Q I h) fun c s1 e => ?_)
  cases c with
  | false => exact isTrue_or_nil e
  | true => exact e
theorem pw_and (ha : PT X a tA) (hb : PW X (.BoolOp .And (b :: rest) pos) tB') : PW X (.BoolOp .And (a :: b :: rest) pos) (tAnd tA tB') := by
  intro wh pins s σ H Q I h
  refine isTrue_and (thn (ha pins s σ H _ I h) fun c s1 ⟨H1, I1, q1⟩ => ?_)
  cases c with
  | true => exact hb wh pins s1 σ H1 Q I1 q1
  | false => exact ⟨H1, I1, q1⟩
theorem pw_or (ha : PT X a tA) (hb : PW X (.BoolOp .Or (b :: rest) pos) tB') : PW X (.BoolOp .Or (a :: b :: rest) pos) (tOr tA tB') := by
  intro wh pins s σ H Q I h
  refine isTrue_or (thn (ha pins s σ H _ I h) fun c s1 ⟨H1, I1, q1⟩ => ?_)
  cases c with
  | true => exact ⟨H1, I1, q1⟩
  | false => exact hb wh pins s1 σ H1 Q I1 q1
theorem pt_not (ha : PT X a tA) : PT X (.UnaryOp .Not a pos) (tNot tA) := by
  intro pins s σ H Q I h
  exact isTrue_not (ha pins s σ H (fun c H1 => Q (!c) H1) I h)
/-- .. as values (bools) -/
def tAndV (ta tb : TE) : TE := fun σ H Q => ta σ H fun x H1 => ∃ c, x = .bl c ∧ if c = true then tb σ H1 Q else Q (.bl false) H1
def tOrV (ta tb : TE) : TE := fun σ H Q => ta σ H fun x H1 => ∃ c, x = .bl c ∧ if c = true then Q (.bl true) H1 else tb σ H1 Q
theorem pe_one {op} {t : TE} (h : PE X a t) : PE X (.BoolOp op [a] pos) t := fun pins s σ H Q I hw => BoolOp_one (h pins s σ H Q I hw)
theorem pe_and (ha : PE X a ta) (hb : PE X (.BoolOp .And (b :: rest) pos) tb) : PE X (.BoolOp .And (a :: b :: rest) pos) (tAndV ta tb) := by
  intro pins s σ H Q I h
  refine BoolOp_and (thn (ha pins s σ H _ I h) fun v s1 ⟨x, H1, I1, r1, q1⟩ => ?_)
  obtain ⟨c, rfl, q1⟩ := q1
  cases r1
  refine wpAny_truthy_bool ?_
  cases c with
  | true => exact hb pins s1 σ H1 Q I1 q1
  | false => exact ⟨.bl false, H1, I1, rfl, q1⟩
theorem pe_or (ha : PE X a ta) (hb : PE X (.BoolOp .Or (b :: rest) pos) tb) : PE X (.BoolOp .Or (a :: b :: rest) pos) (tOrV ta tb) := by
  intro pins s σ H Q I h
  refine BoolOp_or (thn (ha pins s σ H _ I h) fun v s1 ⟨x, H1, I1, r1, q1⟩ => ?_)
  obtain ⟨c, rfl, q1⟩ := q1
  cases r1
  refine wpAny_truthy_bool ?_
  cases c with
  | false => exact hb pins s1 σ H1 Q I1 q1
  | true => exact ⟨.bl true, H1, I1, rfl, q1⟩
/-- a if t else b -/
def tIf (t : TT) (ta tb : TE) : TE := fun σ H Q => t σ H fun c H1 => if c = true then ta σ H1 Q else tb σ H1 Q
theorem pe_ifExp {c : Expr} (hc : PT X c tA) (ha : PE X a ta) (hb : PE X b tb) : PE X (.IfExp c a b pos) (tIf tA ta tb) := by
  intro pins s σ H Q I h
  refine wpAny_IfExp (thn (hc pins s σ H _ I h) fun d s1 ⟨H1, I1, q1⟩ => ?_)
  cases d with
  | true => exact ha pins s1 σ H1 Q I1 q1
  | false => exact hb pins s1 σ H1 Q I1 q1
end
end L2

namespace L2
open PySem PySem.Spec PyProof.Rows

/-! ### a list, a tuple that is read: tracked, frozen, or an object of the module -/
def SqL (K : PySem.W.Frag) (H : Hp) (a : Addr) (xs : List V) : Prop :=
  Rd H a (.lst xs) ∨
    ∃ (o : Obj) (its : Array Value) (n : Nat), K.lookup a = some o ∧ o.cls = .type "list" ∧ o.dict = none ∧ o.data = .seq its n ∧ its.size ≤ sizeLine ∧ Vals xs its.toList
def SqT (K : PySem.W.Frag) (H : Hp) (a : Addr) (xs : List V) : Prop :=
  Rd H a (.tup xs) ∨
    ∃ (o : Obj) (its : Array Value) (n : Nat), K.lookup a = some o ∧ o.cls = .type "tuple" ∧ o.data = .seq its n ∧ its.size ≤ sizeLine ∧ Vals xs its.toList
def absV : Value → Option V
  | .none => some .non
  | .bool b => some (.bl b)
  | .int i _ => some (.int i)
  | .str x _ => some (.str x)
  | .bytes b _ => some (.byt b)
  | .float b _ => some (.flt b)
  | .ref a => some (.ref a)
  | .type n => some (.ty n)
  | _ => none
theorem RelV.abs {x : V} {u : Value} (r : RelV x u) : absV u = some x := by
  cases x with
  | non => cases r; rfl
  | bl _ => cases r; rfl
  | int _ => obtain ⟨t, rfl⟩ := r; rfl
  | str _ => obtain ⟨t, rfl⟩ := r; rfl
  | byt _ => obtain ⟨t, rfl⟩ := r; rfl
  | flt _ => obtain ⟨t, rfl⟩ := r; rfl
  | ref _ => cases r; rfl
  | ty _ => cases r; rfl
theorem RelV.inj {x y : V} {u : Value} (r : RelV x u) (q : RelV y u) : x = y := Option.some.inj (r.abs.symm.trans q.abs)
theorem Vals.inj : ∀ {xs ys : List V} {us : List Value}, Vals xs us → Vals ys us → xs = ys
  | _, _, _, .nil, .nil => rfl
  | _, _, _, .cons r t, .cons r' t' => by rw [r.inj r', Vals.inj t t']
section
variable {X : Cx} {pins : List (Addr × Obj)} {σ : St} {H : Hp} {s : Shared} {a : Addr} {xs ys : List V}
theorem SqL.of {K : PySem.W.Frag} (h : H a = some (.lst xs)) : SqL K H a xs := .inl (.inl h)
theorem Inv.list (I : Inv X pins σ H s) (h : SqL X.K H a xs) : ∃ its : List Value, Vals xs its ∧ PlainL s.heap a its.toArray ∧ xs.length ≤ sizeLine := by
  rcases h with h | ⟨o, its, n, hk, hc, hd, hs, hz, r⟩
  · obtain ⟨z, its, n, r, e⟩ := h.ok I.hok
    exact ⟨its, r, ⟨_, n, e, rfl, rfl, rfl⟩, z⟩
  · refine ⟨its.toList, r, ⟨o, n, I.kIn a o hk, hc, hd, by simpa using hs⟩, ?_⟩
    have e := r.length
    simp only [Array.length_toList] at e
    omega
theorem Inv.tuple (I : Inv X pins σ H s) (h : SqT X.K H a xs) : ∃ its : List Value, Vals xs its ∧ IsTup s.heap a its.toArray ∧ xs.length ≤ sizeLine := by
  rcases h with h | ⟨o, its, n, hk, hc, hs, hz, r⟩
  · obtain ⟨z, its, r, p⟩ := h.ok I.hok
    exact ⟨its, r, p, z⟩
  · refine ⟨its.toList, r, ⟨o, I.kIn a o hk, hc, n, by simpa using hs⟩, ?_⟩
    have e := r.length
    simp only [Array.length_toList] at e
    omega
theorem Inv.list_inj (I : Inv X pins σ H s) (h : SqL X.K H a xs) (h' : SqL X.K H a ys) : xs = ys := by
  obtain ⟨its, r, ⟨o, n, e, _, _, d⟩, _⟩ := I.list h
  obtain ⟨its', r', ⟨o', n', e', _, _, d'⟩, _⟩ := I.list h'
  rw [e] at e'; cases e'
  rw [d] at d'
  injection d' with d1 _
  have : its = its' := by simpa using congrArg Array.toList d1
  subst this
  exact r.inj r'
end

/-! ### another wish about exceptions -/
abbrev Cx.wish (X : Cx) (E : Value → Shared → Prop) : Cx := { X with xe := E }
/-- no exception leaves -/
abbrev Cx.nox (X : Cx) : Cx := X.wish fun _ _ => False
theorem Cx.Ok.wish {X : Cx} (ok : X.Ok) (E : Value → Shared → Prop) : (X.wish E).Ok :=
  ⟨ok.mod, ok.kind, ok.glob, ok.blt, ok.above, ok.inj, ok.has, ok.cab, ok.hd, ok.frames, ok.stk, ok.exf, ok.bs, ok.bsz, ok.noex, ok.exfs, ok.funs, ok.frf⟩
theorem Cx.Ok.unwish {X : Cx} {E : Value → Shared → Prop} (ok : (X.wish E).Ok) : X.Ok :=
  ⟨ok.mod, ok.kind, ok.glob, ok.blt, ok.above, ok.inj, ok.has, ok.cab, ok.hd, ok.frames, ok.stk, ok.exf, ok.bs, ok.bsz, ok.noex, ok.exfs, ok.funs, ok.frf⟩
section
variable {X : Cx} {pins : List (Addr × Obj)} {σ : St} {H : Hp} {s : Shared} {E : Value → Shared → Prop}
theorem Inv.wish (I : Inv X pins σ H s) (E : Value → Shared → Prop) : Inv (X.wish E) pins σ H s := ⟨I.ok.wish E, I.os, I.bare, I.base, I.loc, I.cell, I.free, I.freeC, I.pin, I.hok, I.len⟩
theorem Inv.unwish (I : Inv (X.wish E) pins σ H s) : Inv X pins σ H s := ⟨I.ok.unwish, I.os, I.bare, I.base, I.loc, I.cell, I.free, I.freeC, I.pin, I.hok, I.len⟩
theorem SP.unwish {D : Ends} {f : Flow} {s' : Shared} (h : SP (X.wish E) pins D f s') : SP X pins D f s' := by
  cases f with
  | next => obtain ⟨σ', H', I, q⟩ := h; exact ⟨σ', H', I.unwish, q⟩
  | brk => obtain ⟨σ', H', I, q⟩ := h; exact ⟨σ', H', I.unwish, q⟩
  | cont => obtain ⟨σ', H', I, q⟩ := h; exact ⟨σ', H', I.unwish, q⟩
  | ret u => obtain ⟨v, σ', H', I, r, q⟩ := h; exact ⟨v, σ', H', I.unwish, r, q⟩
theorem PSs.nox {st : List Stmt} {t : TS} (h : PSs X.nox st t) : PSs X st t := fun pins s σ H D I hw =>
  wpAny_mono (h pins s σ H D (I.wish _) hw) (fun _ _ q => q.unwish) fun _ _ z => False.elim z
end

/-! ### blocks and small statements -/
section
variable {X : Cx} {st : Stmt} {rest : List Stmt} {t u : TS} {e : Expr} {te : TE} {pos : Pos}
def tNext : TS := fun D σ H => D.nx σ H
def tSeq (t u : TS) : TS := fun D σ H => t { D with nx := u D } σ H
theorem pss_nil : PSs X [] tNext := fun _ _ σ H _ I h => wpAny_execs_nil ⟨σ, H, I, h⟩
theorem pss_cons (h1 : PS X st t) (h2 : PSs X rest u) : PSs X (st :: rest) (tSeq t u) := by
  intro pins s σ H D I h
  refine wpAny_execs_cons (thn (h1 pins s σ H { D with nx := u D } I h) fun f s1 q => ?_)
  cases f with
  | next =>
    obtain ⟨σ', H', I', q⟩ := q
    exact h2 pins s1 σ' H' D I' q
  | ret v => exact q
  | brk => exact q
  | cont => exact q
theorem pss_one (h1 : PS X st t) : PSs X [st] t := by
  intro pins s σ H D I h
  refine wpAny_execs_cons (thn (h1 pins s σ H D I h) fun f s1 q => ?_)
  cases f with
  | next => exact wpAny_execs_nil q
  | ret v => exact q
  | brk => exact q
  | cont => exact q
/-- in a def's body nothing is shown -/
theorem Inv.quiet {pins : List (Addr × Obj)} {σ : St} {H : Hp} {s : Shared} (I : Inv X pins σ H s) : interactive X.env = false := by simp [interactive, I.ok.kind]
/-- an expression whose value is dropped -/
def tDrop (te : TE) : TS := fun D σ H => te σ H fun _ H1 => D.nx σ H1
theorem ps_expr (he : PE X e te) (hs : swapsWith e none pos.line X.env = pure false := by rfl) : PS X (.Expr e pos) (tDrop te) := by
  intro pins s σ H D I h
  exact wpAny_Expr_any (thn (he pins s σ H _ I h) fun v s1 ⟨x, H1, I1, r1, q1⟩ => ⟨σ, H1, I1, q1⟩) I.quiet hs
def tRet (te : TE) : TS := fun D σ H => te σ H D.rt
theorem ps_ret (he : PE X e te) : PS X (.Return (some e) pos) (tRet te) := by
  intro pins s σ H D I h
  exact wpAny_Return_some (thn (he pins s σ H _ I h) fun v s1 ⟨x, H1, I1, r1, q1⟩ => ⟨x, σ, H1, I1, r1, q1⟩)
def tIfS (c : TT) (t u : TS) : TS := fun D σ H => c σ H fun b H1 => if b = true then t D σ H1 else u D σ H1
theorem ps_if {c : Expr} {a b : List Stmt} {tc : TT} (hc : PT X c tc) (ha : PSs X a t) (hb : PSs X b u) : PS X (.If c a b pos) (tIfS tc t u) := by
  intro pins s σ H D I h
  refine wpAny_If (thn (hc pins s σ H _ I h) fun d s1 ⟨H1, I1, q1⟩ => ?_)
  cases d with
  | true => exact ha pins s1 σ H1 D I1 q1
  | false => exact hb pins s1 σ H1 D I1 q1
end

/-! ### targets -/
abbrev TG := V → St → Hp → (St → Hp → Prop) → Prop
def PG (X : Cx) (target : Expr) (t : TG) : Prop :=
  ∀ (pins : List (Addr × Obj)) (s : Shared) (σ : St) (H : Hp) (v : V) (u : Value) (Q : St → Hp → Prop), Inv X pins σ H s → RelV v u → t v σ H Q →
    wpAny (model X.prog X.w) X.A (assign target X.env u) (fun _ s' => ∃ σ' H', Inv X pins σ' H' s' ∧ Q σ' H') X.xe s
/-- o[i] = v, by values -/
abbrev TSet := V → V → V → Hp → (Hp → Prop) → Prop
def PSet (X : Cx) (t : TSet) : Prop :=
  ∀ (pins : List (Addr × Obj)) (s : Shared) (σ : St) (H : Hp) (o i v : V) (ov iv u : Value) (Q : Hp → Prop), Inv X pins σ H s → RelV o ov → RelV i iv → RelV v u → t o i v H Q →
    wpAny (model X.prog X.w) X.A (setItem ov iv u) (fun _ s' => ∃ H', Inv X pins σ H' s' ∧ Q H') X.xe s
/-- a op= b, by values -/
abbrev TIp := V → V → Hp → VK → Prop
def PIp (X : Cx) (op : Operator) (t : TIp) : Prop :=
  ∀ (pins : List (Addr × Obj)) (s : Shared) (σ : St) (H : Hp) (x y : V) (v u : Value) (Q : VK), Inv X pins σ H s → RelV x v → RelV y u → t x y H Q →
    wpAny (model X.prog X.w) X.A (inplaceOp op v u) (EP X pins σ Q) X.xe s
section
variable {X : Cx} {pos : Pos}
def gName (i : Nat) : TG := fun v σ H Q => Q (σ.set i (some v)) H
theorem pg_name {i : Nat} {x : Str} (hN : X.N.Nodup) (hi : X.N[i]? = some x) (hx : Loc X.env.scope x) (hf : X.fn x = true ∨ X.env.scope.names.lookup x = some .local := by first | exact .inl rfl | exact .inr rfl | assumption) : PG X (.Name x pos) (gName i) := by
  intro pins s σ H v u Q I r h
  exact wpAny_assign_Name (store_ok I hN hi hx r (fun s' I' => ⟨_, H, I', h⟩) hf)
/-- o[i] = .. -/
def gSub (to ti : TE) (t : TSet) : TG := fun v σ H Q => to σ H fun o H1 => ti σ H1 fun i H2 => t o i v H2 fun H3 => Q σ H3
theorem pg_sub {o i : Expr} {to ti : TE} {t : TSet} (ho : PE X o to) (hi : PE X i ti) (hs : PSet X t)
    (ha : ∀ v, assign (.Subscript o i pos) X.env v = (do
      let ov ← holding [v] (eval o X.env)
      let iv ← holding [v, ov] (eval i X.env)
      standAt pos
      holding [v, ov, iv] (setItem ov iv v)
      release [v, ov, iv] []) := by intro _; rfl) : PG X (.Subscript o i pos) (gSub to ti t) := by
  intro pins s σ H v u Q I r h
  rw [ha]
  refine wpAny_bind (wpAny_holding (thn (ho pins s σ H _ I h) fun ov s1 ⟨x, H1, I1, r1, q1⟩ => ?_))
  refine wpAny_bind (wpAny_holding (thn (hi pins s1 σ H1 _ I1 q1) fun iv s2 ⟨y, H2, I2, r2, q2⟩ => ?_))
  refine wpAny_bind (wpAny_standAt (wpAny_bind (wpAny_holding (thn (hs pins s2 σ H2 x y v ov iv u _ I2 r1 r2 r q2) fun _ s3 ⟨H3, I3, q3⟩ => ?_))))
  exact wpAny_release ⟨σ, H3, I3, q3⟩
/-- target = value -/
def tAsg (te : TE) (g : TG) : TS := fun D σ H => te σ H fun x H1 => g x σ H1 D.nx
theorem ps_asg {tg e : Expr} {te : TE} {g : TG} (he : PE X e te) (hg : PG X tg g) (hs : swapsWithSole [tg] e pos.line X.env = pure false := by rfl) (hw : swappedStores [tg] e X.env = pure none := by rfl)
    (h1 : (assignEach [tg] X.env).map (·.2) = [assign tg X.env] := by rfl) : PS X (.Assign [tg] e pos) (tAsg te g) := by
  intro pins s σ H D I h
  refine wpAny_Assign_stores (thn (he pins s σ H _ I h) fun v s1 ⟨x, H1, I1, r1, q1⟩ => ?_) hs hw
  rw [h1]
  exact thn (hg pins s1 σ H1 x v _ I1 r1 q1) fun _ s2 q => q
/-- name = value -/
theorem ps_set {i : Nat} {x : Str} {e : Expr} {te : TE} {pos' : Pos} (hN : X.N.Nodup) (hi : X.N[i]? = some x) (hx : Loc X.env.scope x) (he : PE X e te) (hs : swapsWith e (some (.Name x pos')) pos.line X.env = pure false := by rfl) (hf : X.fn x = true ∨ X.env.scope.names.lookup x = some .local := by first | exact .inl rfl | exact .inr rfl | assumption) :
    PS X (.Assign [.Name x pos'] e pos) (tAsg te (gName i)) := by
  intro pins s σ H D I h
  refine wpAny_Assign_Name (thn (he pins s σ H _ I h) fun v s1 ⟨y, H1, I1, r1, q1⟩ => ?_) hs
  exact store_ok I1 hN hi hx r1 (fun s2 I2 => ⟨_, H1, I2, q1⟩) hf
/-- o[i] op= e -/
def tAugS (to ti te : TE) (tget : V → V → Hp → VK → Prop) (tip : TIp) (tset : TSet) : TS := fun D σ H => to σ H fun o H1 => ti σ H1 fun i H2 => tget o i H2 fun x H3 => te σ H3 fun y H4 => tip x y H4 fun z H5 => tset o i z H5 fun H6 => D.nx σ H6
/-- o[i], by values -/
def PGet (X : Cx) (t : V → V → Hp → VK → Prop) : Prop :=
  ∀ (pins : List (Addr × Obj)) (s : Shared) (σ : St) (H : Hp) (o i : V) (ov iv : Value) (Q : VK), Inv X pins σ H s → RelV o ov → RelV i iv → t o i H Q →
    wpAny (model X.prog X.w) X.A (getItem ov iv) (EP X pins σ Q) X.xe s
theorem ps_augS {o i e : Expr} {to ti te : TE} {tget : V → V → Hp → VK → Prop} {tip : TIp} {tset : TSet} {op : Operator} {tpos : Pos} (ho : PE X o to) (hi : PE X i ti) (hg : PGet X tget) (he : PE X e te) (hp : PIp X op tip) (hs : PSet X tset)
    (ha : ∀ ov iv new, augStore i ov iv new = (do holding [new, ov, iv] (setItem ov iv new); release [new, ov, iv] []; pure .next) := by intros; rfl) : PS X (.AugAssign (.Subscript o i tpos) op e pos) (tAugS to ti te tget tip tset) := by
  intro pins s σ H D I h
  refine wpAny_AugAssign_SubscriptAny (thn (ho pins s σ H _ I h) fun ov s1 ⟨x1, H1, I1, r1, q1⟩ => ?_) ha
  refine thn (hi pins s1 σ H1 _ I1 q1) fun iv s2 ⟨x2, H2, I2, r2, q2⟩ => ?_
  refine thn (hg pins s2 σ H2 x1 x2 ov iv _ I2 r1 r2 q2) fun old s3 ⟨x3, H3, I3, r3, q3⟩ => ?_
  refine thn (he pins s3 σ H3 _ I3 q3) fun v s4 ⟨x4, H4, I4, r4, q4⟩ => ?_
  refine thn (hp pins s4 σ H4 x3 x4 old v _ I4 r3 r4 q4) fun new s5 ⟨x5, H5, I5, r5, q5⟩ => ?_
  exact thn (hs pins s5 σ H5 x1 x2 x5 ov iv new _ I5 r1 r2 r5 q5) fun _ s6 ⟨H6, I6, q6⟩ => ⟨σ, H6, I6, q6⟩
/-- ints -/
def ipI (f : Int → Int → Int) : TIp := fun x y H Q => ∃ i j, x = .int i ∧ y = .int j ∧ Q (.int (f i j)) H
theorem ip_add : PIp X .Add (ipI fun i j => i + j) := by
  intro pins s σ H x y v u Q I r1 r2 h
  obtain ⟨i, j, e1, e2, q⟩ := h
  subst e1; subst e2
  obtain ⟨t, rfl⟩ := r1
  obtain ⟨t', rfl⟩ := r2
  exact iadd_int ⟨.int _, H, I.tok _, ⟨_, rfl⟩, q⟩
end

/-! ### while -/
section
variable {X : Cx} {pos : Pos}
/-- the invariant W with its measure -/
def tWhile (c : TT) (tb : TS) : TS := fun D σ H => ∃ W : Nat → St → Hp → Prop, (∃ m, W m σ H) ∧ ∀ m σ H, W m σ H →
  c σ H fun b H1 => if b = true then ∃ N : St → Hp → Prop, (∀ σ' H', N σ' H' → ∃ m', m' < m ∧ W m' σ' H') ∧ tb { D with nx := N, ct := N, bk := D.nx } σ H1 else D.nx σ H1
theorem ps_while {c : Expr} {body : List Stmt} {tc : TT} {tb : TS} (hp : PassesOwn (model X.prog X.w) X.A X.env X.xe) (hc : PT X c tc) (hb : PSs X body tb) : PS X (.While c body [] pos) (tWhile tc tb) := by
  intro pins s σ H D I h
  obtain ⟨W, ⟨m0, w0⟩, turn⟩ := h
  refine wpAny_While (codeAny_whileLoop (fun n s' => ∃ σ' H', Inv X pins σ' H' s' ∧ W n σ' H') ?_ m0 ⟨σ, H, I, w0⟩)
  rintro n s1 ⟨σ1, H1, I1, w1⟩
  refine wpAny_passesOwn hp (thn (hc pins s1 σ1 H1 _ I1 (turn n σ1 H1 w1)) fun b s2 ⟨H2, I2, q2⟩ => ?_)
  cases b with
  | true =>
    obtain ⟨N, hN, q2⟩ := q2
    rw [if_pos rfl]
    refine wpAny_passesOwn hp (thn (hb pins s2 σ1 H2 _ I2 q2) fun f s3 q3 => ?_)
    cases f with
    | next =>
      obtain ⟨σ3, H3, I3, n3⟩ := q3
      obtain ⟨m', hm, w3⟩ := hN σ3 H3 n3
      exact ⟨m', hm, σ3, H3, I3, w3⟩
    | cont =>
      obtain ⟨σ3, H3, I3, n3⟩ := q3
      obtain ⟨m', hm, w3⟩ := hN σ3 H3 n3
      exact ⟨m', hm, σ3, H3, I3, w3⟩
    | brk => exact q3
    | ret v => exact q3
  | false =>
    rw [if_neg Bool.false_ne_true]
    exact wpAny_execs_nil ⟨σ1, H2, I2, q2⟩
end

/-! ### what a loop or a comprehension walks -/
/-- at turn i: it yields x (the heap may grow), or it stops -/
structure It where
  go : Nat → Hp → Prop
  yld : Nat → Hp → V → Hp → Prop
  stop : Nat → Hp → Prop
/-- the iterator's own objects may turn: they are not the frame's, not pinned, younger than the entry (or a comprehension's own) -/
def FpOk (X : Cx) (pins : List (Addr × Obj)) (H : Hp) (b : Addr) : Prop :=
  H b = none ∧ b ≠ X.env.locals ∧ b ∉ X.fs ∧ (b ∈ X.ex ∨ X.s_0.heap.objs.size ≤ b) ∧ (∀ x c, X.env.cells.lookup x = some c → c ≠ b) ∧ ∀ p ∈ X.pn ++ pins, p.1 ≠ b
theorem Inv.fpOk {X : Cx} {pins : List (Addr × Obj)} {σ : St} {H H' : Hp} {s : Shared} {b : Addr} (I : Inv X pins σ H s) (hb : s.heap.objs.size ≤ b) (hn : H' b = none) : FpOk X pins H' b := by
  refine ⟨hn, Nat.ne_of_gt (Nat.lt_of_lt_of_le I.lt hb), I.nofs hb, .inr (Nat.le_trans I.sz hb), fun x c e z => ?_, fun p hp z => ?_⟩
  · obtain ⟨v, q⟩ := I.cell x c e
    exact absurd (Nat.lt_of_lt_of_le q.lt (by rw [z]; exact hb)) (Nat.lt_irrefl _)
  · exact absurd (Nat.lt_of_lt_of_le (Heap.lt_size (I.pin p hp).1) (by rw [z]; exact hb)) (Nat.lt_irrefl _)
structure Turn (P : Program) (w : World) (K : PySem.W.Frag) (tg : Expr) (J : It) (fp : List Addr) (it : Addr) (tn : Nat → Heap → Prop) : Prop where
  mem : it ∈ fp
  obj : ∀ i h, tn i h → ∀ b ∈ fp, ∃ o, h.get? b = some o ∧ ∀ v, o.data ≠ .cell v
  keep : ∀ i h h', tn i h → (∀ b ∈ fp, ∀ o, h.get? b = some o → h'.get? b = some o) → tn i h'
  item : ∀ (X : Cx), X.prog = P → X.w = w → X.K = K → X.calm = true → ∀ (i : Nat) (pins : List (Addr × Obj)) (s : Shared) (σ : St) (H : Hp) (E : Value → Shared → Prop), Inv X pins σ H s → (∀ b ∈ fp, FpOk X pins H b) → tn i s.heap → J.go i H →
    wpAny (model P w) X.A (pyNext (.ref it)) (fun r s1 => ∃ u, r = some u ∧
      wpAny (model P w) X.A (letOwnedTupleGo tg (.ref it) u) (fun _ s2 => ∃ x H', Inv X pins σ H' s2 ∧ RelV x u ∧ J.yld i H x H' ∧ tn (i + 1) s2.heap ∧ ∀ b ∈ fp, H' b = none) E s1) E s
  done : ∀ (X : Cx), X.prog = P → X.w = w → X.K = K → X.calm = true → ∀ (i : Nat) (pins : List (Addr × Obj)) (s : Shared) (σ : St) (H : Hp) (E : Value → Shared → Prop), Inv X pins σ H s → (∀ b ∈ fp, FpOk X pins H b) → tn i s.heap → J.stop i H →
    wpAny (model P w) X.A (pyNext (.ref it)) (fun r s1 => r = none ∧ Inv X pins σ H s1) E s
  self : ∀ (A : Around) (i : Nat) (s : Shared) (Q : Value → Shared → Prop) (E : Value → Shared → Prop), tn i s.heap → Q (.ref it) s → wpAny (model P w) A (pyIter (.ref it)) Q E s
abbrev TI := St → Hp → (It → Hp → Prop) → Prop
/-- an iterator has come -/
def PIE (X : Cx) (pins : List (Addr × Obj)) (σ : St) (tg : Expr) (R : It → Hp → Prop) (itv : Value) (s2 : Shared) : Prop :=
  ∃ (it : Addr) (fp : List Addr) (tn : Nat → Heap → Prop) (J : It) (H' : Hp), itv = .ref it ∧ Inv X pins σ H' s2 ∧ Turn X.prog X.w X.K tg J fp it tn ∧ tn 0 s2.heap ∧ (∀ b ∈ fp, FpOk X pins H' b) ∧ R J H'
def PI (X : Cx) (tg iter : Expr) (wi : TI) : Prop :=
  ∀ (pins : List (Addr × Obj)) (s : Shared) (σ : St) (H : Hp) (R : It → Hp → Prop), Inv X pins σ H s → wi σ H R →
    wpAny (model X.prog X.w) X.A (eval iter X.env) (fun v s1 => wpAny (model X.prog X.w) X.A (pyIter v) (PIE X pins σ tg R) X.xe s1) X.xe s

/-- the step ahead of the store is nothing for an iterator that keeps no tuple -/
theorem go_of {M : Model} {A : Around} {E : Value → Shared → Prop} {s : Shared} {tg : Expr} {it : Addr} {u : Value} {o : Obj} {n : String} {vs : Array Value} {Q : Unit → Shared → Prop} (ho : s.heap.get? it = some o) (hc : o.cls = .type n) (hd : o.data = .fields vs)
    (hn : ["enumerate", "zip", "dict_itemiterator", "dict_reverseitemiterator", "odict_iterator", "itertools.zip_longest", "itertools.pairwise"].contains n = false) (hQ : Q () s) : wpAny M A (letOwnedTupleGo tg (.ref it) u) Q E s := by
  unfold letOwnedTupleGo
  cases tg <;> first
    | exact wpAny_pure hQ
    | (cases u <;> first
        | exact wpAny_pure hQ
        | (refine wpAny_bind (wpAny_load ho ?_)
           rw [hc, hd]
           show wpAny M A (if (["enumerate", "zip", "dict_itemiterator", "dict_reverseitemiterator", "odict_iterator", "itertools.zip_longest", "itertools.pairwise"].contains n && vs[0]? == some (rawInt _)) = true then _ else _) Q E s
           rw [if_neg (by intro h; rw [hn, Bool.false_and] at h; cases h)]
           exact wpAny_pure hQ))

/-- the list at a, as it stands at each turn (a loop may append to it) -/
def Itl (K : PySem.W.Frag) (a : Addr) : It :=
  ⟨fun i H => ∃ xs x, SqL K H a xs ∧ xs[i]? = some x, fun i H x H' => H' = H ∧ ∀ xs, SqL K H a xs → xs[i]? = some x, fun i H => ∃ xs, SqL K H a xs ∧ xs.length ≤ i⟩
theorem turn_list {P : Program} {w : World} {K : PySem.W.Frag} {tg : Expr} (a it : Addr) : Turn P w K tg (Itl K a) [it] it (fun i h => h.IsListIter it a i) where
  mem := by simp
  obj := fun i h st b hb => by
    have e : b = it := by simpa using hb
    subst e
    obtain ⟨o, e, c, d⟩ := st
    exact ⟨o, e, fun v z => by rw [d] at z; cases z⟩
  keep := fun i h h' st k => st.at fun o e => k it (by simp) o e
  item := by
    intro X hP hw hK hc i pins s σ H E I hf st hg
    subst hP hw hK
    obtain ⟨xs, x, hq, hx⟩ := hg
    obtain ⟨its, rv, p, hz⟩ := I.list hq
    obtain ⟨u, hu, ru⟩ := rv.get hx
    obtain ⟨f0, f1, f2, f3, f4, f5⟩ := hf it (by simp)
    refine wpAny_pyNext_list_item st p.isList (x := u) (by simpa using hu) fun h' st' sb => ?_
    have I1 : Inv X pins σ H { s with heap := h' } := I.turned (t' := s.toks) (fun b o hb e => (sb.2 b hb).trans e) f0 f1 f3 f4 f5
    obtain ⟨o, e, c, d⟩ := id st'
    exact ⟨u, rfl, go_of (s := { s with heap := h' }) e c d (by decide) ⟨x, H, I1, ru, ⟨rfl, fun ys hy => by rw [I.list_inj hy hq]; exact hx⟩, st', fun b hb => (hf b hb).1⟩⟩
  done := by
    intro X hP hw hK hc i pins s σ H E I hf st hg
    subst hP hw hK
    obtain ⟨xs, hq, hx⟩ := hg
    obtain ⟨its, rv, p, hz⟩ := I.list hq
    obtain ⟨f0, f1, f2, f3, f4, f5⟩ := hf it (by simp)
    have hl := rv.length
    exact wpAny_pyNext_list_end (I.ok.hd hc) st p.isList (by simp; omega) fun h' eb => ⟨rfl, I.turned (t' := s.toks) (fun b o hb e => eb b o hb e) f0 f1 f3 f4 f5⟩
  self := fun _ _ _ _ _ st h => wpAny_pyIter_listiter st h
end L2

namespace L2
open PySem PySem.Spec PyProof.Rows
section
variable {X : Cx} {tg : Expr}
def iList (K : PySem.W.Frag) (tl : TE) : TI := fun σ H R => tl σ H fun x H1 => ∃ a, x = .ref a ∧ (∃ xs, SqL K H1 a xs) ∧ R (Itl K a) H1
theorem pi_list {l : Expr} {tl : TE} (hl : PE X l tl) : PI X tg l (iList X.K tl) := by
  intro pins s σ H R I h
  refine thn (hl pins s σ H _ I h) fun v s1 ⟨x, H1, I1, r1, q1⟩ => ?_
  obtain ⟨a, e, ⟨xs, hq⟩, q⟩ := q1
  subst e
  cases r1
  obtain ⟨its, rv, p, hz⟩ := I1.list hq
  refine wpAny_pyIter_list p.isList ?_
  refine ⟨s1.heap.objs.size, [s1.heap.objs.size], _, _, H1, rfl, I1.kept (t' := s1.toks) fun b o e => Heap.get?_push_of_some _ e, turn_list a _, ⟨_, Heap.get?_push_size _ rfl, rfl, rfl⟩, fun b hb => ?_, q⟩
  have e : b = s1.heap.objs.size := by simpa using hb
  subst e
  exact I1.fpOk (Nat.le_refl _) (I1.hok.fresh (Nat.le_refl _))

/-! ### for -/
/-- W: the invariant by the turn and a measure; N: what the body is to reach -/
def tFor (wi : TI) (g : TG) (tb : TS) : TS := fun D σ H => wi σ H fun J H1 => ∃ W : Nat → Nat → St → Hp → Prop, (∃ m, W 0 m σ H1) ∧ ∀ i m σ H, W i m σ H →
  (J.stop i H ∧ D.nx σ H) ∨ (J.go i H ∧ ∃ N : St → Hp → Prop, (∀ σ' H', N σ' H' → ∃ m', m' < m ∧ W (i + 1) m' σ' H') ∧ ∀ x H', J.yld i H x H' → g x σ H' fun σ2 H2 => tb { D with nx := N, ct := N, bk := D.nx } σ2 H2)
/-- the records at fp as they stand -/
def pinsAt (fp : List Addr) (h : Heap) : List (Addr × Obj) := fp.filterMap fun b => (h.get? b).map fun o => (b, o)
theorem mem_pinsAt {fp : List Addr} {h : Heap} {b : Addr} {o : Obj} (hb : b ∈ fp) (e : h.get? b = some o) : (b, o) ∈ pinsAt fp h := List.mem_filterMap.mpr ⟨b, hb, by rw [e]; rfl⟩
theorem of_pinsAt {fp : List Addr} {h : Heap} {p : Addr × Obj} (hp : p ∈ pinsAt fp h) : p.1 ∈ fp ∧ h.get? p.1 = some p.2 := by
  obtain ⟨b, hb, e⟩ := List.mem_filterMap.mp hp
  cases q : h.get? b with
  | none => rw [q] at e; cases e
  | some o =>
    rw [q] at e
    have e' : (b, o) = p := Option.some.inj e
    subst e'
    exact ⟨hb, q⟩
theorem Inv.pinned {pins : List (Addr × Obj)} {σ : St} {H : Hp} {s : Shared} {fp : List Addr} (I : Inv X pins σ H s) (hf : ∀ b ∈ fp, FpOk X pins H b) (ho : ∀ b ∈ fp, ∃ o, s.heap.get? b = some o ∧ ∀ v, o.data ≠ .cell v) : Inv X (pins ++ pinsAt fp s.heap) σ H s :=
  I.pins_of fun p hp => (List.mem_append.mp hp).elim (fun z => I.pin p (List.mem_append_right _ z)) fun z => by
    obtain ⟨hb, e⟩ := of_pinsAt z
    obtain ⟨f0, f1, f2, _⟩ := hf p.1 hb
    obtain ⟨o, e', d⟩ := ho p.1 hb
    rw [e] at e'; cases e'
    exact ⟨e, f0, f1, f2, d⟩
theorem Inv.unpinned {pins pl : List (Addr × Obj)} {σ : St} {H : Hp} {s : Shared} (I : Inv X (pins ++ pl) σ H s) : Inv X pins σ H s := I.pins_of fun p hp => I.pin p (List.mem_append_right _ (List.mem_append_left _ hp))
theorem ps_for {iter : Expr} {body : List Stmt} {wi : TI} {g : TG} {tb : TS} {pos : Pos} (hp : PassesOwn (model X.prog X.w) X.A X.env X.xe) (hc : X.calm = true) (hi : PI X tg iter wi) (hg : PG X tg g) (hb : PSs X body tb)
    (hs : ∀ x, foldedSetIterable iter X.env x = pure x := by intro _; rfl) : PS X (.For tg iter body [] pos) (tFor wi g tb) := by
  intro pins s σ H D I h
  refine wpAny_For (thn (hi pins s σ H _ I h) fun v s1 h1 => thn h1 fun itv s2 h2 => ?_) hs
  obtain ⟨it, fp, tn, J, H2, e, I2, T, st2, f2, W, ⟨m0, w0⟩, turn⟩ := h2
  subst e
  -- what stays true of the iterator's objects through the loop
  have stat : ∀ {H' : Hp}, (∀ b ∈ fp, H' b = none) → ∀ b ∈ fp, FpOk X pins H' b := fun hn b hb => ⟨hn b hb, (f2 b hb).2⟩
  refine codeAny_forLoop_any (fun n s' => ∃ i σ' H', Inv X pins σ' H' s' ∧ tn i s'.heap ∧ (∀ b ∈ fp, H' b = none) ∧ W i n σ' H') ?_ m0 ⟨0, σ, H2, I2, st2, fun b hb => (f2 b hb).1, w0⟩
  rintro n s3 ⟨i, σ3, H3, I3, st3, fr3, w3⟩
  rcases turn i n σ3 H3 w3 with ⟨stop, qn⟩ | ⟨go, N, hN, step⟩
  · refine wpAny_passesOwn hp (thn (T.done X rfl rfl rfl hc i pins s3 σ3 H3 X.xe I3 (stat fr3) st3 stop) fun r s4 ⟨hr, I4⟩ => ?_)
    subst hr
    exact wpAny_execs_nil ⟨σ3, H3, I4, qn⟩
  · refine wpAny_passesOwn hp (thn (T.item X rfl rfl rfl hc i pins s3 σ3 H3 X.xe I3 (stat fr3) st3 go) fun r s4 ⟨u, hr, h4⟩ => ?_)
    subst hr
    refine wpAny_passesOwn hp (thn h4 fun _ s5 ⟨x, H5, I5, r5, y5, st5, fr5⟩ => ?_)
    have I5' := I5.pinned (stat fr5) (T.obj _ _ st5)
    refine wpAny_passesOwn hp (thn (hg _ s5 σ3 H5 x u _ I5' r5 (step x H5 y5)) fun _ s6 ⟨σ6, H6, I6, q6⟩ => ?_)
    refine wpAny_passesOwn hp (thn (hb _ s6 σ6 H6 _ I6 q6) fun f s7 q7 => ?_)
    have again : ∀ {σ7 : St} {H7 : Hp}, Inv X (pins ++ pinsAt fp s5.heap) σ7 H7 s7 → N σ7 H7 → ∃ m, m < n ∧ ∃ i σ' H', Inv X pins σ' H' s7 ∧ tn i s7.heap ∧ (∀ b ∈ fp, H' b = none) ∧ W i m σ' H' := fun {σ7 H7} I7 n7 => by
      obtain ⟨m', hm, w7⟩ := hN σ7 H7 n7
      refine ⟨m', hm, i + 1, σ7, H7, I7.unpinned, T.keep _ _ _ st5 fun b hb o e => (I7.pin (b, o) (List.mem_append_right _ (List.mem_append_right _ (mem_pinsAt hb e)))).1, fun b hb => ?_, w7⟩
      obtain ⟨o, e, d⟩ := T.obj _ _ st5 b hb
      exact (I7.pin (b, o) (List.mem_append_right _ (List.mem_append_right _ (mem_pinsAt hb e)))).2.1
    cases f with
    | next => obtain ⟨σ7, H7, I7, n7⟩ := q7; exact again I7 n7
    | cont => obtain ⟨σ7, H7, I7, n7⟩ := q7; exact again I7 n7
    | brk => obtain ⟨σ7, H7, I7, q7⟩ := q7; exact ⟨σ7, H7, I7.unpinned, q7⟩
    | ret v => obtain ⟨x7, σ7, H7, I7, r7, q7⟩ := q7; exact ⟨x7, σ7, H7, I7.unpinned, r7, q7⟩
end

/-! ### the forms one uses -/
/-- over a list that the body leaves as it is -/
theorem for_list {K : PySem.W.Frag} {a : Addr} {xs : List V} {g : TG} {tb : TS} {D : Ends} {σ : St} {H : Hp} (Pv : Nat → St → Hp → Prop) (h0 : Pv 0 σ H) (hl : ∀ i σ H, i ≤ xs.length → Pv i σ H → SqL K H a xs)
    (hs : ∀ i x σ H, xs[i]? = some x → Pv i σ H → g x σ H fun σ2 H2 => tb { D with nx := Pv (i + 1), ct := Pv (i + 1), bk := D.nx } σ2 H2) (hd : ∀ σ H, Pv xs.length σ H → D.nx σ H) :
    ∃ W : Nat → Nat → St → Hp → Prop, (∃ m, W 0 m σ H) ∧ ∀ i m σ H, W i m σ H →
      ((Itl K a).stop i H ∧ D.nx σ H) ∨ ((Itl K a).go i H ∧ ∃ N : St → Hp → Prop, (∀ σ' H', N σ' H' → ∃ m', m' < m ∧ W (i + 1) m' σ' H') ∧ ∀ x H', (Itl K a).yld i H x H' → g x σ H' fun σ2 H2 => tb { D with nx := N, ct := N, bk := D.nx } σ2 H2) := by
  refine ⟨fun i m σ H => m = xs.length - i ∧ i ≤ xs.length ∧ Pv i σ H, ⟨xs.length, by simp, Nat.zero_le _, h0⟩, ?_⟩
  rintro i m σ H ⟨rfl, hi, p⟩
  have q := hl i σ H hi p
  by_cases hlt : i < xs.length
  · refine .inr ⟨⟨xs, xs[i], q, by simp [hlt]⟩, Pv (i + 1), fun σ' H' p' => ⟨xs.length - (i + 1), by omega, rfl, hlt, p'⟩, fun x H' y => ?_⟩
    obtain ⟨e, y⟩ := y
    subst e
    exact hs i x σ _ (y xs q) p
  · have e : i = xs.length := by omega
    subst e
    exact .inl ⟨⟨xs, q, Nat.le_refl _⟩, hd σ H p⟩
end L2

namespace L2
open PySem PySem.Spec PyProof.Rows

abbrev R2 := V → V → Hp → VK → Prop
/-- a two-place operation on values: f is binaryOp op, inplaceOp op or compareOp op -/
def OpR (X : Cx) (f : Value → Value → Sem Value) (r : R2) : Prop :=
  ∀ (pins : List (Addr × Obj)) (s : Shared) (σ : St) (H : Hp) (x y : V) (v u : Value) (Q : VK), Inv X pins σ H s → RelV x v → RelV y u → r x y H Q →
    wpAny (model X.prog X.w) X.A (f v u) (EP X pins σ Q) X.xe s
/-- a call of a value that is known (a builtin, a type) with values -/
def CallR (X : Cx) (f : Value) (r : List V → Hp → VK → Prop) : Prop :=
  ∀ (pins : List (Addr × Obj)) (s : Shared) (σ : St) (H : Hp) (xs : List V) (us : List Value) (Q : VK), Inv X pins σ H s → Vals xs us → r xs H Q →
    wpAny (model X.prog X.w) X.A (call f us) (EP X pins σ Q) X.xe s

def tOp (r : R2) (ta tb : TE) : TE := fun σ H Q => ta σ H fun x H1 => tb σ H1 fun y H2 => r x y H2 Q
/-- ints in, under C, and a value out -/
def rI (C : Int → Int → Prop) (g : Int → Int → V) : R2 := fun x y H Q => ∃ i j, x = .int i ∧ y = .int j ∧ C i j ∧ Q (g i j) H
def rI0 (g : Int → Int → V) : R2 := fun x y H Q => ∃ i j, x = .int i ∧ y = .int j ∧ Q (g i j) H

section
variable {X : Cx} {a b c : Expr} {ta tb tc : TE} {pos : Pos}

theorem binT (ha : PE X a ta) (hb : PE X b tb) {pins : List (Addr × Obj)} {s : Shared} {σ : St} {H : Hp} {R : V → V → Hp → Prop} (I : Inv X pins σ H s)
    (h : ta σ H fun x H1 => tb σ H1 fun y H2 => R x y H2) {Q : Value → Shared → Prop} {f : Value → Value → Sem Value}
    (hf : ∀ v u s2 x y H2, Inv X pins σ H2 s2 → RelV x v → RelV y u → R x y H2 → wpAny (model X.prog X.w) X.A (f v u) Q X.xe s2) :
    wpAny (model X.prog X.w) X.A (eval a X.env) (fun v s₁ => wpAny (model X.prog X.w) X.A (eval b X.env) (fun u s₂ => wpAny (model X.prog X.w) X.A (f v u) Q X.xe s₂) X.xe s₁) X.xe s := by
  refine thn (ha pins s σ H _ I h) fun v s1 ⟨x, H1, I1, r1, q1⟩ => ?_
  refine thn (hb pins s1 σ H1 _ I1 q1) fun u s2 ⟨y, H2, I2, r2, q2⟩ => ?_
  exact hf v u s2 x y H2 I2 r1 r2 q2

theorem pe_op {op : Operator} {r : R2} (ho : OpR X (binaryOp op) r) (ha : PE X a ta) (hb : PE X b tb) : PE X (.BinOp a op b pos) (tOp r ta tb) := by
  intro pins s σ H Q I h
  exact wpAny_BinOp (binT ha hb I h fun v u s2 x y H2 I2 rx ry q => ho pins s2 σ H2 x y v u Q I2 rx ry q)

/-! ### ints -/
theorem opI {f : Value → Value → Sem Value} {C : Int → Int → Prop} {g : Int → Int → Int}
    (rule : ∀ (i j : Int) (t u : Tok) (s : Shared) (Q : Value → Shared → Prop) (E : Value → Shared → Prop), C i j → Q (.int (g i j) s.toks) { s with toks := s.toks + 1 } → wpAny (model X.prog X.w) X.A (f (.int i t) (.int j u)) Q E s) :
    OpR X f (rI C fun i j => .int (g i j)) := by
  intro pins s σ H x y v u Q I rx ry h
  obtain ⟨i, j, rfl, rfl, hc, q⟩ := h
  obtain ⟨t, rfl⟩ := rx
  obtain ⟨t', rfl⟩ := ry
  exact rule i j t t' s _ _ hc ⟨.int (g i j), H, I.tok _, ⟨_, rfl⟩, q⟩
theorem opI0 {f : Value → Value → Sem Value} {g : Int → Int → Int}
    (rule : ∀ (i j : Int) (t u : Tok) (s : Shared) (Q : Value → Shared → Prop) (E : Value → Shared → Prop), Q (.int (g i j) s.toks) { s with toks := s.toks + 1 } → wpAny (model X.prog X.w) X.A (f (.int i t) (.int j u)) Q E s) :
    OpR X f (rI0 fun i j => .int (g i j)) := by
  intro pins s σ H x y v u Q I rx ry h
  obtain ⟨i, j, rfl, rfl, q⟩ := h
  obtain ⟨t, rfl⟩ := rx
  obtain ⟨t', rfl⟩ := ry
  exact rule i j t t' s _ _ ⟨.int (g i j), H, I.tok _, ⟨_, rfl⟩, q⟩
theorem opB0 {f : Value → Value → Sem Value} {g : Int → Int → Bool}
    (rule : ∀ (i j : Int) (t u : Tok) (s : Shared) (Q : Value → Shared → Prop) (E : Value → Shared → Prop), Q (.bool (g i j)) s → wpAny (model X.prog X.w) X.A (f (.int i t) (.int j u)) Q E s) :
    OpR X f (rI0 fun i j => .bl (g i j)) := by
  intro pins s σ H x y v u Q I rx ry h
  obtain ⟨i, j, rfl, rfl, q⟩ := h
  obtain ⟨t, rfl⟩ := rx
  obtain ⟨t', rfl⟩ := ry
  exact rule i j t t' s _ _ ⟨.bl (g i j), H, I, rfl, q⟩

def CDiv (i j : Int) : Prop := 0 < j ∧ j < 1073741824
def CMul (i j : Int) : Prop := (-(2 ^ 64) < i ∧ i < 2 ^ 64) ∨ (-(2 ^ 64) < j ∧ j < 2 ^ 64)
theorem CMul.ok {i j : Int} (h : CMul i j) : IntMulOk i j := by
  rcases h with ⟨h1, h2⟩ | ⟨h1, h2⟩
  · exact .of_left (intBits_le_64 h1 h2)
  · exact .of_right (intBits_le_64 h1 h2)

theorem op_add : OpR X (binaryOp .Add) (rI0 fun i j => .int (i + j)) := opI0 fun _ _ _ _ _ _ _ q => add_int q
theorem op_sub : OpR X (binaryOp .Sub) (rI0 fun i j => .int (i - j)) := opI0 fun _ _ _ _ _ _ _ q => sub_int q
theorem op_mul : OpR X (binaryOp .Mult) (rI CMul fun i j => .int (i * j)) := opI fun _ _ _ _ _ _ _ hc q => mul_int q hc.ok
/-- // by a positive divisor -/
theorem op_fdiv : OpR X (binaryOp .FloorDiv) (rI CDiv fun i j => .int (i / j)) := opI fun i j _ _ _ _ _ hc q => by
  have h1 : (0 : Int) < j := hc.1
  have h2 : j < 1073741824 := hc.2
  exact floordiv_int (by omega) (by rw [Int.fdiv_eq_ediv_of_nonneg i (by omega)]; exact q) (.inl (PyProof.noPylong_small (by omega)))
/-- % by a positive divisor of any size -/
theorem op_mod : OpR X (binaryOp .Mod) (rI (fun _ j => 0 < j) fun i j => .int (i % j)) := opI fun i j _ _ _ _ _ hc q => by
  have h1 : (0 : Int) < j := hc
  exact mod_int' (by omega) (by rw [Int.fmod_eq_emod_of_nonneg i (by omega)]; exact q)



/-! ### bools among ints: n += (a < b) -/
end

/-! ### comparisons -/
/-- the scalars that == tells apart as data does -/
def scal : V → V → Bool
  | .non, .non => true | .non, .int _ => true | .int _, .non => true | .non, .bl _ => true | .bl _, .non => true | .non, .str _ => true | .str _, .non => true
  | .int _, .int _ => true | .bl _, .bl _ => true | .str _, .str _ => true | .byt _, .byt _ => true
  | .int _, .str _ => true | .str _, .int _ => true | .bl _, .str _ => true | .str _, .bl _ => true
  | _, _ => false
def rEq : R2 := fun x y H Q => scal x y = true ∧ Q (.bl (decide (x = y))) H
def rNe : R2 := fun x y H Q => scal x y = true ∧ Q (.bl (!decide (x = y))) H

theorem dec_int {i j : Int} : decide (V.int i = V.int j) = (i == j) := by
  rw [Bool.eq_iff_iff]
  simp
theorem dec_bl {i j : Bool} : decide (V.bl i = V.bl j) = (i == j) := by
  rw [Bool.eq_iff_iff]
  simp
theorem dec_str {i j : Str} : decide (V.str i = V.str j) = (i == j) := by
  rw [Bool.eq_iff_iff]
  simp
theorem dec_byt {i j : Array UInt8} : decide (V.byt i = V.byt j) = (i.toList == j.toList) := by
  rw [Bool.eq_iff_iff]
  cases i
  cases j
  simp

section
variable {X : Cx} {a b c : Expr} {ta tb tc : TE} {pos : Pos}
theorem fin_bl {pins : List (Addr × Obj)} {σ : St} {H : Hp} {s : Shared} {Q : VK} {k k' : Bool} (I : Inv X pins σ H s) (q : Q (.bl k) H) (e : k = k') : EP X pins σ Q (.bool k') s := by
  subst e
  exact ⟨.bl k, H, I, rfl, q⟩
theorem op_eq : OpR X (compareOp .Eq) rEq := by
  intro pins s σ H x y v u Q I rx ry h
  obtain ⟨hs, q⟩ := h
  cases x with
  | non =>
    cases rx
    cases y with
    | non => cases ry; exact PySem.EqNone.eq_none_none (fin_bl I q (by simp))
    | bl j => cases ry; exact PySem.EqNone.eq_none_bool (fin_bl I q (by simp))
    | int j => obtain ⟨t', rfl⟩ := ry; exact PySem.EqNone.eq_none_int (fin_bl I q (by simp))
    | str j => obtain ⟨t', rfl⟩ := ry; exact PySem.EqNone.eq_none_str (fin_bl I q (by simp))
    | _ => exact absurd (show false = true from hs) Bool.false_ne_true
  | bl i =>
    cases rx
    cases y with
    | non => cases ry; exact PySem.EqNone.eq_bool_none (fin_bl I q (by simp))
    | bl j => cases ry; exact eq_bool (fin_bl I q dec_bl)
    | str j => obtain ⟨t', rfl⟩ := ry; exact PySem.EqMixed.eq_bool_str (fin_bl I q (by simp))
    | _ => exact absurd (show false = true from hs) Bool.false_ne_true
  | int i =>
    obtain ⟨t, rfl⟩ := rx
    cases y with
    | non => cases ry; exact PySem.EqNone.eq_int_none (fin_bl I q (by simp))
    | int j => obtain ⟨t', rfl⟩ := ry; exact eq_int (fin_bl I q dec_int)
    | str j => obtain ⟨t', rfl⟩ := ry; exact PySem.EqMixed.eq_int_str (fin_bl I q (by simp))
    | _ => exact absurd (show false = true from hs) Bool.false_ne_true
  | str i =>
    obtain ⟨t, rfl⟩ := rx
    cases y with
    | non => cases ry; exact PySem.EqNone.eq_str_none (fin_bl I q (by simp))
    | bl j => cases ry; exact PySem.EqMixed.eq_str_bool (fin_bl I q (by simp))
    | int j => obtain ⟨t', rfl⟩ := ry; exact PySem.EqMixed.eq_str_int (fin_bl I q (by simp))
    | str j => obtain ⟨t', rfl⟩ := ry; exact eq_str (fin_bl I q dec_str)
    | _ => exact absurd (show false = true from hs) Bool.false_ne_true
  | byt i =>
    obtain ⟨t, rfl⟩ := rx
    cases y with
    | byt j => obtain ⟨t', rfl⟩ := ry; exact PySem.W.eq_bytes (fin_bl I q dec_byt)
    | _ => exact absurd (show false = true from hs) Bool.false_ne_true
  | _ => cases y <;> exact absurd (show false = true from hs) Bool.false_ne_true
theorem op_ne : OpR X (compareOp .NotEq) rNe := by
  intro pins s σ H x y v u Q I rx ry h
  obtain ⟨hs, q⟩ := h
  cases x with
  | non =>
    cases rx
    cases y with
    | non => cases ry; exact PySem.EqNone.ne_none_none (fin_bl I q (by simp))
    | bl j => cases ry; exact PySem.EqNone.ne_none_bool (fin_bl I q (by simp))
    | int j => obtain ⟨t', rfl⟩ := ry; exact PySem.EqNone.ne_none_int (fin_bl I q (by simp))
    | str j => obtain ⟨t', rfl⟩ := ry; exact PySem.EqNone.ne_none_str (fin_bl I q (by simp))
    | _ => exact absurd (show false = true from hs) Bool.false_ne_true
  | bl i =>
    cases rx
    cases y with
    | non => cases ry; exact PySem.EqNone.ne_bool_none (fin_bl I q (by simp))
    | bl j => cases ry; exact ne_bool (fin_bl I q (congrArg not dec_bl))
    | str j => obtain ⟨t', rfl⟩ := ry; exact PySem.EqMixed.ne_bool_str (fin_bl I q (by simp))
    | _ => exact absurd (show false = true from hs) Bool.false_ne_true
  | int i =>
    obtain ⟨t, rfl⟩ := rx
    cases y with
    | non => cases ry; exact PySem.EqNone.ne_int_none (fin_bl I q (by simp))
    | int j => obtain ⟨t', rfl⟩ := ry; exact ne_int (fin_bl I q (congrArg not dec_int))
    | str j => obtain ⟨t', rfl⟩ := ry; exact PySem.EqMixed.ne_int_str (fin_bl I q (by simp))
    | _ => exact absurd (show false = true from hs) Bool.false_ne_true
  | str i =>
    obtain ⟨t, rfl⟩ := rx
    cases y with
    | non => cases ry; exact PySem.EqNone.ne_str_none (fin_bl I q (by simp))
    | bl j => cases ry; exact PySem.EqMixed.ne_str_bool (fin_bl I q (by simp))
    | int j => obtain ⟨t', rfl⟩ := ry; exact PySem.EqMixed.ne_str_int (fin_bl I q (by simp))
    | str j => obtain ⟨t', rfl⟩ := ry; exact ne_str (fin_bl I q (congrArg not dec_str))
    | _ => exact absurd (show false = true from hs) Bool.false_ne_true
  | byt i =>
    obtain ⟨t, rfl⟩ := rx
    cases y with
    | byt j => obtain ⟨t', rfl⟩ := ry; exact PySem.W.ne_bytes (fin_bl I q (congrArg not dec_byt))
    | _ => exact absurd (show false = true from hs) Bool.false_ne_true
  | _ => cases y <;> exact absurd (show false = true from hs) Bool.false_ne_true

theorem op_lt : OpR X (compareOp .Lt) (rI0 fun i j => .bl (decide (i < j))) := opB0 fun _ _ _ _ _ _ _ q => lt_int q
theorem op_le : OpR X (compareOp .LtE) (rI0 fun i j => .bl (decide (i ≤ j))) := opB0 fun _ _ _ _ _ _ _ q => le_int q
theorem op_gt : OpR X (compareOp .Gt) (rI0 fun i j => .bl (decide (j < i))) := opB0 fun _ _ _ _ _ _ _ q => gt_int q
theorem op_ge : OpR X (compareOp .GtE) (rI0 fun i j => .bl (decide (j ≤ i))) := opB0 fun _ _ _ _ _ _ _ q => ge_int q

/-- is None, is not None: the right side a value none -/
theorem op_isN : OpR X (compareOp .Is) (fun x y H Q => y = .non ∧ Q (.bl (decide (x = .non))) H) := by
  intro pins s σ H x y v u Q I rx ry h
  obtain ⟨rfl, q⟩ := h
  cases ry
  refine is_none_gen (fin_bl I q ?_)
  cases x <;> first
    | (cases rx; rfl)
    | (obtain ⟨t, rfl⟩ := rx; rfl)



theorem nomark (b : Expr) {op : CmpOp} (h : op ≠ .In := by decide) (h2 : op ≠ .NotIn := by decide) : behindInMarks op b = false := by
  have e1 : (op == CmpOp.In) = false := by cases op <;> first | rfl | exact absurd rfl h
  have e2 : (op == CmpOp.NotIn) = false := by cases op <;> first | rfl | exact absurd rfl h2
  cases b <;> simp [behindInMarks, e1, e2]
/-- a comparison as a value; hm: nomark b, or (for in, not in) by with_unfolding_all rfl -/
theorem pe_cmpR {op : CmpOp} {r : R2} (ho : OpR X (compareOp op) r) (ha : PE X a ta) (hb : PE X b tb) (hm : behindInMarks op b = false) : PE X (.Compare a [op] [b] pos) (tOp r ta tb) := by
  intro pins s σ H Q I h
  exact wpAny_Compare1 (binT ha hb I h fun v u s2 x y H2 I2 rx ry q => ho pins s2 σ H2 x y v u Q I2 rx ry q) hm
/-- a reading of a value as a test -/
def tTest (t : TE) : TT := fun σ H Q => t σ H fun x H' => ∃ k, x = .bl k ∧ Q k H'
theorem pt_cmpR {op : CmpOp} {r : R2} (ho : OpR X (compareOp op) r) (ha : PE X a ta) (hb : PE X b tb) (hm : behindInMarks op b = false) : PT X (.Compare a [op] [b] pos) (tTest (tOp r ta tb)) := by
  intro pins s σ H Q I h
  refine wpAny_isTrue_Compare1 (thn (ha pins s σ H _ I h) fun v s1 ⟨x, H1, I1, r1, q1⟩ => thn (hb pins s1 σ H1 _ I1 q1) fun u s2 ⟨y, H2, I2, r2, q2⟩ =>
    thn (ho pins s2 σ H2 x y v u _ I2 r1 r2 q2) fun c s3 ⟨z, H3, I3, r3, k, e, q3⟩ => ?_) hm
  subst e
  cases r3
  exact wpAny_truthy_bool ⟨H3, I3, q3⟩
/-- a op1 b op2 c -/
def tChain (r r' : R2) (ta tb tc : TE) : TE := fun σ H Q => ta σ H fun x H1 => tb σ H1 fun y H2 => r x y H2 fun z H3 => ∃ k, z = .bl k ∧
  (if k = true then tc σ H3 fun w' H4 => r' y w' H4 Q else Q (.bl false) H3)
theorem pe_chain {op op' : CmpOp} {r r' : R2} (ho : OpR X (compareOp op) r) (ho' : OpR X (compareOp op') r') (ha : PE X a ta) (hb : PE X b tb) (hc : PE X c tc)
    (hm : lastMarks [op, op'] [b, c] = false := by with_unfolding_all rfl) : PE X (.Compare a [op, op'] [b, c] pos) (tChain r r' ta tb tc) := by
  intro pins s σ H Q I h
  refine Compare_chain (thn (ha pins s σ H _ I h) fun v s1 ⟨x, H1, I1, r1, q1⟩ => chain_link (thn (hb pins s1 σ H1 _ I1 q1) fun u s2 ⟨y, H2, I2, r2, q2⟩ =>
    thn (ho pins s2 σ H2 x y v u _ I2 r1 r2 q2) fun d s3 ⟨z, H3, I3, r3, k, e, q3⟩ => ?_)) hm
  subst e
  cases r3
  refine wpAny_truthy_bool ?_
  cases k with
  | false => exact ite_ff ⟨.bl false, H3, I3, rfl, q3⟩
  | true => exact ite_tt (chain_last (thn (hc pins s3 σ H3 _ I3 q3) fun w' s4 ⟨z', H4, I4, r4, q4⟩ => ho' pins s4 σ H4 y z' u w' Q I4 r2 r4 q4))

/-! ### truth -/
theorem line63 : (sizeLine : Nat) < 2 ^ 63 := by rw [sizeLine_eq]; decide

/-! ### strs and bytes -/


/-! ### scalar builtins, by CallR -/
theorem vals1 {x : V} {us : List Value} (r : Vals [x] us) : ∃ u, us = [u] ∧ RelV x u := by
  cases r with
  | cons r1 r2 => cases r2; exact ⟨_, rfl, r1⟩
theorem vals2 {x y : V} {us : List Value} (r : Vals [x, y] us) : ∃ u w', us = [u, w'] ∧ RelV x u ∧ RelV y w' := by
  cases r with
  | cons r1 r2 =>
    cases r2 with
    | cons r3 r4 => cases r4; exact ⟨_, _, rfl, r1, r3⟩
theorem call_abs : CallR X (.builtin "abs") (fun xs H Q => ∃ i, xs = [.int i] ∧ Q (.int (if i < 0 then -i else i)) H) := by
  intro pins s σ H xs us Q I r h
  obtain ⟨i, rfl, q⟩ := h
  obtain ⟨u, rfl, t, rfl⟩ := vals1 r
  exact call_abs_int fun u tk => ⟨.int (if i < 0 then -i else i), H, I.tok _, ⟨_, rfl⟩, q⟩
theorem call_max2 (hc : X.calm = true) : CallR X (.builtin "max") (fun xs H Q => ∃ i j, xs = [.int i, .int j] ∧ Q (.int (if j > i then j else i)) H) := by
  intro pins s σ H xs us Q I r h
  obtain ⟨i, j, rfl, q⟩ := h
  obtain ⟨u, w', rfl, ⟨t, rfl⟩, ⟨t', rfl⟩⟩ := vals2 r
  refine max_two_ints (I.ok.hd hc) fun h' tk k => ⟨_, H, I.kept k, ?_, q⟩
  by_cases hj : j > i
  · rw [if_pos hj, if_pos hj]; exact ⟨_, rfl⟩
  · rw [if_neg hj, if_neg hj]; exact ⟨_, rfl⟩
end
end L2

namespace L2
open PySem PySem.Spec PyProof.Rows

/-! ### an instance, its attributes a map -/
structure ObjM (h : Heap) (x dx C : Addr) (mA : Str → Option Value) : Prop where
  obj : h.get? x = some (PySem.W.instObj C dx)
  ns : h.Ns1 dx mA
  ne : dx ≠ x

theorem lookIn_ns {h : Heap} {dx : Addr} {mA : Str → Option Value} (n : h.Ns1 dx mA) : ∃ od, h.get? dx = some od ∧ ∀ name, PySem.W.lookIn name od = some (mA name) := by
  obtain ⟨o, es, ep, ho, hd, hk, _, hm⟩ := n
  refine ⟨o, ho, fun name => ?_⟩
  have e := hm name
  unfold nsFind findBy at e
  rw [← Array.find?_toList] at e
  unfold PySem.W.lookIn
  rw [hd]
  dsimp only
  split
  · rename_i y q
    rw [q] at e
    exact congrArg some e
  · rename_i q
    rw [q] at e
    have a : es.toList.any (·.refKey) = false := by
      rw [List.any_eq_false]
      intro y hy
      obtain ⟨z, t, hkey⟩ := hk y (Array.mem_toList_iff.mp hy)
      simp [DictEntry.refKey, hkey]
    have a' : ¬ es.toList.any (·.refKey) = true := by rw [a]; exact Bool.false_ne_true
    rw [if_neg a']
    exact congrArg some e

theorem ObjM.look {h : Heap} {x dx C : Addr} {mA : Str → Option Value} (I : ObjM h x dx C mA) : ∃ od, PySem.W.InstAt h x (PySem.W.instObj C dx) C (some od) ∧ ∀ name, PySem.W.lookIn name od = some (mA name) :=
  let ⟨od, ho, hl⟩ := lookIn_ns I.ns
  ⟨od, ⟨I.obj, rfl, rfl, ho⟩, hl⟩

section
variable {prog : Program} {w : World} {A : Around} {E : Value → Shared → Prop} {s : Shared} {K : PySem.W.Frag} {x dx C f : Addr} {mA : Str → Option Value} {name : Str} {v : Value}

theorem get_map {expr : Bool} {Q : Value → Shared → Prop} (X : K.In s.heap) (I : ObjM s.heap x dx C mA) (hg : PySem.W.plainGet K C name = true) (hh : PySem.W.hasDictIn K C = true)
    (ha : PySem.W.findIn K (.ref C) name = some none) (hv : mA name = some v) (hv' : PySem.W.handedIn v = true) (h : Q v { s with toks := s.toks + 1 }) :
    wpAny (model prog w) A (getAttr (.ref x) name expr) Q E s := by
  obtain ⟨od, J, hl⟩ := I.look
  exact PySem.W.get_value X J (PySem.W.plainGet_of hg).1 (PySem.W.findObj_own hh ha rfl (by rw [hl, hv])) hv' h


theorem get_meth {pl : Sem Bool} {Q : Value × List Value → Shared → Prop} (X : K.In s.heap) (I : ObjM s.heap x dx C mA) (hg : PySem.W.plainGet K C name = true)
    (hf : PySem.W.findIn K (.ref C) name = some (some (.ref f))) (ht : PySem.W.isFn K (.ref f) = true) (hv : mA name = none) (h : Q (.ref f, [.ref x]) s) :
    wpAny (model prog w) A (getMethod (.ref x) name pl) Q E s := by
  obtain ⟨od, J, hl⟩ := I.look
  exact PySem.W.method_fn X J (PySem.W.plainGet_of hg).1 (PySem.W.plainGet_of hg).2 hf (beq_iff_eq.mp ht) (by show (PySem.W.lookIn name od).map (·.isSome) = some false; rw [hl, hv]; rfl) h

theorem set_map {ns : List Str} {Q : Unit → Shared → Prop} (X : K.In s.heap) (I : ObjM s.heap x dx C mA)
    (hs : PySem.W.findIn K (.ref C) "__setattr__" = some (some (.builtin "object.__setattr__"))) (hp : PySem.W.plainOver K C = true) (ht : PySem.W.takerIn K C name = some none) (hh : PySem.W.hasDictIn K C = true)
    (hw : PySem.Within mA ns) (hsz : ns.length ≤ sizeLine)
    (h : ∀ h', ObjM h' x dx C (fun y => if y = name then some v else mA y) → Heap.SameBut dx s.heap h' → Q () { s with heap := h', toks := s.toks + 2 }) :
    wpAny (model prog w) A (setAttr (.ref x) name v) Q E s := by
  obtain ⟨od, J, hl⟩ := I.look
  refine PySem.W.set_plain X J hs (PySem.W.osa_open (s := { s with toks := s.toks + 1 }) (r := none) X J hp ht fun b => ?_)
  obtain ⟨cd, hc, hd'⟩ := PySem.W.any_some hh
  have hx : s.heap.get? x = some ⟨.ref C, some dx, .plain, #[]⟩ := I.obj
  refine wpAny_bind (wpAny_pure (wpAny_bind (wpAny_bind (wpAny_loadPart hx (wpAny_bind (PySem.W.Looks.here (s := { s with toks := s.toks + 1 }) (PySem.W.looks_clsIn X hc) ?_))))))
  rw [hd']
  refine wpAny_pure (a := some dx) (wpAny_bind (wpAny_pure (wpAny_bind ?_)))
  refine wpAny_nsSet1 (s := { s with toks := s.toks + 1 }) I.ns fun h' hn2 hs2 => ?_
  obtain ⟨oD, esD, epD, hoD, hdD, hcD⟩ := hn2.count (PySem.Within.cons name v hw)
  refine wpAny_bind (wpAny_lookBehind hoD (by rw [hdD]; exact pastItsLine_dict (Nat.le_trans hcD (by rw [List.length_cons]; omega))) ?_)
  exact wpAny_pure (h _ ⟨(hs2.2 _ (Ne.symm I.ne)).trans I.obj, hn2, I.ne⟩ hs2)

/-- C(..): the dict at the heap's end, the instance behind it; then its __init__ -/
theorem make_map {R : Result → Shared → Prop} {vs : List Value} {kw : List (Str × Value)} (X : K.In s.heap) (hm : PySem.W.makesIn K C = true)
    (hi : PySem.W.findIn K (.ref C) "__init__" = some (some (.ref f))) (hf : PySem.W.typeIn K (.ref f) = some (.type "function"))
    (h : codeAny (model prog w) (A.under (.builtin "type.__call__" ⟨.ref C :: vs, kw⟩)) (.call (.ref f) ⟨.ref (s.heap.objs.size + 1) :: vs, kw⟩) (PySem.W.InitBack (s.heap.objs.size + 1) R)
      { s with heap := (s.heap.push PySem.W.emptyDict).push (PySem.W.instObj C s.heap.objs.size) }) :
    codeAny (model prog w) A (.call (.ref C) ⟨vs, kw⟩) R s := by
  obtain ⟨hh, g, d, t, os⟩ := s
  exact PySem.W.make_core (PySem.W.makes_of X hm) (PySem.W.looks_findIn X hi) (fun self => PySem.W.bind_fn X self hf) (.inl rfl) h
end

/-! ### the attributes as a list of pairs -/
def putF (f : Str) (v : V) : List (Str × V) → List (Str × V)
  | [] => [(f, v)]
  | (g, x) :: r => if g = f then (g, v) :: r else (g, x) :: putF f v r
theorem lookup_putF (f g : Str) (v : V) : ∀ fs : List (Str × V), (putF f v fs).lookup g = if g = f then some v else fs.lookup g
  | [] => by
    show List.lookup g [(f, v)] = _
    by_cases h : g = f
    · have hb : (g == f) = true := beq_iff_eq.mpr h
      simp only [List.lookup, hb, if_pos h]
    · have hb : (g == f) = false := beq_eq_false_iff_ne.mpr h
      simp only [List.lookup, hb, if_neg h]
  | (k, x) :: r => by
    have ih := lookup_putF f g v r
    rw [show putF f v ((k, x) :: r) = (if k = f then (k, v) :: r else (k, x) :: putF f v r) from rfl]
    by_cases hk : k = f
    · rw [if_pos hk]
      by_cases h : g = k
      · have hb : (g == k) = true := beq_iff_eq.mpr h
        simp only [List.lookup, hb, if_pos (h.trans hk)]
      · have hb : (g == k) = false := beq_eq_false_iff_ne.mpr h
        simp only [List.lookup, hb, if_neg (fun e : g = f => h (e.trans hk.symm))]
    · rw [if_neg hk]
      by_cases h : g = k
      · have hb : (g == k) = true := beq_iff_eq.mpr h
        simp only [List.lookup, hb, if_neg (fun e : g = f => hk (h.symm.trans e))]
      · have hb : (g == k) = false := beq_eq_false_iff_ne.mpr h
        simp only [List.lookup, hb]
        exact ih
theorem keys_putF (f : Str) (v : V) : ∀ fs : List (Str × V), f ∈ (putF f v fs).map (·.1) ∧ ∀ g, g ∈ fs.map (·.1) → g ∈ (putF f v fs).map (·.1)
  | [] => ⟨by simp [putF], fun g h => by simp at h⟩
  | (k, x) :: r => by
    obtain ⟨i1, i2⟩ := keys_putF f v r
    rw [show putF f v ((k, x) :: r) = (if k = f then (k, v) :: r else (k, x) :: putF f v r) from rfl]
    by_cases hk : k = f
    · rw [if_pos hk]
      subst hk
      exact ⟨by simp, fun g h => by simpa using h⟩
    · rw [if_neg hk]
      refine ⟨?_, fun g h => ?_⟩
      · rw [List.map_cons]
        exact List.mem_cons_of_mem _ i1
      · rw [List.map_cons] at h ⊢
        rcases List.mem_cons.mp h with e | e
        · exact List.mem_cons.mpr (.inl e)
        · exact List.mem_cons_of_mem _ (i2 g e)
theorem length_putF (f : Str) (v : V) : ∀ fs : List (Str × V), (putF f v fs).length ≤ fs.length + 1
  | [] => by simp [putF]
  | (k, x) :: r => by
    have ih := length_putF f v r
    rw [show putF f v ((k, x) :: r) = (if k = f then (k, v) :: r else (k, x) :: putF f v r) from rfl]
    by_cases hk : k = f
    · rw [if_pos hk, List.length_cons, List.length_cons]; omega
    · rw [if_neg hk, List.length_cons, List.length_cons]; omega

theorem RelO.some_of {v : V} {o : Option Value} (r : RelO (some v) o) : ∃ u, o = some u ∧ RelV v u := by
  cases o with
  | none => exact (show False from r).elim
  | some u => exact ⟨u, rfl, r⟩
theorem RelO.none_of {o : Option Value} (r : RelO none o) : o = none := by
  cases o with
  | none => rfl
  | some u => exact (show False from r).elim
theorem handed_of {v : V} {u : Value} (r : RelV v u) : PySem.W.handedIn u = true := by
  cases v with
  | non => cases (show u = Value.none from r); rfl
  | bl b => cases (show u = Value.bool b from r); rfl
  | int i => obtain ⟨t, e⟩ := (show ∃ t, u = Value.int i t from r); cases e; rfl
  | str x => obtain ⟨t, e⟩ := (show ∃ t, u = Value.str x t from r); cases e; rfl
  | byt b => obtain ⟨t, e⟩ := (show ∃ t, u = Value.bytes b t from r); cases e; rfl
  | flt b => obtain ⟨t, e⟩ := (show ∃ t, u = Value.float b t from r); cases e; rfl
  | ref a => cases (show u = Value.ref a from r); rfl
  | ty n => cases (show u = Value.type n from r); rfl

section
variable {P : Program} {w : World} {H H' : Hp} {h h' : Heap} {a C dx : Addr} {fs fs' : List (Str × V)}
theorem ins_get (hok : HOk P w H h) (e : H a = some (.ins C dx fs)) : ∃ mA, ObjM h a dx C mA ∧ (∀ f, RelO (fs.lookup f) (mA f)) ∧ PySem.Within mA (fs.map (·.1)) ∧ fs.length ≤ 1000 ∧ H dx = some (.own a) := by
  obtain ⟨d, z, ne, ob, mA, n, r, q⟩ := (show ObjOk P w H h a (.ins C dx fs) from hok a _ e)
  exact ⟨mA, ⟨ob, n, ne⟩, r, q, z, d⟩
end

/-! ### what of the text a class must have -/
structure Cls (K : PySem.W.Frag) (C : Addr) : Prop where
  pg : PySem.W.plainGet K C Str.empty = true
  hd : PySem.W.hasDictIn K C = true
  po : PySem.W.plainOver K C = true
  sa : PySem.W.findIn K (.ref C) "__setattr__" = some (some (.builtin "object.__setattr__"))
theorem Cls.get {K : PySem.W.Frag} {C : Addr} (c : Cls K C) (f : Str) : PySem.W.plainGet K C f = true := c.pg
/-- no class of it has the name -/
def NoAttr (K : PySem.W.Frag) (C : Addr) (f : Str) : Prop := PySem.W.findIn K (.ref C) f = some none
theorem NoAttr.taker {K : PySem.W.Frag} {C : Addr} {f : Str} (n : NoAttr K C f) : PySem.W.takerIn K C f = some none := by
  unfold PySem.W.takerIn
  rw [show PySem.W.findIn K (.ref C) f = some none from n]
  rfl
/-- a method: a plain def of the class or of one above it -/
structure Meth (K : PySem.W.Frag) (C : Addr) (m : Str) (f : Addr) : Prop where
  at_ : PySem.W.findIn K (.ref C) m = some (some (.ref f))
  fn : PySem.W.isFn K (.ref f) = true
  kp : PySem.W.keepIn K (.ref f) = true

section
variable {X : Cx} {pins : List (Addr × Obj)} {σ : St} {H : Hp} {s : Shared} {a C dx : Addr} {fs : List (Str × V)} {f : Str} {v : V} {A : Around} {E : Value → Shared → Prop}

theorem getattr_ok {b : Bool} {Q : Value → Shared → Prop} (I : Inv X pins σ H s) (e : H a = some (.ins C dx fs)) (c : Cls X.K C) (n : NoAttr X.K C f) (l : fs.lookup f = some v)
    (h : ∀ u s', Inv X pins σ H s' → RelV v u → Q u s') : wpAny (model X.prog X.w) A (getAttr (.ref a) f b) Q E s := by
  obtain ⟨mA, O, r, _, _, _⟩ := ins_get I.hok e
  obtain ⟨u, hu, ru⟩ := RelO.some_of (v := v) (o := mA f) (by rw [← l]; exact r f)
  exact get_map I.kIn O (c.get f) c.hd n hu (handed_of ru) (h u _ (I.tok _) ru)


theorem getmeth_ok {m : Str} {g : Addr} {pl : Sem Bool} {Q : Value × List Value → Shared → Prop} (I : Inv X pins σ H s) (e : H a = some (.ins C dx fs)) (c : Cls X.K C) (k : Meth X.K C m g) (l : fs.lookup m = none)
    (h : Q (.ref g, [.ref a]) s) : wpAny (model X.prog X.w) A (getMethod (.ref a) m pl) Q E s := by
  obtain ⟨mA, O, r, _, _, _⟩ := ins_get I.hok e
  have hn : mA m = none := RelO.none_of (by rw [← l]; exact r m)
  exact get_meth I.kIn O (c.get m) k.at_ k.fn hn h

theorem setattr_ok {y : V} {u : Value} {Q : Unit → Shared → Prop} (I : Inv X pins σ H s) (e : H a = some (.ins C dx fs)) (c : Cls X.K C) (n : NoAttr X.K C f) (hl : fs.length < 1000) (ry : RelV y u)
    (h : ∀ s', Inv X pins σ (upd H a (.ins C dx (putF f y fs))) s' → Q () s') : wpAny (model X.prog X.w) A (setAttr (.ref a) f u) Q E s := by
  obtain ⟨mA, O, r, wi, _, ho⟩ := ins_get I.hok e
  have hz : (fs.map (·.1)).length ≤ sizeLine := by rw [List.length_map, sizeLine_eq]; omega
  refine set_map I.kIn O c.sa c.po n.taker c.hd wi hz fun h' O' sb => h _ ?_
  have hd : ∃ o, h'.get? dx = some o := let ⟨o, _, _, e', _⟩ := O'.ns; ⟨o, e'⟩
  refine I.write (x := a) (e := dx) (by rw [e]; exact True.intro) (.inr ho) (fun b q hb z => (sb.2 b hb).trans z) hd ?_
  refine ⟨by rw [upd_ne O.ne]; exact ho, ?_, O.ne, O'.obj, _, O'.ns, fun g => ?_, fun g hg => ?_⟩
  · have := length_putF f y fs; omega
  · show RelO ((putF f y fs).lookup g) (if g = f then some u else mA g)
    rw [lookup_putF]
    by_cases q : g = f
    · rw [if_pos q, if_pos q]; exact ry
    · rw [if_neg q, if_neg q]; exact r g
  · by_cases q : g = f
    · rw [q]; exact (keys_putF f y fs).1
    · refine (keys_putF f y fs).2 g (wi g fun z => hg ?_)
      show (if g = f then some u else mA g) = none
      rw [if_neg q]; exact z

/-- a new instance, tracked, without attributes -/
theorem Inv.made (I : Inv X pins σ H s) : Inv X pins σ (upd (upd H s.heap.objs.size (.own (s.heap.objs.size + 1))) (s.heap.objs.size + 1) (.ins C s.heap.objs.size []))
    { s with heap := (s.heap.push PySem.W.emptyDict).push (PySem.W.instObj C s.heap.objs.size) } := by
  have e1 : (s.heap.push PySem.W.emptyDict).get? s.heap.objs.size = some PySem.W.emptyDict := Heap.get?_push_size s.heap rfl
  have e2 : ((s.heap.push PySem.W.emptyDict).push (PySem.W.instObj C s.heap.objs.size)).get? (s.heap.objs.size + 1) = some (PySem.W.instObj C s.heap.objs.size) := by
    have := Heap.get?_push_size (s.heap.push PySem.W.emptyDict) (o := PySem.W.instObj C s.heap.objs.size) rfl
    rwa [Heap.size_push] at this
  have e3 : (s.heap.push PySem.W.emptyDict).Ns s.heap.objs.size (fun _ => none) := ⟨PySem.W.emptyDict, #[], _, e1, rfl, (fun e he => absurd he (by simp)), fun _ => rfl⟩
  have I1 := I.laid (a := s.heap.objs.size) (o := .own (s.heap.objs.size + 1)) (h' := s.heap.push PySem.W.emptyDict) (t' := s.toks) (fun b u q => Heap.get?_push_of_some _ q) (Nat.le_refl _) ⟨_, e1⟩
  refine I1.laid (a := s.heap.objs.size + 1) (o := .ins C s.heap.objs.size []) (t' := s.toks) (fun b u q => Heap.get?_push_of_some _ q) (Nat.le_of_eq (Heap.size_push _ _)) ?_
  have ne : s.heap.objs.size ≠ s.heap.objs.size + 1 := Nat.ne_of_lt (Nat.lt_succ_self _)
  refine ⟨by rw [upd_ne ne, upd_same], Nat.zero_le _, ne, e2, fun _ => none, (Heap.Ns1.of_empty e3).at fun o q => Heap.get?_push_of_some _ q, fun _ => True.intro, fun y hy => absurd rfl hy⟩

/-- e.f where nothing but the object is asked: through attributeBase (super) and the last hold -/
theorem attr_of {prog : Program} {w : World} {env : Env} {e : Expr} {f : Str} {pos : Pos} {s : Shared} {Q : Value → Shared → Prop} (hb : attributeBase e f env (eval e env) = eval e env)
    (h : wpAny (model prog w) A (eval e env) (fun o s₁ => wpAny (model prog w) A (getAttr o f true) Q E s₁) E s) : wpAny (model prog w) A (eval (.Attribute e f pos) env) Q E s :=
  Attribute_any_ h (by rw [arm_eval_Attribute, hb])
end

/-! ### readings and rules -/
/-- an augmented operator on two values -/
def InOp (X : Cx) (op : Operator) (rd : V → V → Hp → VK → Prop) : Prop :=
  ∀ (pins : List (Addr × Obj)) (s : Shared) (σ : St) (H : Hp) (x y : V) (u v : Value) (Q : VK), Inv X pins σ H s → RelV x u → RelV y v → rd x y H Q → wpAny (model X.prog X.w) X.A (inplaceOp op u v) (EP X pins σ Q) X.xe s
/-- e.f op= value -/
def sFldAug (K : PySem.W.Frag) (ta tv : TE) (rd : V → V → Hp → VK → Prop) (f : Str) : TS := fun D σ H => ta σ H fun x H1 => ∃ a C dx fs v, x = .ref a ∧ H1 a = some (.ins C dx fs) ∧ Cls K C ∧ NoAttr K C f ∧ fs.lookup f = some v ∧
  tv σ H1 fun y H2 => rd v y H2 fun z H3 => ∃ dx' fs', H3 a = some (.ins C dx' fs') ∧ fs'.length < 1000 ∧ D.nx σ (upd H3 a (.ins C dx' (putF f z fs')))

section
variable {X : Cx} {o e value : Expr} {f : Str} {pos pos' tpos : Pos} {ta tv : TE}
theorem ps_fldaug {op : Operator} {rd : V → V → Hp → VK → Prop} (ha : PE X o ta) (hv : PE X value tv) (hop : InOp X op rd) : PS X (.AugAssign (.Attribute o f tpos) op value pos) (sFldAug X.K ta tv rd f) := by
  intro pins s σ H D I h
  refine wpAny_AugAssign_AttributeAny (thn (ha pins s σ H _ I h) fun ov s1 ⟨x, H1, I1, rx, a, C, dx, fs, v, ex, ea, c, n, l, q⟩ => ?_)
  subst ex
  obtain rfl : ov = Value.ref a := rx
  refine getattr_ok I1 ea c n l fun u s2 I2 ru => thn (hv pins s2 σ H1 _ I2 q) fun w3 s3 ⟨y, H2, I3, ry, q3⟩ => thn (hop pins s3 σ H2 v y u w3 _ I3 ru ry q3) fun w4 s4 ⟨z, H3, I4, rz, dx', fs', ea', l', q4⟩ => ?_
  exact setattr_ok I4 ea' c n l' rz fun s5 I5 => ⟨σ, _, I5, q4⟩
def rAdd : V → V → Hp → VK → Prop := fun x y H Q => ∃ i j, x = .int i ∧ y = .int j ∧ Q (.int (i + j)) H
theorem in_add : InOp X .Add rAdd := by
  rintro pins s σ H x y u v Q I rx ry ⟨i, j, rfl, rfl, q⟩
  obtain ⟨t, rfl⟩ := (show ∃ t, u = Value.int i t from rx)
  obtain ⟨t', rfl⟩ := (show ∃ t', v = Value.int j t' from ry)
  exact PyProof.Rows.iadd_int ⟨.int (i + j), H, I.tok _, ⟨_, rfl⟩, q⟩

end

/-! ### isinstance -/
section
variable {X : Cx} {pins : List (Addr × Obj)} {σ : St} {H : Hp} {s : Shared} {A : Around} {E : Value → Shared → Prop} {Q : Value → Shared → Prop} {c : Value} {b : Bool}
end
end L2

namespace L2
open PySem PySem.Spec PyProof.Rows

/-! ### room -/
structure Room (k : Nat) (A : Around) : Prop where
  hd : A.handled = none
  dp : A.depth + 3 * k + 5 < recursionLimit
  un : A.units + 16 * k + 200 < cLine
theorem Room.mono {j k : Nat} {A : Around} (r : Room k A) (h : j ≤ k) : Room j A := ⟨r.hd, by have := r.dp; omega, by have := r.un; omega⟩
theorem Room.deeper {k : Nat} {A : Around} (r : Room (k + 1) A) (env : Env) : Room k (A.deeper env) :=
  ⟨r.hd, by have := r.dp; show A.depth + 1 + 3 * k + 5 < _; omega, by have := r.un; show A.units + 3 + 16 * k + 200 < _; omega⟩
theorem make_depth {A : Around} {C : Addr} {us : List Value} {kw : List (Str × Value)} : (A.under (.builtin "type.__call__" ⟨.ref C :: us, kw⟩)).depth = A.depth + 1 := by
  first | rfl | simp [Around.under, Code.weight, Code.isCreation, Code.isGuard, Code.isCaller, Code.frames, Code.isFrame, guardIds]
theorem make_units {A : Around} {C : Addr} {us : List Value} {kw : List (Str × Value)} : (A.under (.builtin "type.__call__" ⟨.ref C :: us, kw⟩)).units = A.units + 1 := by
  first | rfl | simp [Around.under, Code.cUnits, Code.frames, Code.isFrame]
theorem Room.make {k : Nat} {A : Around} (r : Room (k + 1) A) (C : Addr) (us : List Value) (kw : List (Str × Value)) : Room k (A.under (.builtin "type.__call__" ⟨.ref C :: us, kw⟩)) :=
  ⟨r.hd, by have := r.dp; rw [make_depth]; omega, by have := r.un; rw [make_units]; omega⟩
theorem Room.depth {k : Nat} {A : Around} (r : Room k A) : A.depth < recursionLimit := by have := r.dp; omega

/-! ### argument lists and displays -/
def tNil : TA := fun _ H Q => Q [] H
def tCons (ta : TE) (tr : TA) : TA := fun σ H Q => ta σ H fun x H1 => tr σ H1 fun xs H2 => Q (x :: xs) H2
section
variable {X : Cx} {e : Expr} {es : List Expr} {te : TE} {t : TA} {pos : Pos}
theorem pa_nil : PA X [] tNil := fun _ _ _ _ H Q I h => Calls.spliced_nil ⟨[], H, I, .nil, h⟩
theorem pa_cons (ha : PE X e te) (hr : PA X es t) (hs : starEach (e :: es) X.env = (false, eval e X.env) :: starEach es X.env := by rfl) : PA X (e :: es) (tCons te t) := by
  intro pos pins s σ H Q I h
  rw [hs]
  show wpAny _ _ (spliced ((false, eval e X.env) :: backTo pos (starEach es X.env))) _ _ s
  refine Calls.spliced_cons (thn (ha pins s σ H _ I h) fun u s1 ⟨x, H1, I1, r1, q1⟩ => ?_)
  exact thn (hr pos pins s1 σ H1 _ I1 q1) fun us s2 ⟨xs, H2, I2, r2, q2⟩ => ⟨x :: xs, H2, I2, .cons r1 r2, q2⟩

def tLst (t : TA) : TE := fun σ H Q => t σ H fun xs H1 => xs.length ≤ sizeLine ∧ ∀ p, H1 p = none → Q (.ref p) (upd H1 p (.lst xs))
theorem pe_lst (h : PA X es t) : PE X (.List es pos) (tLst t) := by
  intro pins s σ H Q I hq
  refine wpAny_List_spliced (thn (h pos pins s σ H _ I hq) fun us s1 ⟨xs, H1, I1, r, z, q⟩ => ⟨by rw [← r.length]; exact z, ?_⟩)
  have hf : H1 s1.heap.objs.size = none := I1.hok.fresh (Nat.le_refl _)
  refine ⟨.ref s1.heap.objs.size, upd H1 s1.heap.objs.size (.lst xs), I1.laid (t' := s1.toks) (fun b u e => Heap.get?_push_of_some _ e) (Nat.le_refl _) ?_, rfl, q _ hf⟩
  exact ⟨z, us, 0, r, Heap.get?_push_size _ rfl⟩
end

/-! ### what a def promises -/
/-- a def's promise: the bound arguments in the parameters' order, the heap, the wanted end, the wanted exception -/
abbrev Sp := List V → Hp → VK → XK → Prop
/-- how an exception lies behind a call (file 08 gives it): the callers' frames, abstract heap and state ahead of the call, the wish, the exception, the state -/
abbrev CXT := List Env → Hp → Shared → XK → Value → Shared → Prop

/-- the state at a call -/
structure Env0 (P : Program) (w : World) (K : PySem.W.Frag) (mg : Str → Option Value) (base : Heap) (A : Around) (outer : List Env) (s : Shared) (H : Hp) : Prop where
  frames : A.frames = some outer
  mod : Mod K mg base
  bs : ∀ b o, base.get? b = some o → s.heap.get? b = some o ∧ H b = none
  bsz : base.objs.size ≤ s.heap.objs.size
  funs : s.heap.FunFrames base outer
  frf : ∀ b ∈ frs outer, H b = none
  hok : HOk P w H s.heap
  bare : AllBare s.gens
/-- a call's end -/
def CE (outer : List Env) (P : Program) (w : World) (H : Hp) (s : Shared) (Q : VK) (u : Value) (s' : Shared) : Prop :=
  ∃ v H', s'.os = s.os ∧ AllBare s'.gens ∧ Un (frs outer) [] H H' s.heap s'.heap ∧ HOk P w H' s'.heap ∧ RelV v u ∧ Q v H'
def CR (CX : CXT) (outer : List Env) (P : Program) (w : World) (H : Hp) (s : Shared) (Q : VK) (E : XK) (r : Result) (s' : Shared) : Prop :=
  match r with
  | .ok (.ret u) => CE outer P w H s Q u s'
  | .ok _ => False
  | .error e => CX outer H s E e s'
structure FnOk (P : Program) (w : World) (K : PySem.W.Frag) (mg : Str → Option Value) (base : Heap) (CX : CXT) (k : Nat) (f : Addr) (fd : FuncData) (ps : List Str) (sp : Sp) : Prop where
  len : ∀ vs H Q E, sp vs H Q E → vs.length = ps.length
  run : ∀ (A : Around) (outer : List Env) (s : Shared) (H : Hp) (args : Args) (us : List Value) (vs : List V) (Q : VK) (E : XK), Room k A → Env0 P w K mg base A outer s H → BindsTo s fd args (ps.zip us) → Vals vs us → sp vs H Q E →
    codeAny (model P w) A (.call (.ref f) args) (CR CX outer P w H s Q E) s
/-- a weaker promise -/
theorem FnOk.imp {P : Program} {w : World} {K : PySem.W.Frag} {mg : Str → Option Value} {base : Heap} {CX : CXT} {k : Nat} {f : Addr} {fd : FuncData} {ps : List Str} {sp sp' : Sp} (F : FnOk P w K mg base CX k f fd ps sp)
    (h : ∀ vs H Q E, sp' vs H Q E → sp vs H Q E) : FnOk P w K mg base CX k f fd ps sp' :=
  ⟨fun vs H Q E q => F.len vs H Q E (h _ _ _ _ q), fun A outer s H args us vs Q E hr he hb hv hs => F.run A outer s H args us vs Q E hr he hb hv (h _ _ _ _ hs)⟩

theorem Env0.make {P : Program} {w : World} {K : PySem.W.Frag} {mg : Str → Option Value} {base : Heap} {A : Around} {outer : List Env} {s : Shared} {H : Hp} (e : Env0 P w K mg base A outer s H) (C : Addr) (us : List Value) (kw : List (Str × Value)) :
    Env0 P w K mg base (A.under (.builtin "type.__call__" ⟨.ref C :: us, kw⟩)) outer s H := ⟨by first | exact e.frames | (simpa [Around.under, Code.envs, Code.isFrame, pushEnvs] using e.frames), e.mod, e.bs, e.bsz, e.funs, e.frf, e.hok, e.bare⟩

section
variable {X : Cx} {pins : List (Addr × Obj)} {σ : St} {H : Hp} {s s' : Shared}
/-- from a body: what a callee wants -/
theorem Inv.env0 (I : Inv X pins σ H s) : Env0 X.prog X.w X.K X.mg X.base X.A X.stack s H :=
  ⟨I.ok.frames, I.ok.mod, I.bs, Nat.le_trans I.ok.bsz I.sz, I.stack, I.stkFree, I.hok, I.bare⟩
/-- behind a call -/
theorem Inv.after {Q : VK} {u : Value} (I : Inv X pins σ H s) (h : CE X.stack X.prog X.w H s Q u s') : EP X pins σ Q u s' := by
  obtain ⟨v, H', os, bare, un, hok, r, q⟩ := h
  obtain ⟨hh, g, d, t, os'⟩ := s'
  obtain rfl : os' = s.os := os
  exact ⟨v, H', I.call (h' := hh) (g' := g) (d' := d) (t' := t) (ch := []) un hok bare (fun b z => absurd z (by simp)), r, q⟩
end

/-! ### calls -/
/-- f(..): the written arguments, then the defaults dvs; E: what is wanted of an exception -/
def tCall (sp : Sp) (dvs : List V) (E : XK) (t : TA) : TE := fun σ H Q => t σ H fun vs H1 => sp (vs ++ dvs) H1 Q E
/-- C(..): a new instance and its dict, then __init__ -/
def tMake (C : Addr) (sp : Sp) (dvs : List V) (E : XK) (t : TA) : TE := fun σ H Q => t σ H fun vs H1 => ∀ x dx, H1 x = none → H1 dx = none → dx ≠ x →
  sp (.ref x :: (vs ++ dvs)) (upd (upd H1 dx (.own x)) x (.ins C dx [])) (fun v H2 => v = .non ∧ Q (.ref x) H2) E

/-- how the parameters are bound: us the positional arguments, kw the keywords' values by name, ds the defaults that fill up -/
def Binds (K : PySem.W.Frag) (fd : FuncData) (ps : List Str) (ds : List Value) : Prop :=
  ∀ (s : Shared) (us : List Value), K.In s.heap → (us ++ ds).length = ps.length → BindsTo s fd ⟨us, []⟩ (ps.zip (us ++ ds))
/-- every parameter is given -/
theorem Binds.all {K : PySem.W.Frag} {fd : FuncData} {ps : List Str} (h : ∀ us : List Value, us.length = ps.length → bindArgs fd ⟨us, []⟩ = pure (ps.zip us)) : Binds K fd ps [] := fun s us _ hl => by
  rw [List.append_nil] at hl ⊢
  exact .of_eq (h us hl)

/-- an exception of a callee reaches what this body wants of exceptions -/
def Passes (CX : CXT) (X : Cx) (E : XK) : Prop := ∀ (pins : List (Addr × Obj)) (σ : St) (H : Hp) (s : Shared) (e : Value) (s' : Shared), Inv X pins σ H s → CX X.stack H s E e s' → X.xe e s'

section
variable {X : Cx} {CX : CXT} {k : Nat} {f C : Addr} {fd : FuncData} {ps : List Str} {sp : Sp} {dvs : List V} {ds : List Value} {E : XK} {x m : Str} {p pos apos : Pos} {e o : Expr} {es : List Expr} {ta : TE} {t : TA}

/-- the callee runs -/
theorem run_fn {pins : List (Addr × Obj)} {σ : St} {H : Hp} {s : Shared} {Q : VK} {us : List Value} {vs : List V} (F : FnOk X.prog X.w X.K X.mg X.base CX k f fd ps sp) (hr : Room k X.A) (hb : Binds X.K fd ps ds) (hd : Vals dvs ds) (hx : Passes CX X E)
    (I : Inv X pins σ H s) (r : Vals vs us) (h : sp (vs ++ dvs) H Q E) : wpAny (model X.prog X.w) X.A (call (.ref f) us) (EP X pins σ Q) X.xe s := by
  have r2 : Vals (vs ++ dvs) (us ++ ds) := r.append hd
  have hl : (us ++ ds).length = ps.length := by rw [← r2.length]; exact F.len _ _ _ _ h
  refine wpAny_call (codeAny_mono (F.run X.A X.stack s H ⟨us, []⟩ (us ++ ds) (vs ++ dvs) Q E hr I.env0 (hb s us I.kIn hl) r2 h) fun r s' hq => ?_)
  cases r with
  | error e => exact hx pins σ H s e s' I hq
  | ok fl =>
    cases fl with
    | ret u => exact I.after hq
    | next => exact False.elim hq
    | brk => exact False.elim hq
    | cont => exact False.elim hq

theorem pe_call (F : FnOk X.prog X.w X.K X.mg X.base CX k f fd ps sp) (hr : Room k X.A) (hg : Gl X x) (hm : X.mg x = some (.ref f)) (hk : PySem.W.keepIn X.K (.ref f) = true) (hb : Binds X.K fd ps ds) (hd : Vals dvs ds) (hx : Passes CX X E)
    (ha : PA X (e :: es) t) (hdb : (x == ("__debug__" : Str)) = false := by decide) (he : starEach (e :: es) X.env = (false, eval e X.env) :: starEach es X.env := by rfl) (hpl : (backTo pos (starEach es X.env)).any (·.1) = false := by rfl) :
    PE X (.Call (.Name x p) (e :: es) [] pos) (tCall sp dvs E t) := by
  intro pins s σ H Q I h
  refine wpAny_Call_Name_kw (ld_glob I hg hm ?_ hdb)
  refine PySem.W.callWith_K (h₀ := X.base) I.ok.mod.kin hk (thn (ha pos pins s σ H _ I h) fun us s1 ⟨vs, H1, I1, r, q⟩ => ⟨I1.kIn, ?_⟩) he hpl
  exact run_fn F hr hb hd hx I1 r q
theorem pe_call0 (F : FnOk X.prog X.w X.K X.mg X.base CX k f fd ps sp) (hr : Room k X.A) (hg : Gl X x) (hm : X.mg x = some (.ref f)) (hk : PySem.W.keepIn X.K (.ref f) = true) (hb : Binds X.K fd ps ds) (hd : Vals dvs ds) (hx : Passes CX X E)
    (hdb : (x == ("__debug__" : Str)) = false := by decide) : PE X (.Call (.Name x p) [] [] pos) (tCall sp dvs E tNil) := by
  intro pins s σ H Q I h
  refine wpAny_Call_Name_kw (ld_glob I hg hm ?_ hdb)
  exact PySem.W.callWith_K0 I.kIn hk (run_fn (us := []) F hr hb hd hx I .nil h)


/-- what a class must have to be made -/
structure Mk (K : PySem.W.Frag) (C f : Addr) : Prop where
  makes : PySem.W.makesIn K C = true
  init : PySem.W.findIn K (.ref C) "__init__" = some (some (.ref f))
  fn : PySem.W.isFn K (.ref f) = true
  kp : PySem.W.keepIn K (.ref C) = true

theorem run_make {pins : List (Addr × Obj)} {σ : St} {H : Hp} {s : Shared} {Q : VK} {us : List Value} {vs : List V} (M : Mk X.K C f) (F : FnOk X.prog X.w X.K X.mg X.base CX k f fd ps sp) (hr : Room (k + 1) X.A) (hb : Binds X.K fd ps ds) (hd : Vals dvs ds)
    (hx : Passes CX X E) (I : Inv X pins σ H s) (r : Vals vs us)
    (h : ∀ x dx, H x = none → H dx = none → dx ≠ x → sp (.ref x :: (vs ++ dvs)) (upd (upd H dx (.own x)) x (.ins C dx [])) (fun v H2 => v = .non ∧ Q (.ref x) H2) E) :
    wpAny (model X.prog X.w) X.A (call (.ref C) us) (EP X pins σ Q) X.xe s := by
  have hq := h (s.heap.objs.size + 1) s.heap.objs.size (I.hok.fresh (Nat.le_succ _)) (I.hok.fresh (Nat.le_refl _)) (Nat.ne_of_lt (Nat.lt_succ_self _))
  have I2 := Inv.made (C := C) I
  have r2 : Vals (V.ref (s.heap.objs.size + 1) :: (vs ++ dvs)) (Value.ref (s.heap.objs.size + 1) :: (us ++ ds)) := .cons rfl (r.append hd)
  have hl : (Value.ref (s.heap.objs.size + 1) :: us ++ ds).length = ps.length := by
    have e := r2.length
    rw [F.len _ _ _ _ hq] at e
    exact e.symm
  refine wpAny_call (make_map (f := f) I.kIn M.makes M.init (beq_iff_eq.mp M.fn) (codeAny_mono (F.run _ X.stack _ _ ⟨Value.ref (s.heap.objs.size + 1) :: us, []⟩ (Value.ref (s.heap.objs.size + 1) :: (us ++ ds)) _ _ E (hr.make C us [])
    (I2.env0.make C us []) (hb _ (Value.ref (s.heap.objs.size + 1) :: us) I2.kIn hl) r2 hq) fun r s' hq' => ?_))
  cases r with
  | error e => exact hx pins σ _ _ e s' I2 hq'
  | ok fl =>
    cases fl with
    | ret u =>
      obtain ⟨v, H', I3, rv, ev, q3⟩ := I2.after hq'
      subst ev
      exact ⟨rv, ⟨V.ref (s.heap.objs.size + 1), H', I3, rfl, q3⟩⟩
    | next => exact False.elim hq'
    | brk => exact False.elim hq'
    | cont => exact False.elim hq'
theorem pe_make (M : Mk X.K C f) (F : FnOk X.prog X.w X.K X.mg X.base CX k f fd ps sp) (hr : Room (k + 1) X.A) (hg : Gl X x) (hm : X.mg x = some (.ref C)) (hb : Binds X.K fd ps ds) (hd : Vals dvs ds) (hx : Passes CX X E)
    (ha : PA X (e :: es) t) (hdb : (x == ("__debug__" : Str)) = false := by decide) (he : starEach (e :: es) X.env = (false, eval e X.env) :: starEach es X.env := by rfl) (hpl : (backTo pos (starEach es X.env)).any (·.1) = false := by rfl) :
    PE X (.Call (.Name x p) (e :: es) [] pos) (tMake C sp dvs E t) := by
  intro pins s σ H Q I h
  refine wpAny_Call_Name_kw (ld_glob I hg hm ?_ hdb)
  refine PySem.W.callWith_K (h₀ := X.base) I.ok.mod.kin M.kp (thn (ha pos pins s σ H _ I h) fun us s1 ⟨vs, H1, I1, r, q⟩ => ⟨I1.kIn, ?_⟩) he hpl
  exact run_make M F hr hb hd hx I1 r q
theorem pe_make0 (M : Mk X.K C f) (F : FnOk X.prog X.w X.K X.mg X.base CX k f fd ps sp) (hr : Room (k + 1) X.A) (hg : Gl X x) (hm : X.mg x = some (.ref C)) (hb : Binds X.K fd ps ds) (hd : Vals dvs ds) (hx : Passes CX X E)
    (hdb : (x == ("__debug__" : Str)) = false := by decide) : PE X (.Call (.Name x p) [] [] pos) (tMake C sp dvs E tNil) := by
  intro pins s σ H Q I h
  refine wpAny_Call_Name_kw (ld_glob I hg hm ?_ hdb)
  exact PySem.W.callWith_K0 I.kIn M.kp (run_make (us := []) M F hr hb hd hx I .nil h)
end

/-! ### keywords -/
section
variable {X : Cx} {CX : CXT} {k : Nat} {f C : Addr} {fd : FuncData} {ps ks : List Str} {sp : Sp} {E : XK} {x m : Str} {p pos apos kpos : Pos} {e o : Expr} {es : List Expr} {kws : List Keyword} {te ta : TE} {t tk : TA} {nm : Option Str}

variable {g : List Value → List Value → List Value} {gV : List V → List V → List V}
end

/-! ### a def's body keeps its promise -/
/-- names: the parameters first -/
structure FnScope (N P : List Str) (sc : Scope) : Prop where
  kind : sc.kind = .function
  co : sc.isCoroutine = false
  gen : sc.isGenerator = false
  nd : N.Nodup
  pre : N.take P.length = P
  par : ∀ x ∈ P, sc.names.lookup x = some .local ∨ sc.names.lookup x = some .cell
  nofree : ∀ y ∈ sc.names, y.2 ≠ .free

theorem bindL_out {kindOf : Str → Option NameKind} {x : Str} : ∀ {binds : List (Str × Value)} {m : Str → Option Value}, (∀ v, (x, v) ∉ binds) → bindL kindOf binds m x = m x
  | [], _, _ => rfl
  | (n, v) :: r, m, h => by
    unfold bindL
    rw [bindL_out fun w hw => h w (List.mem_cons_of_mem _ hw)]
    split
    · have : x ≠ n := by rintro rfl; exact h v List.mem_cons_self
      simp [this]
    · rfl
theorem bindC_out {kindOf : Str → Option NameKind} {x : Str} : ∀ {binds : List (Str × Value)} {m : Str → Option Value}, (∀ v, (x, v) ∉ binds) → bindC kindOf binds m x = m x
  | [], _, _ => rfl
  | (n, v) :: r, m, h => by
    unfold bindC
    rw [bindC_out fun w hw => h w (List.mem_cons_of_mem _ hw)]
    split
    · rfl
    · have : x ≠ n := by rintro rfl; exact h v List.mem_cons_self
      simp [this]
theorem bindL_get {kindOf : Str → Option NameKind} {x : Str} {v : Value} : ∀ {P : List Str} {vs : List Value} {i : Nat} {m : Str → Option Value}, P.Nodup → P[i]? = some x → vs[i]? = some v → kindOf x = some .local →
    bindL kindOf (P.zip vs) m x = some v
  | [], _, _, _, _, h, _, _ => by simp at h
  | _ :: _, [], _, _, _, _, h, _ => by simp at h
  | p :: P, w :: vs, 0, m, nd, h1, h2, hk => by
    simp at h1 h2; subst h1; subst h2
    show bindL kindOf ((p, w) :: P.zip vs) m p = _
    unfold bindL
    rw [bindL_out fun v hv => (List.nodup_cons.mp nd).1 (List.of_mem_zip hv).1, if_pos hk]
    simp
  | p :: P, w :: vs, i + 1, m, nd, h1, h2, hk => by
    show bindL kindOf ((p, w) :: P.zip vs) m x = _
    unfold bindL
    exact bindL_get (i := i) (List.nodup_cons.mp nd).2 (by simpa using h1) (by simpa using h2) hk
theorem bindC_get {kindOf : Str → Option NameKind} {x : Str} {v : Value} : ∀ {P : List Str} {vs : List Value} {i : Nat} {m : Str → Option Value}, P.Nodup → P[i]? = some x → vs[i]? = some v → kindOf x ≠ some .local →
    bindC kindOf (P.zip vs) m x = some v
  | [], _, _, _, _, h, _, _ => by simp at h
  | _ :: _, [], _, _, _, _, h, _ => by simp at h
  | p :: P, w :: vs, 0, m, nd, h1, h2, hk => by
    simp at h1 h2; subst h1; subst h2
    show bindC kindOf ((p, w) :: P.zip vs) m p = _
    unfold bindC
    rw [bindC_out fun v hv => (List.nodup_cons.mp nd).1 (List.of_mem_zip hv).1, if_neg hk]
    simp
  | p :: P, w :: vs, i + 1, m, nd, h1, h2, hk => by
    show bindC kindOf ((p, w) :: P.zip vs) m x = _
    unfold bindC
    exact bindC_get (i := i) (List.nodup_cons.mp nd).2 (by simpa using h1) (by simpa using h2) hk

/-- the names' values at the entry -/
def start (N : List Str) (vs : List V) : St := vs.map some ++ List.replicate (N.length - vs.length) none

/-- the context of a def's body, at its entry; an exception leaves the frame, then lies as CX says -/
def cxOf (CX : CXT) (P : Program) (w : World) (K : PySem.W.Frag) (mg : Str → Option Value) (base : Heap) (N : List Str) (qual : Str) (scope : Scope) (f : Addr) (cd : Value) (A : Around) (outer : List Env) (s : Shared) (H : Hp) (E : XK) : Cx where
  prog := P
  w := w
  K := K
  mg := mg
  base := base
  A := A.deeper (envOfC qual scope s.heap.objs.size f cd)
  N := N
  s_0 := s
  H_0 := H
  env := envOfC qual scope s.heap.objs.size f cd
  outer := outer
  stack := envOfC qual scope s.heap.objs.size f cd :: outer
  ex := []
  calm := true
  fn := fun _ => true
  pn := []
  xe := fun e s' => wpAny (model P w) (A.deeper (envOfC qual scope s.heap.objs.size f cd)) (leaving (envOfC qual scope s.heap.objs.size f cd) e) (fun _ s'' => CX outer H s E e s'') (fun e' s'' => CX outer H s E e' s'') s'

theorem cell_has {sc : Scope} {n : Nat} {x : Str} (h : sc.names.lookup x = some .cell) : ∃ c, (cellsFrom n sc.names []).lookup x = some c := by
  have q := PySem.W.cellsFrom_some sc.names n [] (.inl h)
  exact Option.isSome_iff_exists.mp q

theorem inv_start {CX : CXT} {P : Program} {w : World} {K : PySem.W.Frag} {mg : Str → Option Value} {base : Heap} {N ps : List Str} {qual : Str} {scope : Scope} {f : Addr} {cd : Value} {A : Around} {outer : List Env} {s s1 : Shared} {H : Hp} {E : XK} {us : List Value} {vs : List V}
    (S : FnScope N ps scope) (hd : A.handled = none) (e0 : Env0 P w K mg base A outer s H) (hl : vs.length = ps.length) (r : Vals vs us)
    (x : InCallC s s.heap.objs.size (bindL (envOfC qual scope s.heap.objs.size f cd).kindOf (ps.zip us) fun _ => none) (cellsFrom (s.heap.objs.size + 1) scope.names []) (bindC (envOfC qual scope s.heap.objs.size f cd).kindOf (ps.zip us) fun _ => none) s1) :
    Inv (cxOf CX P w K mg base N qual scope f cd A outer s H E) [] (start N vs) H s1 := by
  have hpl : ps.length ≤ N.length := by have := congrArg List.length S.pre; rw [List.length_take] at this; omega
  obtain ⟨h1, tk, rfl, hk⟩ := x.done
  have noA : ∀ b : Addr, b ∉ (cxOf CX P w K mg base N qual scope f cd A outer s H E).ex := fun b z => absurd (show b ∈ ([] : List Addr) from z) (by simp)
  refine ⟨⟨e0.mod, S.kind, rfl, rfl, Nat.le_refl _, fun y z c h1 h2 => ?_, fun y hy => ?_, fun y c _ h => ?_, fun _ => hd, Around.frames_deeper e0.frames, .inr ⟨rfl, rfl⟩, fun b z => absurd z (noA b), e0.bs, e0.bsz, fun b _ _ => noA b, fun b z => absurd z (noA b), e0.funs, e0.frf⟩,
    rfl, e0.bare, Un.kept hk, ⟨_, x.toInCall.ns, fun i y v h1 h2 h3 => ?_⟩, fun y c h => ⟨_, x.cell y c h⟩, e0.hok.fresh (Nat.le_refl _), fun y c h => ?_, fun p hp => absurd (show p ∈ ([] : List (Addr × Obj)) from hp) (by simp), e0.hok.kept hk, ?_⟩
  · exact name_of_addr x.apart (PySem.mem_of_lookup h1) (PySem.mem_of_lookup h2)
  · have hy : scope.names.lookup y = some .cell ∨ scope.names.lookup y = some .free := hy
    rcases hy with hy | hy
    · exact cell_has hy
    · exact absurd rfl (S.nofree _ (PySem.mem_of_lookup hy))
  · exact Nat.le_of_lt (x.above y c (PySem.mem_of_lookup h))
  · have hi : i < vs.length := by
      unfold start at h2
      by_cases hi : i < vs.length
      · exact hi
      · rw [List.getElem?_append_right (by simpa using hi)] at h2
        rw [List.getElem?_replicate] at h2
        split at h2 <;> cases h2
    have ha : vs[i]? = some v := by
      unfold start at h2
      rw [List.getElem?_append_left (by simpa using hi), List.getElem?_map] at h2
      cases e : vs[i]? with
      | none => rw [e] at h2; cases h2
      | some a => rw [e] at h2; cases h2; rfl
    obtain ⟨u, hu, rv⟩ := r.get ha
    have hp : ps[i]? = some y := by
      rw [← S.pre, List.getElem?_take_of_lt (by omega)]; exact h1
    have ndP : ps.Nodup := by rw [← S.pre]; exact S.nd.sublist (List.take_sublist _ _)
    refine ⟨u, rv, ?_⟩
    rcases S.par y (List.mem_of_getElem? hp) with k | k
    · exact .inl ⟨k, bindL_get ndP hp hu k⟩
    · obtain ⟨c, e⟩ := cell_has (n := s.heap.objs.size + 1) k
      refine .inr ⟨.inl k, c, e, ?_⟩
      have q := x.cell y c e
      rw [bindC_get ndP hp hu (by show scope.names.lookup y ≠ _; rw [k]; decide)] at q
      exact q
  · exact e0.hok.fresh (Nat.le_of_lt (x.above y c (PySem.mem_of_lookup h)))
  · unfold start
    show _ = N.length
    rw [List.length_append, List.length_map, List.length_replicate]
    omega

/-- THE RULE: a def (or a method) of the text, by its body. The body's reading t is chosen for each entry; it is run at the parameters' values -/
theorem fn_of {CX : CXT} {P : Program} {w : World} {K : PySem.W.Frag} {mg : Str → Option Value} {base : Heap} {k : Nat} {f : Addr} {name qual : Str} {params : Arguments} {body : List Stmt} {scope : Scope} {dV kV doc pm cdv ct oc : Value} {an od : Option Addr}
    {osl : Array (Option Value)} {N ps : List Str} {sp : Sp} (lk : K.lookup f = some ⟨oc, od, .func (PySem.W.fnOf name qual params body scope dV kV doc pm an cdv ct), osl⟩) (hcd : PySem.W.codeIn K cdv qual = true) (S : FnScope N ps scope)
    (len : ∀ vs H Q E, sp vs H Q E → vs.length = ps.length)
    (hbody : ∀ (A : Around) (outer : List Env) (s : Shared) (H : Hp) (vs : List V) (Q : VK) (E : XK), Room k (A.deeper (envOfC qual scope s.heap.objs.size f cdv)) → sp vs H Q E →
      ∃ t, PSs (cxOf CX P w K mg base N qual scope f cdv A outer s H E) body t ∧ t { nx := fun _ H' => Q .non H', rt := Q } (start N vs) H) :
    FnOk P w K mg base CX (k + 1) f (PySem.W.fnOf name qual params body scope dV kV doc pm an cdv ct) ps sp := by
  refine ⟨len, fun A outer s H args us vs Q E hr e0 hb r hsp => ?_⟩
  have hl := len _ _ _ _ hsp
  have KX : K.In s.heap := e0.mod.kin.keeps fun b o e => (e0.bs b o e).1
  have lim : s.heap.NoLimit := e0.mod.nolimit.keeps fun b o e => (e0.bs b o e).1
  have hkind : ∀ y ∈ ps.zip us, scope.names.lookup y.1 = some .local ∨ (scope.names.lookup y.1 = some .cell ∧ ((cellsFrom (s.heap.objs.size + 1) scope.names []).lookup y.1).isSome = true) := fun ⟨n, v⟩ hy => by
    rcases S.par n (List.of_mem_zip hy).1 with q | q
    · exact .inl q
    · exact .inr ⟨q, PySem.W.cellsFrom_some _ _ _ (.inl q)⟩
  refine codeAny_call_function hr.depth (KX _ _ lk) rfl S.co S.gen rfl (PySem.W.codeRec_of KX hcd) (hb _ _ _ _ ?_)
  refine wpAny_newFunctionEnv_cells S.kind hkind fun env he s1 x => ?_
  subst he
  refine ⟨lim.keeps x.toInCall.keep, codeAny_func ?_⟩
  obtain ⟨t, ht, hq⟩ := hbody A outer s H vs Q E (hr.deeper _) hsp
  have I : Inv (cxOf CX P w K mg base N qual scope f cdv A outer s H E) [] (start N vs) H s1 := inv_start S hr.hd e0 hl r x
  refine wpAny_mono (ht [] s1 (start N vs) H _ I hq) (fun fl s' hs => ?_) fun e s' hs => hs
  have fin : ∀ {σ' : St} {H' : Hp} {v : V} {u : Value}, Inv (cxOf CX P w K mg base N qual scope f cdv A outer s H E) [] σ' H' s' → RelV v u → Q v H' → CE outer P w H s Q u s' :=
    fun {σ' H' v u} J rv q => ⟨v, H', J.os, J.bare, J.base, J.hok, rv, q⟩
  cases fl with
  | ret u =>
    obtain ⟨v, σ', H', J, rv, q⟩ := hs
    exact fin J rv q
  | next =>
    obtain ⟨σ', H', J, q⟩ := hs
    exact fin (v := V.non) (u := Value.none) J rfl q
  | brk =>
    obtain ⟨_, _, _, q⟩ := hs
    exact False.elim q
  | cont =>
    obtain ⟨_, _, _, q⟩ := hs
    exact False.elim q
end L2

namespace L2
open PySem PySem.Spec PyProof.Rows
section
variable {X : Cx} {x : Str} {p pos : Pos} {e : Expr} {es : List Expr} {t : TA} {id T : String} {r : List V → Hp → VK → Prop}

def tCB (r : List V → Hp → VK → Prop) (t : TA) : TE := fun σ H Q => t σ H fun vs H1 => r vs H1 Q
/-- f(e, ..), f a built-in function -/
theorem pe_callB (hc : CallR X (.builtin id) r) (hg : Gl X x) (hm : X.mg x = none) (hv : bootBuiltins x = some (.builtin id)) (ha : PA X (e :: es) t) (hn : x ≠ "__name__" := by decide) (hdb : (x == ("__debug__" : Str)) = false := by decide)
    (he : starEach (e :: es) X.env = (false, eval e X.env) :: starEach es X.env := by rfl) (hpl : (backTo pos (starEach es X.env)).any (·.1) = false := by rfl) : PE X (.Call (.Name x p) (e :: es) [] pos) (tCB r t) := by
  intro pins s σ H Q I h
  refine wpAny_Call_Name_kw (ld_blt I hg hm hv ?_ hn hdb)
  exact PyProof.Rows.callWith_builtin1 (thn (ha pos pins s σ H _ I h) fun us s1 ⟨vs, H1, I1, r1, q1⟩ => hc pins s1 σ H1 vs us Q I1 r1 q1) he hpl
/-- T(e, ..), T a built-in type -/
theorem pe_callTy (hc : CallR X (.type T) r) (hg : Gl X x) (hm : X.mg x = none) (hv : bootBuiltins x = some (.type T)) (ha : PA X (e :: es) t) (hn : x ≠ "__name__" := by decide) (hdb : (x == ("__debug__" : Str)) = false := by decide)
    (he : starEach (e :: es) X.env = (false, eval e X.env) :: starEach es X.env := by rfl) (hpl : (backTo pos (starEach es X.env)).any (·.1) = false := by rfl) : PE X (.Call (.Name x p) (e :: es) [] pos) (tCB r t) := by
  intro pins s σ H Q I h
  refine wpAny_Call_Name_kw (ld_blt I hg hm hv ?_ hn hdb)
  exact PyProof.Rows.callWith_type1 (thn (ha pos pins s σ H _ I h) fun us s1 ⟨vs, H1, I1, r1, q1⟩ => hc pins s1 σ H1 vs us Q I1 r1 q1) he hpl
end
end L2

namespace HT
open PySem PyProof.Rows



section
open PySem.SeqAt
open PySem.AutoSeq1 (wpAny_loadPart')
open PySem.MeetsSeq PySem.MeetsSeq2 PySem.MeetsSeq3

end

section
variable {prog : Program} {w : World} {A : Around} {E : Value → Shared → Prop} {s : Shared}



/-! ### t[a:b], not the whole -/
/-- a slice's bound as a place among n (d where it is left out) -/
def sIx (n d : Nat) : Option Int → Nat
  | none => d
  | some v => if v < 0 then (v + (n : Int)).toNat else min v.toNat n
theorem sIx_nat (n d k : Nat) : sIx n d (some (k : Int)) = min k n := by
  show (if (k : Int) < 0 then ((k : Int) + (n : Int)).toNat else min (k : Int).toNat n) = min k n
  rw [if_neg (by omega), Int.toNat_natCast]

end
end HT

namespace L2
open PySem PySem.Spec PyProof.Rows

/-! ### the parts of a slice -/
abbrev TO := St → Hp → (Option Int → Hp → Prop) → Prop
/-- a slice's part (left out, or an int) -/
def PO (X : Cx) (e : Option Expr) (t : TO) : Prop :=
  ∀ (pins : List (Addr × Obj)) (s : Shared) (σ : St) (H : Hp) (Q : Option Int → Hp → Prop), Inv X pins σ H s → t σ H Q →
    wpAny (model X.prog X.w) X.A (evalPart e X.env) (fun u s' => ∃ o H', Inv X pins σ H' s' ∧ IsPart u o ∧ Q o H') X.xe s
def tPart (t : TE) : TO := fun σ H Q => t σ H fun x H1 => ∃ i, x = .int i ∧ Q (some i) H1


section
variable {X : Cx} {e : Expr} {te : TE} {lo hi : Option Expr} {tl th : TO} {pos p2 : Pos}

theorem po_some (h : PE X e te) : PO X (some e) (tPart te) := by
  intro pins s σ H Q I hw
  rw [evalPart_some]
  refine thn (h pins s σ H _ I hw) fun u s1 ⟨x, H1, I1, r1, q1⟩ => ?_
  obtain ⟨i, rfl, q⟩ := q1
  obtain ⟨t, rfl⟩ := r1
  exact ⟨some i, H1, I1, .int i t, q⟩

/-- what a slice of a value is, by values: the slice object stands at sl -/
def SlR (X : Cx) (r : V → Option Int → Option Int → Hp → VK → Prop) : Prop :=
  ∀ (pins : List (Addr × Obj)) (s : Shared) (σ : St) (H : Hp) (x : V) (v vl vu : Value) (lo hi : Option Int) (sl : Addr) (Q : VK), Inv X pins σ H s → RelV x v → s.heap.IsSliceOf sl vl vu .none → IsPart vl lo → IsPart vu hi → r x lo hi H Q →
    ∃ T id, typeLookup (.type T) "__getitem__" = pure (some (.builtin id)) ∧ s.TypeIs v T ∧ wpAny (model X.prog X.w) X.A (getItem v (.ref sl)) (EP X pins σ Q) X.xe s
def tSl (r : V → Option Int → Option Int → Hp → VK → Prop) (te : TE) (tl th : TO) : TE := fun σ H Q => te σ H fun x H1 => tl σ H1 fun l H2 => th σ H2 fun u H3 => r x l u H3 Q
/-- a[lo:hi], any a -/
theorem pe_slice {r : V → Option Int → Option Int → Hp → VK → Prop} (hr : SlR X r) (he : PE X e te) (hl : PO X lo tl) (hu : PO X hi th) : PE X (.Subscript e (.Slice lo hi none p2) pos) (tSl r te tl th) := by
  intro pins s σ H Q I h
  refine Subscript_ (thn (he pins s σ H _ I h) fun v s1 ⟨x, H1, I1, r1, q1⟩ => ?_)
  refine wpAny_Slice (thn (hl pins s1 σ H1 _ I1 q1) fun vl s2 ⟨l, H2, I2, pl, q2⟩ => thn (hu pins s2 σ H2 _ I2 q2) fun vu s3 ⟨u, H3, I3, pu, q3⟩ => ?_)
  rw [evalPart_none]
  refine wpAny_pure ?_
  have I4 : Inv X pins σ H3 { s3 with heap := s3.heap.push { cls := .type "slice", data := .fields #[vl, vu, .none] } } := I3.kept (t' := s3.toks) fun b ob q => Heap.get?_push_of_some _ q
  obtain ⟨T, id, hT, ht, hg⟩ := hr pins { s3 with heap := s3.heap.push { cls := .type "slice", data := .fields #[vl, vu, .none] } } σ H3 x v vl vu l u s3.heap.objs.size Q I4 r1 (Heap.IsSliceOf.new ..) pl pu q3
  show wpAny (model X.prog X.w) X.A (subscriptTail e (.Slice lo hi none p2) v (.ref s3.heap.objs.size)) (EP X pins σ Q) X.xe { s3 with heap := s3.heap.push { cls := .type "slice", data := .fields #[vl, vu, .none] } }
  exact tail_any (ops := [.ref s3.heap.objs.size, v]) ht hT hg (by with_unfolding_all rfl)

/-- the items of xs[lo:hi] -/
def cutV (xs : List V) (lo hi : Option Int) : List V := (xs.drop (HT.sIx xs.length 0 lo)).take (HT.sIx xs.length xs.length hi - HT.sIx xs.length 0 lo)
theorem cutV_length (xs : List V) (lo hi : Option Int) : (cutV xs lo hi).length ≤ xs.length := by
  unfold cutV
  rw [List.length_take, List.length_drop]
  omega

/-! ### t < u, t + u -/
end
end L2

namespace L2
open PySem PySem.Spec PyProof.Rows

/-! ### places -/
/-- the place that an index of any sign means -/
def ixN (n : Nat) (i : Int) : Option Nat := if 0 ≤ i then (if i < n then some i.toNat else none) else if -(n : Int) ≤ i then some (i + n).toNat else none
def atI {α : Type} (xs : List α) (i : Int) : Option α := (ixN xs.length i).bind fun j => xs[j]?
theorem ixN_seq {n : Nat} {i : Int} {j : Nat} (h : ixN n i = some j) : seqIndex? i n = some j ∧ j < n ∧ -(n : Int) ≤ i ∧ i < n := by
  unfold ixN at h
  by_cases h0 : 0 ≤ i
  · rw [if_pos h0] at h
    by_cases h1 : i < n
    · rw [if_pos h1] at h
      have e : i.toNat = j := Option.some.inj h
      exact ⟨by rw [seqIndex_of h0 h1, e], by omega, by omega, h1⟩
    · rw [if_neg h1] at h; cases h
  · rw [if_neg h0] at h
    by_cases h1 : -(n : Int) ≤ i
    · rw [if_pos h1] at h
      have e : (i + n).toNat = j := Option.some.inj h
      exact ⟨by rw [seqIndex_neg (by omega) h1, e], by omega, h1, by omega⟩
    · rw [if_neg h1] at h; cases h
theorem atI_get {α : Type} {xs : List α} {i : Int} {v : α} (h : atI xs i = some v) : ∃ j, seqIndex? i xs.length = some j ∧ xs[j]? = some v ∧ j < xs.length ∧ -(xs.length : Int) ≤ i ∧ i < xs.length := by
  unfold atI at h
  cases e : ixN xs.length i with
  | none => rw [e] at h; cases h
  | some j =>
    rw [e] at h
    obtain ⟨h1, h2, h3, h4⟩ := ixN_seq e
    exact ⟨j, h1, h, h2, h3, h4⟩
theorem atI_nat {α : Type} {xs : List α} {j : Nat} {v : α} (h : xs[j]? = some v) : atI xs (j : Int) = some v := by
  have hj : j < xs.length := (List.getElem?_eq_some_iff.mp h).1
  have e : ixN xs.length (j : Int) = some j := by
    unfold ixN
    rw [if_pos (by omega), if_pos (by omega)]; simp
  unfold atI; rw [e]; exact h

/-! ### what may be subscripted -/
/-- what stands as an index of a plain subscript -/
def PlainIx (b : Expr) : Prop := ∀ o i, subscripted b false o i = operate [o, i] (getItem o i)
/-- a subscript by values -/
def IxR (X : Cx) (r : R2) : Prop :=
  ∀ (value slice : Expr) (pins : List (Addr × Obj)) (s : Shared) (σ : St) (H : Hp) (x y : V) (v u : Value) (Q : VK), Inv X pins σ H s → RelV x v → RelV y u → r x y H Q →
    subscripted slice false v u = operate [v, u] (getItem v u) → wpAny (model X.prog X.w) X.A (subscriptTail value slice v u) (EP X pins σ Q) X.xe s
/-- a call of a builtin's method by values: the receiver, the arguments -/
def MtR (X : Cx) (id : String) (r : V → List V → Hp → VK → Prop) : Prop :=
  ∀ (pins : List (Addr × Obj)) (s : Shared) (σ : St) (H : Hp) (x : V) (xs : List V) (v : Value) (us : List Value) (Q : VK), Inv X pins σ H s → RelV x v → Vals xs us → r x xs H Q →
    wpAny (model X.prog X.w) X.A (call (.builtin id) (v :: us)) (EP X pins σ Q) X.xe s
section
variable {X : Cx} {a b : Expr} {ta tb : TE} {pos : Pos}
/-- a[b] -/
theorem pe_ix {r : R2} (hr : IxR X r) (ha : PE X a ta) (hb : PE X b tb) (hs : PlainIx b) : PE X (.Subscript a b pos) (tOp r ta tb) := by
  intro pins s σ H Q I h
  exact Subscript_ (binT ha hb I h fun v u s2 x y H2 I2 rx ry q => hr a b pins s2 σ H2 x y v u Q I2 rx ry q (hs _ _))

def rIxL (K : PySem.W.Frag) : R2 := fun x y H Q => ∃ p xs i v, x = .ref p ∧ y = .int i ∧ SqL K H p xs ∧ atI xs i = some v ∧ Q v H
theorem ix_list : IxR X (rIxL X.K) := by
  intro value slice pins s σ H x y v u Q I rx ry h hs
  obtain ⟨p, xs, i, z, rfl, rfl, hq, he, q⟩ := h
  cases rx
  obtain ⟨t, rfl⟩ := ry
  obtain ⟨its, r, pl, hz⟩ := I.list hq
  obtain ⟨j, h1, h2, h3, h4, h5⟩ := atI_get he
  obtain ⟨w, ew, rw'⟩ := r.get h2
  have hl := r.length
  have hn := line63
  have fin : EP X pins σ Q w s := ⟨z, H, I, rw', q⟩
  by_cases h0 : 0 ≤ i
  · have hj : i.toNat = j := by
      rw [seqIndex_of h0 h5] at h1
      exact Option.some.inj h1
    exact item_listR pl.isList h0 (by omega) (by rw [hj]; simpa using ew) fin hs
  · have hj : (i + (its.toArray.size : Int)).toNat = j := by
      rw [seqIndex_neg (by omega) h4] at h1
      rw [List.size_toArray, ← hl]
      exact Option.some.inj h1
    exact subscriptTail_builtinR (x := w) pl.isList.typeIs slot_list_getitem.lookup
      (wpAny_getItem_list_neg (Q := fun r s' => r = w ∧ EP X pins σ Q r s') pl.isList (by omega) (by rw [List.size_toArray] <;> omega) (by omega) (by rw [hj]; simpa using ew) ⟨rfl, fin⟩) hs

/-! ### xs[i] = v, any sign -/
/-- the list's object behind a store -/
theorem mapSeq_set (its : List Value) (n j : Nat) (u : Value) : Obj.mapSeq (·.setIfInBounds j u) { cls := .type "list", data := .seq its.toArray n } = { cls := .type "list", data := .seq (its.set j u).toArray n } := by
  simp [Obj.mapSeq]
theorem Inv.lst {pins : List (Addr × Obj)} {σ : St} {H : Hp} {s : Shared} {p : Addr} {xs : List V} (I : Inv X pins σ H s) (h : H p = some (.lst xs)) :
    ∃ (its : List Value) (n : Nat), Vals xs its ∧ s.heap.get? p = some { cls := .type "list", data := .seq its.toArray n } ∧ xs.length ≤ sizeLine := by
  obtain ⟨z, its, n, r, e⟩ := I.hok p _ h
  exact ⟨its, n, r, e, z⟩
/-- the list at p is written by an update of its object -/
theorem Inv.lstUpd {pins : List (Addr × Obj)} {σ : St} {H : Hp} {s : Shared} {p : Addr} {xs ys : List V} {its its' : List Value} {n n' : Nat} {f : Obj → Obj} (I : Inv X pins σ H s) (h : H p = some (.lst xs))
    (ho : s.heap.get? p = some { cls := .type "list", data := .seq its.toArray n }) (hf : f { cls := .type "list", data := .seq its.toArray n } = { cls := .type "list", data := .seq its'.toArray n' }) (r : Vals ys its') (hz : ys.length ≤ sizeLine) (t : Nat) :
    Inv X pins σ (upd H p (.lst ys)) { s with heap := s.heap.update p f, toks := t } := by
  have e : (s.heap.update p f).get? p = some { cls := .type "list", data := .seq its'.toArray n' } := by
    rw [Heap.get?_update_self f ho (by rw [hf] <;> rfl), hf]
  refine I.write (x := p) (e := p) (by rw [h]; trivial) (.inl rfl) (fun b u hb q => (Heap.get?_update_other _ _ (Ne.symm hb)).trans q) ⟨_, e⟩ ?_
  exact ⟨hz, its', n', r, e⟩
def rSetL : V → V → V → Hp → (Hp → Prop) → Prop := fun o i v H Q => ∃ p xs k j, o = .ref p ∧ i = .int k ∧ H p = some (.lst xs) ∧ ixN xs.length k = some j ∧ Q (upd H p (.lst (xs.set j v)))
theorem set_list : PSet X rSetL := by
  intro pins s σ H o i v ov iv u Q I ro ri rv h
  obtain ⟨p, xs, k, j, rfl, rfl, hp, hj, q⟩ := h
  cases ro
  obtain ⟨t, rfl⟩ := ri
  obtain ⟨its, n, r, ho, hz⟩ := I.lst hp
  obtain ⟨h1, h2, h3, h4⟩ := ixN_seq hj
  have hl := r.length
  have hn := line63
  have I' : Inv X pins σ (upd H p (.lst (xs.set j v))) { s with heap := s.heap.update p (Obj.mapSeq (·.setIfInBounds j u)) } :=
    I.lstUpd hp ho (mapSeq_set its n j u) (r.set rv j) (by rw [List.length_set]; exact hz) s.toks
  by_cases h0 : 0 ≤ k
  · have hk : k.toNat = j := by
      rw [seqIndex_of h0 h4] at h1
      exact Option.some.inj h1
    exact PySem.W.ki_setAt ho h0 (by omega) (by rw [List.size_toArray, ← hl]; exact h4) (by rw [hk]; exact ⟨_, I', q⟩)
  · have hk : (k + (its.toArray.size : Int)).toNat = j := by
      rw [seqIndex_neg (by omega) h3] at h1
      rw [List.size_toArray, ← hl]
      exact Option.some.inj h1
    exact PySem.W.ki_setBack ho (by omega) (by rw [List.size_toArray, ← hl]; exact h3) (by omega) (by rw [hk]; exact ⟨_, I', q⟩)

/-! ### slices -/
theorem slice_bounds (lo hi : Option Int) (n : Nat) : (sliceBounds lo hi none n).1 = ((HT.sIx n 0 lo : Nat) : Int) ∧ (sliceBounds lo hi none n).2.1 = ((HT.sIx n n hi : Nat) : Int) ∧ (sliceBounds lo hi none n).2.2 = 1 := by
  refine ⟨?_, ?_, rfl⟩
  · cases lo with
    | none => simp [sliceBounds, HT.sIx]
    | some i =>
      simp only [sliceBounds, HT.sIx, Option.getD_none, show (1 : Int) > 0 by decide, if_true]
      by_cases h : i < 0
      · simp only [h, if_true] <;> omega
      · simp only [h, if_false] <;> omega
  · cases hi with
    | none => simp [sliceBounds, HT.sIx]
    | some i =>
      simp only [sliceBounds, HT.sIx, Option.getD_none, show (1 : Int) > 0 by decide, if_true]
      by_cases h : i < 0
      · simp only [h, if_true] <;> omega
      · simp only [h, if_false] <;> omega
theorem slicePick_cut (its : List Value) (lo hi : Option Int) : slicePick its.toArray lo hi none = ((its.drop (HT.sIx its.length 0 lo)).take (HT.sIx its.length its.length hi - HT.sIx its.length 0 lo)).toArray := by
  obtain ⟨h1, h2, h3⟩ := slice_bounds lo hi its.toArray.size
  unfold slicePick
  rw [h1, h2, h3]
  simp only [sliceRange_one, pick_run, List.size_toArray] <;> rfl
/-- xs[lo:hi] of a list: a new list -/
def rSlL (K : PySem.W.Frag) : V → Option Int → Option Int → Hp → VK → Prop := fun x lo hi H Q => ∃ a xs, x = .ref a ∧ SqL K H a xs ∧ ∀ p, H p = none → Q (.ref p) (upd H p (.lst (cutV xs lo hi)))
theorem sl_list : SlR X (rSlL X.K) := by
  intro pins s σ H x v vl vu lo hi sl Q I rx hs pl pu h
  obtain ⟨a, xs, rfl, hx, q⟩ := h
  cases rx
  obtain ⟨its, r, ht, hz⟩ := I.list hx
  have hlen := r.length
  refine ⟨"list", _, slot_list_getitem.lookup, ht.isList.typeIs, ?_⟩
  refine wpAny_getItem_list_slice ht.isList hs pl pu .none (by simp) ?_ (by rw [List.size_toArray] <;> omega)
  rw [slicePick_cut, ← hlen]
  refine ⟨.ref s.heap.objs.size, _, I.laid (t' := s.toks) (o := .lst (cutV xs lo hi)) (fun b ob q => Heap.get?_push_of_some _ q) (Nat.le_refl _) ?_, rfl, q _ (I.hok.fresh (Nat.le_refl _))⟩
  exact ⟨Nat.le_trans (cutV_length xs lo hi) hz, _, 0, (r.drop (HT.sIx xs.length 0 lo)).take (HT.sIx xs.length xs.length hi - HT.sIx xs.length 0 lo), Heap.get?_push_size _ rfl⟩

/-! ### in, not in: flat items -/
def flatV : V → Bool
  | .non => true
  | .bl _ => true
  | .int _ => true
  | .str _ => true
  | _ => false
/-- == of flat values -/
def eqV : V → V → Bool
  | .non, .non => true
  | .bl a, .bl b => a == b
  | .bl a, .int b => (if a then 1 else 0) == b
  | .int a, .bl b => a == (if b then 1 else 0)
  | .int a, .int b => a == b
  | .str a, .str b => a == b
  | _, _ => false
theorem eqAt_V {A : Around} {s : Shared} {y x : V} {u v : Value} (ry : RelV y u) (rx : RelV x v) (fy : flatV y = true) (fx : flatV x = true) : SeqAt.EqAt A s u v (eqV y x) := by
  cases y with
  | non =>
    cases ry
    cases x with
    | non => cases rx; exact SeqAt.EqAt.same _
    | bl b => cases rx; exact SeqAt.EqAt.none_bool b
    | int b => obtain ⟨t, rfl⟩ := rx; exact SeqAt.EqAt.none_int b t
    | str b => obtain ⟨t, rfl⟩ := rx; exact SeqAt.EqAt.none_str b t
    | _ => exact absurd (show false = true from fx) Bool.false_ne_true
  | bl a =>
    cases ry
    cases x with
    | non => cases rx; exact SeqAt.EqAt.bool_none a
    | bl b => cases rx; exact SeqAt.EqAt.bool_bool a b
    | int b => obtain ⟨t, rfl⟩ := rx; exact SeqAt.EqAt.bool_int a b t
    | str b => obtain ⟨t, rfl⟩ := rx; exact SeqAt.EqAt.bool_str a b t
    | _ => exact absurd (show false = true from fx) Bool.false_ne_true
  | int a =>
    obtain ⟨t', rfl⟩ := ry
    cases x with
    | non => cases rx; exact SeqAt.EqAt.int_none a t'
    | bl b => cases rx; exact SeqAt.EqAt.int_bool a t' b
    | int b => obtain ⟨t, rfl⟩ := rx; exact SeqAt.EqAt.int_int a t' b t
    | str b => obtain ⟨t, rfl⟩ := rx; exact SeqAt.EqAt.int_str a t' b t
    | _ => exact absurd (show false = true from fx) Bool.false_ne_true
  | str a =>
    obtain ⟨t', rfl⟩ := ry
    cases x with
    | non => cases rx; exact SeqAt.EqAt.str_none a t'
    | bl b => cases rx; exact SeqAt.EqAt.str_bool a t' b
    | int b => obtain ⟨t, rfl⟩ := rx; exact SeqAt.EqAt.str_int a t' b t
    | str b => obtain ⟨t, rfl⟩ := rx; exact SeqAt.EqAt.str_str a t' b t
    | _ => exact absurd (show false = true from fx) Bool.false_ne_true
  | _ => exact absurd (show false = true from fy) Bool.false_ne_true
/-- the items' answers, read off the values (a value's own answer does not lean on its token) -/
def eqU (x : V) (u : Value) : Bool := match u with
  | .none => eqV .non x
  | .bool b => eqV (.bl b) x
  | .int i _ => eqV (.int i) x
  | .str z _ => eqV (.str z) x
  | _ => false
theorem eqU_of {x y : V} {u : Value} (r : RelV y u) (f : flatV y = true) : eqU x u = eqV y x := by
  cases y with
  | non => cases r; rfl
  | bl b => cases r; rfl
  | int i => obtain ⟨t, rfl⟩ := r; rfl
  | str z => obtain ⟨t, rfl⟩ := r; rfl
  | _ => exact absurd (show false = true from f) Bool.false_ne_true
theorem any_eqU {x : V} : ∀ {xs : List V} {us : List Value}, Vals xs us → xs.all flatV = true → us.any (eqU x) = xs.any fun y => eqV y x
  | _, _, .nil, _ => rfl
  | y :: xs, u :: us, .cons r t, f => by
    rw [List.all_cons, Bool.and_eq_true] at f
    rw [List.any_cons, List.any_cons, eqU_of r f.1, any_eqU t f.2]
theorem mem_eqAt {A : Around} {s : Shared} {x : V} {v : Value} (rx : RelV x v) (fx : flatV x = true) : ∀ {xs : List V} {us : List Value}, Vals xs us → xs.all flatV = true → ∀ u ∈ us, SeqAt.EqAt A s u v (eqU x u)
  | _, _, .nil, _ => fun u hu => by cases hu
  | y :: xs, u :: us, .cons r t, f => fun u' hu => by
    rw [List.all_cons, Bool.and_eq_true] at f
    rcases List.mem_cons.mp hu with rfl | hu
    · rw [eqU_of r f.1]; exact eqAt_V r rx f.1 fx
    · exact mem_eqAt rx fx t f.2 u' hu
def inV (x : V) (xs : List V) : Bool := xs.any fun y => eqV y x
/-- x in a list or tuple of flat items -/
def rIn (K : PySem.W.Frag) (neg : Bool) : R2 := fun x y H Q => ∃ p xs, y = .ref p ∧ (SqL K H p xs ∨ SqT K H p xs) ∧ flatV x = true ∧ xs.all flatV = true ∧ Q (.bl (if neg then !inV x xs else inV x xs)) H
theorem op_in_seq : OpR X (compareOp .In) (rIn X.K false) := by
  intro pins s σ H x y v u Q I rx ry h
  obtain ⟨p, xs, rfl, hq, fx, fs, q⟩ := h
  cases ry
  rcases hq with hq | hq
  · obtain ⟨its, r, pl, hz⟩ := I.list hq
    refine SeqAt.in_listAt (eqU x) pl.isList (fun w hw => mem_eqAt rx fx r fs w (by simpa using hw)) ⟨.bl _, H, I, rfl, ?_⟩
    rw [show its.toArray.any (eqU x) = its.any (eqU x) by simp, any_eqU r fs]
    exact q
  · obtain ⟨its, r, pl, hz⟩ := I.tuple hq
    refine SeqAt.in_tupleAt (eqU x) pl (fun w hw => mem_eqAt rx fx r fs w (by simpa using hw)) ⟨.bl _, H, I, rfl, ?_⟩
    rw [show its.toArray.any (eqU x) = its.any (eqU x) by simp, any_eqU r fs]
    exact q
theorem op_notIn_seq : OpR X (compareOp .NotIn) (rIn X.K true) := by
  intro pins s σ H x y v u Q I rx ry h
  obtain ⟨p, xs, rfl, hq, fx, fs, q⟩ := h
  cases ry
  rcases hq with hq | hq
  · obtain ⟨its, r, pl, hz⟩ := I.list hq
    refine SeqAt.notIn_listAt (eqU x) pl.isList (fun w hw => mem_eqAt rx fx r fs w (by simpa using hw)) ⟨.bl _, H, I, rfl, ?_⟩
    rw [show its.toArray.any (eqU x) = its.any (eqU x) by simp, any_eqU r fs]
    exact q
  · obtain ⟨its, r, pl, hz⟩ := I.tuple hq
    refine SeqAt.notIn_tupleAt (eqU x) pl (fun w hw => mem_eqAt rx fx r fs w (by simpa using hw)) ⟨.bl _, H, I, rfl, ?_⟩
    rw [show its.toArray.any (eqU x) = its.any (eqU x) by simp, any_eqU r fs]
    exact q

/-! ### len, list(x), tuple(x) of any list or tuple that is read -/
theorem call_len_seq : CallR X (.builtin "len") (fun xs H Q => ∃ p ys, xs = [.ref p] ∧ (SqL X.K H p ys ∨ SqT X.K H p ys) ∧ Q (.int ys.length) H) := by
  intro pins s σ H xs us Q I r h
  obtain ⟨p, ys, rfl, hq, q⟩ := h
  obtain ⟨u, rfl, rx⟩ := vals1 r
  cases rx
  have hn := line63
  rcases hq with hq | hq
  · obtain ⟨its, r', pl, hz⟩ := I.list hq
    have hlen := r'.length
    exact Calls.call_len_list pl.isList (by simp only [List.size_toArray] <;> omega) ⟨.int ys.length, H, I.tok _, ⟨s.toks + 1, by rw [List.size_toArray, hlen]⟩, q⟩
  · obtain ⟨its, r', pl, hz⟩ := I.tuple hq
    have hlen := r'.length
    exact len_tuple pl (by simp only [List.size_toArray] <;> omega) ⟨.int ys.length, H, I.tok _, ⟨s.toks + 1, by rw [List.size_toArray, hlen]⟩, q⟩

/-! ### the call of a builtin's method: o.m(..) -/
/-- the value is of that builtin type -/
def tyV (K : PySem.W.Frag) (T : String) (x : V) (H : Hp) : Prop := match x with
  | .str _ => T = "str"
  | .int _ => T = "int"
  | .ref p => (T = "list" ∧ ∃ xs, SqL K H p xs) ∨ (T = "tuple" ∧ ∃ o, K.lookup p = some o ∧ o.cls = .type "tuple" ∧ o.dict = none) ∨
      (T = "dict" ∧ ((∃ kvs, H p = some (.dK kvs)) ∨ ∃ kvs, H p = some (.dT kvs))) ∨ (T = "set" ∧ ∃ S n, H p = some (.set S n))
  | _ => False
theorem tyV_is {pins : List (Addr × Obj)} {σ : St} {H : Hp} {s : Shared} {T : String} {x : V} {v : Value} (I : Inv X pins σ H s) (r : RelV x v) (ty : tyV X.K T x H) :
    s.TypeIs v T ∧ ∀ a, v = .ref a → ∃ ob, s.heap.get? a = some ob ∧ ob.dict = none := by
  cases x with
  | str z =>
    obtain ⟨t, rfl⟩ := r
    cases (show T = "str" from ty)
    exact ⟨typeIs_str s z t, fun _ e => nomatch e⟩
  | int i =>
    obtain ⟨t, rfl⟩ := r
    cases (show T = "int" from ty)
    exact ⟨typeIs_int s i t, fun _ e => nomatch e⟩
  | ref p =>
    cases r
    rcases ty with ⟨rfl, xs, hq⟩ | ⟨rfl, o, hk, hc, hd⟩ | ⟨rfl, hk⟩ | ⟨rfl, S, n, hk⟩
    · obtain ⟨its, _, pl, _⟩ := I.list hq
      refine ⟨pl.isList.typeIs, fun a e => ?_⟩
      cases e
      obtain ⟨o, n, e, c, hd, _⟩ := pl
      exact ⟨o, e, hd⟩
    · refine ⟨⟨o, I.kIn p o hk, hc⟩, fun a e => ?_⟩
      cases e
      exact ⟨o, I.kIn _ o hk, hd⟩
    · have z : ∃ o, s.heap.get? p = some o ∧ o.ExactDict := by
        rcases hk with ⟨kvs, hk⟩ | ⟨kvs, hk⟩
        · obtain ⟨_, _, _, _, o, _, _, e, ex, _⟩ := I.hok p _ hk
          exact ⟨o, e, ex⟩
        · obtain ⟨_, _, _, _, o, _, _, e, ex, _⟩ := I.hok p _ hk
          exact ⟨o, e, ex⟩
      obtain ⟨o, e, ex⟩ := z
      refine ⟨⟨o, e, ex.1⟩, fun a e2 => ?_⟩
      cases e2
      exact ⟨o, e, ex.2.1⟩
    · obtain ⟨o, _, _, _, e, ex, _⟩ := I.hok p _ hk
      refine ⟨⟨o, e, ex.1⟩, fun a e2 => ?_⟩
      cases e2
      exact ⟨o, e, ex.2.1⟩
  | _ => exact False.elim ty
def tBM (K : PySem.W.Frag) (T : String) (r : V → List V → Hp → VK → Prop) (to : TE) (t : TA) : TE := fun σ H Q => to σ H fun x H1 => tyV K T x H1 ∧ t σ H1 fun xs H2 => r x xs H2 Q
variable {o e : Expr} {es : List Expr} {to : TE} {t : TA} {name : Str} {apos cpos : Pos} {T id : String} {r : V → List V → Hp → VK → Prop}
theorem pe_bm (pa : PlainAttrs T) (slot : Slot T name id) (hty : typeOf (.builtin id) = pure (.type "method_descriptor")) (hm : MtR X id r) (ho : PE X o to) (ha : PA X (e :: es) t)
    (hbase : attributeBase o name X.env (eval o X.env) = eval o X.env := by rfl)
    (hfew : ((backTo cpos (starEach (e :: es) X.env)).all (fun x => !x.1) && (backToKw cpos (keywordEach [] X.env)).all (fun x => x.1.isSome)
      && decide ((e :: es).length + ([] : List Keyword).length + (if ([] : List Keyword).isEmpty then 0 else 1) < 30)) = true := by rfl)
    (hline : (apos.endLine == cpos.line) = true := by rfl) (hs : starEach (e :: es) X.env = (false, eval e X.env) :: starEach es X.env := by rfl) (hplain : (backTo cpos (starEach es X.env)).any (·.1) = false := by rfl) :
    PE X (.Call (.Attribute o name apos) (e :: es) [] cpos) (tBM X.K T r to t) := by
  intro pins s σ H Q I h
  refine wpAny_Call_method_late hbase hfew hline rfl (thn (ho pins s σ H _ I h) fun v s1 ⟨x, H1, I1, r1, ty, q1⟩ => ?_)
  obtain ⟨h1, h2⟩ := tyV_is I1 r1 ty
  refine ⟨T, id, pa, slot, hty, h1, h2, ?_⟩
  have hA := ha cpos pins s1 σ H1 _ I1 q1
  rw [hs] at hA ⊢
  refine Calls.callWith_builtin (by show (false || (backTo cpos (starEach es X.env)).any (·.1)) = false; rw [hplain] <;> rfl) (Calls.evalArgs_plain ?_)
  exact thn hA fun us s2 ⟨vs, H2, I2, r2, q2⟩ => hm pins s2 σ H2 x vs v us Q I2 r1 r2 q2
/- xs.append(e), list.index on a module's tuple .. are MtR facts of 06m -/
end
end L2

namespace L2
open PySem PySem.Spec PyProof.Rows

def MtM (X : Cx) (id : String) (r : V → List V → Hp → VK → Prop) : Prop :=
  ∀ (pins : List (Addr × Obj)) (s : Shared) (σ : St) (H : Hp) (x : V) (xs : List V) (v : Value) (us : List Value) (Q : VK), Inv X pins σ H s → RelV x v → Vals xs us → r x xs H Q →
    wpAny (model X.prog X.w) X.A (call (.builtin id) (v :: us)) (EP X pins σ Q) X.xe s

/-! ### lists of values -/
theorem Vals.one : ∀ {x : V} {us : List Value}, Vals [x] us → ∃ u, us = [u] ∧ RelV x u
  | _, _, .cons r .nil => ⟨_, rfl, r⟩
theorem Vals.two : ∀ {x y : V} {us : List Value}, Vals [x, y] us → ∃ u v, us = [u, v] ∧ RelV x u ∧ RelV y v
  | _, _, _, .cons r (.cons q .nil) => ⟨_, _, rfl, r, q⟩

section
variable {X : Cx} {pins : List (Addr × Obj)} {σ : St} {H : Hp} {s : Shared} {l b : Addr} {xs ys zs : List V}

/-! ### the two steps: a tracked list is rewritten, a new list is laid -/
theorem Inv.lset {its its' : List Value} {n : Nat} {f : Array Value → Array Value} {t' : Nat} (I : Inv X pins σ H s) (hH : H l = some (.lst xs))
    (e : s.heap.get? l = some { cls := .type "list", data := .seq its.toArray n }) (hf : f its.toArray = its'.toArray) (hv : Vals ys its') (hz : ys.length ≤ sizeLine) :
    Inv X pins σ (upd H l (.lst ys)) { s with heap := s.heap.update l (Obj.mapSeq f), toks := t' } := by
  have q := PySem.IsL.update e f
  rw [hf] at q
  refine I.write (x := l) (e := l) (by rw [hH]; exact trivial) (.inl rfl) (fun b' u hb hu => (Heap.get?_update_other s.heap (Obj.mapSeq f) (Ne.symm hb)).trans hu) ⟨_, q⟩ ?_
  exact ⟨hz, its', _, hv, q⟩
theorem Inv.lnew {its : List Value} {t' : Nat} (I : Inv X pins σ H s) (hv : Vals ys its) (hz : ys.length ≤ sizeLine) :
    Inv X pins σ (upd H s.heap.objs.size (.lst ys)) { s with heap := s.heap.push { cls := .type "list", data := .seq its.toArray }, toks := t' } :=
  I.laid (fun _ _ q => Heap.get?_push_of_some _ q) (Nat.le_refl _) ⟨hz, its, 0, hv, Heap.get?_push_size _ rfl⟩
theorem Inv.fresh (I : Inv X pins σ H s) : H s.heap.objs.size = none := I.hok.fresh (Nat.le_refl _)
theorem Inv.lstM (I : Inv X pins σ H s) (hH : H l = some (.lst xs)) : xs.length ≤ sizeLine ∧ ∃ (its : List Value) (n : Nat), Vals xs its ∧ xs.length = its.length ∧ s.heap.get? l = some { cls := .type "list", data := .seq its.toArray n } := by
  obtain ⟨z, its, n, r, e⟩ := I.hok l _ hH
  exact ⟨z, its, n, r, r.length, e⟩

theorem notLongL {n : Nat} (h : n ≤ sizeLine) : Builtin.List.listTooLong n = false := by
  unfold Builtin.List.listTooLong
  exact decide_eq_false (by omega)
end

section
variable {X : Cx}

/-! ### methods -/
def rAppend : V → List V → Hp → VK → Prop := fun x vs H Q => ∃ l xs y, x = .ref l ∧ vs = [y] ∧ H l = some (.lst xs) ∧ xs.length < sizeLine ∧ Q .non (upd H l (.lst (xs ++ [y])))
theorem mt_append : MtM X "list.append" rAppend := by
  intro pins s σ H x vs v us Q I rx rv h
  obtain ⟨l, xs, y, rfl, rfl, hH, hz, q⟩ := h
  cases rx
  obtain ⟨u, rfl, ru⟩ := rv.one
  obtain ⟨z, its, n, r, hl, e⟩ := I.lstM hH
  refine call_meets F.slot_list_append ⟨_, e, rfl⟩ F.entry_list_append (F.args_list_append_2 _ _) (PySem.list_append l its.toArray n u (by rw [List.size_toArray]; omega)) ⟨e, ?_⟩
  refine ⟨.non, _, I.lset (its' := its ++ [u]) hH e (by simp) (r.append (.cons ru .nil)) ?_, rfl, q⟩
  rw [List.length_append, List.length_singleton]
  omega

def rExtend : V → List V → Hp → VK → Prop := fun x vs H Q => ∃ l b xs zs, x = .ref l ∧ vs = [.ref b] ∧ H l = some (.lst xs) ∧ H b = some (.lst zs) ∧ xs.length + zs.length ≤ sizeLine ∧ Q .non (upd H l (.lst (xs ++ zs)))
theorem mt_extend : MtM X "list.extend" rExtend := by
  intro pins s σ H x vs v us Q I rx rv h
  obtain ⟨l, b, xs, zs, rfl, rfl, hH, hB, hz, q⟩ := h
  cases rx
  obtain ⟨u, rfl, ru⟩ := rv.one
  cases ru
  obtain ⟨z, its, n, r, hl, e⟩ := I.lstM hH
  obtain ⟨z2, its2, n2, r2, hl2, e2⟩ := I.lstM hB
  have hsz : its.toArray.size + its2.toArray.size ≤ sizeLine := by rw [List.size_toArray, List.size_toArray]; omega
  have hlong : ¬ (!its.toArray.isEmpty && Builtin.List.listTooLong (its.toArray.size + its2.toArray.size)) = true := by
    rw [notLongL hsz, Bool.and_false]
    exact Bool.false_ne_true
  refine call_meets F.slot_list_extend ⟨_, e, rfl⟩ F.entry_list_extend (F.args_list_extend_2 _ _)
    (AutoSeq1.list_extend_list_list_0 l its.toArray n b its2.toArray n2 hlong (by rw [List.size_toArray]; omega) (by omega)) ⟨e, e2, ?_⟩
  refine ⟨.non, _, I.lset (its' := its ++ its2) hH e (by simp) (r.append r2) ?_, rfl, q⟩
  rw [List.length_append]
  omega





/-! ### list + list, list += list, list * int -/
def rCat : R2 := fun x y H Q => ∃ l b xs zs, x = .ref l ∧ y = .ref b ∧ H l = some (.lst xs) ∧ H b = some (.lst zs) ∧ xs.length + zs.length ≤ sizeLine ∧ ∀ p, H p = none → Q (.ref p) (upd H p (.lst (xs ++ zs)))
theorem op_cat : OpR X (binaryOp .Add) rCat := by
  intro pins s σ H x y v u Q I rx ry h
  obtain ⟨l, b, xs, zs, rfl, rfl, hH, hB, hz, q⟩ := h
  cases rx
  cases ry
  obtain ⟨z, its, n, r, hl, e⟩ := I.lstM hH
  obtain ⟨z2, its2, n2, r2, hl2, e2⟩ := I.lstM hB
  refine PySem.P.add_list e e2 ?_ (by rw [List.size_toArray, List.size_toArray]; omega)
  have ea : its.toArray ++ its2.toArray = (its ++ its2).toArray := by simp
  rw [ea]
  exact ⟨.ref _, _, I.lnew (t' := s.toks) (r.append r2) (by rw [List.length_append]; omega), rfl, q _ I.fresh⟩

/-! ### del xs[i] -/
end

/-! ### xs[a:b] = ys -/
section
variable {prog : Program} {w : World} {A : Around} {E : Value → Shared → Prop} {s : Shared}
end

section
variable {X : Cx}
end
end L2

namespace L2
open PySem PySem.Spec PyProof.Rows

theorem Vals.ints : ∀ {ns : List Int} {us : List Value}, Vals (ns.map V.int) us → IntsAre us ns
  | [], us, h => by
    rw [List.map_nil] at h
    cases h
    exact IntsAre.nil
  | n :: ns, us, h => by
    rw [List.map_cons] at h
    cases h with
    | cons r t =>
      obtain ⟨k, rfl⟩ := r
      exact IntsAre.cons n k (Vals.ints t)
theorem Vals.bls : ∀ {bs : List Bool} {us : List Value}, Vals (bs.map V.bl) us → us = bs.map Value.bool
  | [], us, h => by
    rw [List.map_nil] at h
    cases h
    rfl
  | b :: bs, us, h => by
    rw [List.map_cons] at h
    cases h with
    | cons r t =>
      cases r
      rw [Vals.bls t, List.map_cons]
theorem Vals.ref1 {a : Addr} {us : List Value} (r : Vals [V.ref a] us) : us = [Value.ref a] := by
  cases r with
  | cons r t =>
    cases t
    cases r
    rfl

/-! ### the library's walks over a list of ints, kept objects alone -/
section
variable {prog : Program} {w : World} {A : Around} {E : Value → Shared → Prop} {s : Shared} {l : Addr} {its : List Value} {ns : List Int} {Q : Value → Shared → Prop}
theorem sum_raw (hh : A.handled = none) (hl : s.heap.IsList l its.toArray) (hi : IntsAre its ns)
    (h : ∀ h' tk t', (∀ b o, s.heap.get? b = some o → h'.get? b = some o) → Q (.int ns.sum t') { s with heap := h', toks := tk }) : wpAny (model prog w) A (call (.builtin "sum") [.ref l]) Q E s := by
  obtain ⟨xs, e⟩ := hi.allInts.items
  have hn : numsOf (intItems xs).toList = ns := by rw [← e]; exact hi.numsOf
  rw [nums_intItems] at hn
  rw [e] at hl
  refine PySem.sum_intListG hh hl fun h' tk t' hk => ?_
  have := h h' tk t' hk
  rw [preSum_eq, List.take_of_length_le (by simp), hn]; exact this
theorem max_raw (hh : A.handled = none) (hl : s.heap.IsList l its.toArray) (hi : IntsAre its ns) (hne : 0 < ns.length)
    (h : ∀ h' tk M t', (∀ b o, s.heap.get? b = some o → h'.get? b = some o) → M ∈ ns → (∀ a, a ∈ ns → a ≤ M) → Q (.int M t') { s with heap := h', toks := tk }) : wpAny (model prog w) A (call (.builtin "max") [.ref l]) Q E s := by
  obtain ⟨xs, e⟩ := hi.allInts.items
  have hn : numsOf (intItems xs).toList = ns := by rw [← e]; exact hi.numsOf
  rw [nums_intItems] at hn
  subst hn
  rw [e] at hl
  have hsz : 0 < xs.size := by simpa using hne
  refine PySem.max_intList hh hl hsz fun v h' tk hv hk => ?_
  obtain ⟨t, rfl⟩ := intItems_at hv
  obtain ⟨h1, h2⟩ := argBest_gt (numAt xs) (xs.size - 1)
  refine h h' tk _ t hk ?_ fun a ha => ?_
  · rw [numAt_eq]; exact PySem.getD_mem (by rw [List.length_map, Array.length_toList]; omega)
  · obtain ⟨j, hj, rfl⟩ := mem_getD ha
    rw [List.length_map, Array.length_toList] at hj
    rw [← numAt_eq]; exact h2 j (by omega)
end

/-! ### the calls, by values (CallR of 03t; MtR of 06l) -/
section
variable {X : Cx}
/-- sum(xs) of a list of ints -/
def rSum (K : PySem.W.Frag) : List V → Hp → VK → Prop := fun vs H Q => ∃ (a : Addr) (ns : List Int), vs = [V.ref a] ∧ SqL K H a (ns.map V.int) ∧ Q (.int ns.sum) H
/-- max(xs), min(xs) of a list of ints -/
def rMax (K : PySem.W.Frag) : List V → Hp → VK → Prop := fun vs H Q => ∃ (a : Addr) (ns : List Int), vs = [V.ref a] ∧ SqL K H a (ns.map V.int) ∧ 0 < ns.length ∧ ∀ m, m ∈ ns → (∀ y, y ∈ ns → y ≤ m) → Q (.int m) H
theorem cr_sum (hc : X.calm = true) : CallR X (.builtin "sum") (rSum X.K) := by
  intro pins s σ H vs us Q I r h
  obtain ⟨a, ns, rfl, hs, q⟩ := h
  obtain ⟨its, rv, hl, _⟩ := I.list hs
  rw [Vals.ref1 r]
  exact sum_raw (I.ok.hd hc) hl.isList rv.ints fun h' tk t' hk => ⟨.int _, H, I.kept hk, ⟨_, rfl⟩, q⟩
theorem cr_max (hc : X.calm = true) : CallR X (.builtin "max") (rMax X.K) := by
  intro pins s σ H vs us Q I r h
  obtain ⟨a, ns, rfl, hs, hne, q⟩ := h
  obtain ⟨its, rv, hl, _⟩ := I.list hs
  rw [Vals.ref1 r]
  exact max_raw (I.ok.hd hc) hl.isList rv.ints hne fun h' tk m t' hk h1 h2 => ⟨.int _, H, I.kept hk, ⟨_, rfl⟩, q m h1 h2⟩

/-! sorted, sort (fewer than 64 items: the library's own bound) -/
end

/-! ### list.index, flat items -/
section
variable {X : Cx}
end

/-! ### type(x) of an own instance; is, is not of a module's class -/
section
variable {X : Cx}
end

/-! ### any(xs), all(xs) of a list of bools -/
theorem iter_any {prog : Program} {w : World} {A : Around} {E : Value → Shared → Prop} {s : Shared} {l : Addr} {items : Array Value} {Q : Value → Shared → Prop} (hl : s.heap.IsList l items)
    (h : ∀ s₂ : Shared, s₂ = { s with heap := s.heap.push { cls := .type "list_iterator", data := .fields #[.ref l, .int 0 0] } } →
      (s₂.heap.IsListIter s.heap.objs.size l 0 ∧ s₂.heap.IsList l items) → l ≠ s.heap.objs.size → Q (.ref s.heap.objs.size) s₂) : wpAny (model prog w) A (pyIter (.ref l)) Q E s := by
  have hlt : l < s.heap.objs.size := by obtain ⟨_, e, _⟩ := hl; exact Heap.lt_size e
  exact wpAny_pyIter_list hl (h _ rfl ⟨⟨_, Heap.get?_push_size _ rfl, rfl, rfl⟩, hl.push _⟩ (Nat.ne_of_lt hlt))
theorem truth_bools {prog : Program} {w : World} {A : Around} {bs : List Bool} {its : List Value} (e : its = bs.map Value.bool) :
    TruthOf prog w A (fun i v => its.toArray[i]? = some v) (fun i => bs.getD i false) := fun i v s Q E hv hq => by
  have hv' : its[i]? = some v := by simpa using hv
  rw [e, List.getElem?_map] at hv'
  obtain ⟨b, hb, rfl⟩ := Option.map_eq_some_iff.mp hv'
  have hg : bs.getD i false = b := by rw [List.getD_eq_getElem?_getD, hb] <;> rfl
  have hq' : Q (bs.getD i false) s := hq
  rw [hg] at hq'
  exact wpAny_truthy_bool hq'
theorem any_range : ∀ bs : List Bool, (List.range bs.length).any (fun i => bs.getD i false) = bs.any id
  | [] => rfl
  | b :: bs => by
    rw [List.length_cons, List.range_succ_eq_map, List.any_cons, List.any_map, List.any_cons, ← any_range bs]
    all_goals rfl
theorem all_range : ∀ bs : List Bool, (List.range bs.length).all (fun i => bs.getD i false) = bs.all id
  | [] => rfl
  | b :: bs => by
    rw [List.length_cons, List.range_succ_eq_map, List.all_cons, List.all_map, List.all_cons, ← all_range bs]
    all_goals rfl
section
variable {X : Cx}
def rAny (K : PySem.W.Frag) : List V → Hp → VK → Prop := fun vs H Q => ∃ (a : Addr) (bs : List Bool), vs = [V.ref a] ∧ SqL K H a (bs.map V.bl) ∧ Q (.bl (bs.any id)) H
def rAll (K : PySem.W.Frag) : List V → Hp → VK → Prop := fun vs H Q => ∃ (a : Addr) (bs : List Bool), vs = [V.ref a] ∧ SqL K H a (bs.map V.bl) ∧ Q (.bl (bs.all id)) H
theorem cr_any (hc : X.calm = true) : CallR X (.builtin "any") (rAny X.K) := by
  intro pins s σ H vs us Q I r h
  obtain ⟨a, bs, rfl, hs, q⟩ := h
  obtain ⟨its, rv, hl, _⟩ := I.list hs
  rw [Vals.ref1 r]
  have hb := rv.bls
  refine call_any_walk (iter_any hl.isList fun s₂ e2 st hne => ?_)
  subst e2
  refine ⟨_, _, _, _, _, _, _, rfl, Walks.list (A := X.A.in1) (I.ok.hd hc) _ a hne its.toArray, st, truth_bools hb, fun h' tk hk => ?_⟩
  refine ⟨.bl _, H, I.kept fun b o eo => hk b o (fun hmem => ?_) (Heap.get?_push_of_some _ eo), ?_, q⟩
  · rcases List.mem_cons.mp hmem with e1 | hmem
    · exact absurd (e1 ▸ Heap.lt_size eo) (Nat.lt_irrefl _)
    · cases hmem
  · show Value.bool _ = Value.bool _
    rw [← any_range, hb, List.size_toArray, List.length_map]
theorem cr_all (hc : X.calm = true) : CallR X (.builtin "all") (rAll X.K) := by
  intro pins s σ H vs us Q I r h
  obtain ⟨a, bs, rfl, hs, q⟩ := h
  obtain ⟨its, rv, hl, _⟩ := I.list hs
  rw [Vals.ref1 r]
  have hb := rv.bls
  refine call_all_walk (iter_any hl.isList fun s₂ e2 st hne => ?_)
  subst e2
  refine ⟨_, _, _, _, _, _, _, rfl, Walks.list (A := X.A.in1) (I.ok.hd hc) _ a hne its.toArray, st, truth_bools hb, fun h' tk hk => ?_⟩
  refine ⟨.bl _, H, I.kept fun b o eo => hk b o (fun hmem => ?_) (Heap.get?_push_of_some _ eo), ?_, q⟩
  · rcases List.mem_cons.mp hmem with e1 | hmem
    · exact absurd (e1 ▸ Heap.lt_size eo) (Nat.lt_irrefl _)
    · cases hmem
  · show Value.bool _ = Value.bool _
    rw [← all_range, hb, List.size_toArray, List.length_map]
end

/-! ### == and != of data at any depth: none, bools, ints, texts, lists, tuples -/
section
variable {X : Cx} {pins : List (Addr × Obj)} {σ : St} {H : Hp} {s : Shared}
end
section
variable {X : Cx}
end
end L2

namespace L2
open PySem PySem.Spec PyProof.Rows
abbrev CellAt (h : Heap) (c : Addr) (v : Option Value) : Prop := h.IsCell c v
def relS (scope sc : Scope) : Scope :=
  { scope with names := scope.names.map fun (n, k) => if (k == .free && sc.kind == .function && sc.names.lookup n == some .cell) then (n, .cell) else (n, k) }

def cloFrom (cells : List (Str × Addr)) : List (Str × NameKind) → List (Str × Addr) → List (Str × Addr)
  | [], acc => acc
  | (n, k) :: r, acc => if k == .free then cloFrom cells r ((n, (cells.lookup n).getD 0) :: acc) else cloFrom cells r acc

theorem closure_loop (env : Env) (f : Str × NameKind → List (Str × Addr) → Sem (ForInStep (List (Str × Addr))))
    (hf : ∀ n k c, f (n, k) c = if k == .free then (do let a ← cellOf env n; pure (.yield ((n, a) :: c))) else pure (.yield c)) :
    ∀ (names : List (Str × NameKind)) (acc : List (Str × Addr)), (∀ y ∈ names, y.2 = .free → ∃ c, env.cells.lookup y.1 = some c) → forIn names acc f = pure (cloFrom env.cells names acc)
  | [], acc, _ => by rw [List.forIn_nil]; rfl
  | (n, k) :: r, acc, h => by
    rw [List.forIn_cons, hf]
    have ih := fun acc => closure_loop env f hf r acc fun y hy => h y (List.mem_cons_of_mem _ hy)
    unfold cloFrom
    by_cases hk : (k == NameKind.free) = true
    · rw [if_pos hk, if_pos hk]
      obtain ⟨c, hc⟩ := h (n, k) List.mem_cons_self (by simpa using hk)
      have e : cellOf env n = pure c := by unfold cellOf; rw [hc]
      rw [e]
      have e2 : (env.cells.lookup n).getD 0 = c := by rw [hc]; rfl
      rw [e2]
      exact ih _
    · rw [if_neg hk, if_neg hk]
      exact ih _
theorem closure_ok {scope : Scope} {env : Env} (h : ∀ y ∈ scope.names, y.2 = .free → ∃ c, env.cells.lookup y.1 = some c) : closureFor scope env = pure (cloFrom env.cells scope.names []) := by
  simp only [closureFor]
  rw [closure_loop env _ (fun n k c => rfl) scope.names [] h]
  rfl

theorem mem_lookup {α : Type} : ∀ {l : List (Str × α)} {n : Str} {c : α}, (n, c) ∈ l → ∃ c', l.lookup n = some c'
  | (k, v) :: r, n, c, h => by
    rw [List.lookup_cons]
    cases hb : n == k with
    | true => exact ⟨_, rfl⟩
    | false =>
      rcases List.mem_cons.mp h with e | h
      · cases e; simp at hb
      · exact mem_lookup h

theorem cloFrom_mem {cells : List (Str × Addr)} : ∀ {names : List (Str × NameKind)} {acc : List (Str × Addr)} {n : Str} {c : Addr}, (n, c) ∈ cloFrom cells names acc → (n, c) ∈ acc ∨ ((n, .free) ∈ names ∧ c = (cells.lookup n).getD 0)
  | [], _, _, _, h => .inl h
  | (m, k) :: r, acc, n, c, h => by
    unfold cloFrom at h
    split at h
    · rename_i hk
      have hk : k = .free := by simpa using hk
      rcases cloFrom_mem h with h | ⟨h1, h2⟩
      · rcases List.mem_cons.mp h with e | h
        · cases e; exact .inr ⟨hk ▸ List.mem_cons_self, rfl⟩
        · exact .inl h
      · exact .inr ⟨List.mem_cons_of_mem _ h1, h2⟩
    · rcases cloFrom_mem h with h | ⟨h1, h2⟩
      · exact .inl h
      · exact .inr ⟨List.mem_cons_of_mem _ h1, h2⟩
theorem cloFrom_acc {cells : List (Str × Addr)} : ∀ {names : List (Str × NameKind)} {acc : List (Str × Addr)} {p : Str × Addr}, p ∈ acc → p ∈ cloFrom cells names acc
  | [], _, _, h => h
  | (m, k) :: r, acc, p, h => by
    unfold cloFrom
    split
    · exact cloFrom_acc (List.mem_cons_of_mem _ h)
    · exact cloFrom_acc h
theorem cloFrom_has {cells : List (Str × Addr)} : ∀ {names : List (Str × NameKind)} {acc : List (Str × Addr)} {n : Str}, (n, .free) ∈ names → (n, (cells.lookup n).getD 0) ∈ cloFrom cells names acc
  | (m, k) :: r, acc, n, h => by
    unfold cloFrom
    rcases List.mem_cons.mp h with e | h
    · cases e
      exact cloFrom_acc List.mem_cons_self
    · split
      · exact cloFrom_has h
      · exact cloFrom_has h

theorem cells_mem : ∀ {names : List (Str × NameKind)} {h : Heap} {acc : List (Str × Addr)} {x : Str} {c : Addr}, (x, c) ∈ cellsFrom h.objs.size names acc →
    (x, c) ∈ acc ∨ ((x, .cell) ∈ names ∧ h.objs.size ≤ c ∧ CellAt (pushCells h names) c none)
  | [], _, _, _, _, h => .inl h
  | (n, k) :: r, h, acc, x, c, hm => by
    unfold cellsFrom at hm
    unfold pushCells
    split at hm
    · rename_i hk
      rw [if_pos hk]
      have hk : k = .cell := by simpa using hk
      rw [← Heap.size_push h { cls := .type "cell", data := .cell none }] at hm
      rcases cells_mem hm with hm | ⟨h1, h2, h3⟩
      · rcases List.mem_cons.mp hm with e | hm
        · cases e
          exact .inr ⟨hk ▸ List.mem_cons_self, Nat.le_refl _, _, pushCells_keeps r _ _ _ (Heap.get?_push_size _ rfl), rfl⟩
        · exact .inl hm
      · rw [Heap.size_push] at h2
        exact .inr ⟨List.mem_cons_of_mem _ h1, Nat.le_of_succ_le h2, h3⟩
    · rename_i hk
      rw [if_neg hk]
      rcases cells_mem hm with hm | ⟨h1, h2, h3⟩
      · exact .inl hm
      · exact .inr ⟨List.mem_cons_of_mem _ h1, h2, h3⟩
theorem cells_acc : ∀ {names : List (Str × NameKind)} {n : Nat} {acc : List (Str × Addr)} {p : Str × Addr}, p ∈ acc → p ∈ cellsFrom n names acc
  | [], _, _, _, h => h
  | (m, k) :: r, n, acc, p, h => by
    unfold cellsFrom
    split
    · exact cells_acc (List.mem_cons_of_mem _ h)
    · exact cells_acc h
theorem cells_has : ∀ {names : List (Str × NameKind)} {n : Nat} {acc : List (Str × Addr)} {x : Str}, (x, .cell) ∈ names → ∃ c, (x, c) ∈ cellsFrom n names acc
  | (m, k) :: r, n, acc, x, h => by
    unfold cellsFrom
    rcases List.mem_cons.mp h with e | h
    · cases e
      exact ⟨n, cells_acc List.mem_cons_self⟩
    · split
      · exact cells_has h
      · exact cells_has h
theorem cells_inj : ∀ {names : List (Str × NameKind)} {h : Heap} {acc : List (Str × Addr)} {x y : Str} {c : Addr}, (∀ p ∈ acc, p.2 < h.objs.size) → (∀ x y c, (x, c) ∈ acc → (y, c) ∈ acc → x = y) →
    (x, c) ∈ cellsFrom h.objs.size names acc → (y, c) ∈ cellsFrom h.objs.size names acc → x = y
  | [], _, _, _, _, _, _, hi, h1, h2 => hi _ _ _ h1 h2
  | (n, k) :: r, h, acc, x, y, c, hl, hi, h1, h2 => by
    unfold cellsFrom at h1 h2
    split at h1
    · rename_i hk
      rw [if_pos hk] at h2
      rw [← Heap.size_push h { cls := .type "cell", data := .cell none }] at h1 h2
      refine cells_inj (h := h.push _) (fun p hp => ?_) (fun x y c a b => ?_) h1 h2
      · rw [Heap.size_push]
        rcases List.mem_cons.mp hp with rfl | hp
        · exact Nat.lt_succ_self _
        · exact Nat.lt_succ_of_lt (hl p hp)
      · rcases List.mem_cons.mp a with e | a <;> rcases List.mem_cons.mp b with e' | b
        · cases e; cases e'; rfl
        · cases e; exact absurd (hl _ b) (Nat.lt_irrefl _)
        · cases e'; exact absurd (hl _ a) (Nat.lt_irrefl _)
        · exact hi _ _ _ a b
    · rename_i hk
      rw [if_neg hk] at h2
      exact cells_inj hl hi h1 h2

theorem newEnv_comp {M : Model} {A : Around} {E : Value → Shared → Prop} {s : Shared} {scope : Scope} {globals : Addr} {closure : List (Str × Addr)} {qual : Str} {func : Option Addr} {code : Value} {around : Env} {builtins : Addr} {Q : Env → Shared → Prop}
    (h : Q (newEnv scope s.heap.objs.size globals (cellsFrom (s.heap.objs.size + 1) scope.names closure) qual func code (some around) builtins)
      { s with heap := pushCells (s.heap.push { cls := .type "dict", data := .dict #[] }) scope.names }) :
    wpAny M A (newFunctionEnv scope globals closure [] qual func code (some around) builtins) Q E s := by
  simp only [newFunctionEnv, Option.isSome_some, if_true]
  refine wpAny_bind (wpAny_alloc ?_)
  refine wpAny_bind (wpAny_layCells _ (fun n k c => rfl) scope.names closure _ _ ?_)
  rw [show ({ s with heap := s.heap.push { cls := .type "dict", data := .dict #[] } } : Shared).heap.objs.size = s.heap.objs.size + 1 from Heap.size_push ..]
  rw [List.forIn_nil]
  exact wpAny_bind (wpAny_pure (wpAny_pure h))

/-- every name of the written scope, in the scope that runs -/
theorem lookup_relS {sc : Scope} : ∀ {names : List (Str × NameKind)} {x : Str} {k : NameKind},
    (names.map fun (n, k) => if (k == NameKind.free && sc.kind == .function && sc.names.lookup n == some .cell) then (n, NameKind.cell) else (n, k)).lookup x = some k →
    ∃ k', names.lookup x = some k' ∧ (k = k' ∨ (k' = .free ∧ k = .cell))
  | [], _, _, h => by simp at h
  | (n, k₀) :: r, x, k, h => by
    have ih := @lookup_relS sc r x k
    have h' : List.lookup x ((if (k₀ == NameKind.free && sc.kind == .function && sc.names.lookup n == some .cell) = true then (n, NameKind.cell) else (n, k₀)) :: (r.map _)) = some k := h
    cases hx : x == n with
    | true =>
      simp only [List.lookup_cons, hx]
      by_cases hc : (k₀ == NameKind.free && sc.kind == .function && sc.names.lookup n == some .cell) = true
      · rw [if_pos hc] at h'
        simp only [List.lookup_cons, hx] at h'
        cases h'
        simp only [Bool.and_eq_true, beq_iff_eq] at hc
        exact ⟨k₀, rfl, .inr ⟨hc.1.1, rfl⟩⟩
      · rw [if_neg hc] at h'
        simp only [List.lookup_cons, hx] at h'
        cases h'
        exact ⟨_, rfl, .inl rfl⟩
    | false =>
      simp only [List.lookup_cons, hx]
      by_cases hc : (k₀ == NameKind.free && sc.kind == .function && sc.names.lookup n == some .cell) = true
      · rw [if_pos hc] at h'
        simp only [List.lookup_cons, hx] at h'
        exact ih h'
      · rw [if_neg hc] at h'
        simp only [List.lookup_cons, hx] at h'
        exact ih h'



/-- the names of a comprehension's block: its own (with their places in N), or captured -/
structure BlkOk (N : List Str) (sc scope : Scope) (own : List (Str × Nat)) : Prop where
  kind : scope.kind = .function
  uniq : ∀ y ∈ scope.names, scope.names.lookup y.1 = some y.2
  ix : ∀ p ∈ own, N[p.2]? = some p.1
  free : ∀ y ∈ scope.names, y.2 = .free → sc.names.lookup y.1 = some .cell ∨ sc.names.lookup y.1 = some .free
  own : ∀ y ∈ scope.names, y.2 = .local ∨ y.2 = .cell → y.1 ∈ own.map (·.1) ∨ y.1 ∉ N
/-- the slots of the block's own names forgotten -/
def wipe (σ : St) : List Nat → St
  | [] => σ
  | v :: vs => (wipe σ vs).set v none
theorem wipe_length (σ : St) : ∀ vs : List Nat, (wipe σ vs).length = σ.length
  | [] => rfl
  | v :: vs => by unfold wipe; rw [List.length_set, wipe_length σ vs]
theorem wipe_some {σ : St} {i : Nat} {x : V} : ∀ {vs : List Nat}, (wipe σ vs)[i]? = some (some x) → σ[i]? = some (some x) ∧ i ∉ vs
  | [], h => ⟨h, by simp⟩
  | v :: vs, h => by
    unfold wipe at h
    by_cases hi : v = i
    · subst hi
      by_cases hv : v < (wipe σ vs).length
      · rw [List.getElem?_set_self hv] at h; cases h
      · rw [List.getElem?_eq_none (by simpa using hv)] at h; cases h
    · rw [List.getElem?_set_ne hi] at h
      obtain ⟨h1, h2⟩ := wipe_some h
      exact ⟨h1, by simp only [List.mem_cons, not_or]; exact ⟨fun e => hi e.symm, h2⟩⟩

/-- the context of a block that starts at s, its iterator's objects at fp -/
abbrev Cx.blk (X : Cx) (s : Shared) (H : Hp) (scope : Scope) (cenv : Env) (fp : List Addr) : Cx := { X with s_0 := s, H_0 := H, env := cenv, outer := X.stack, ex := fp, fn := fun x => scope.names.lookup x == some .cell, pn := [], xe := fun _ _ => False }
section
variable {X : Cx} {pins : List (Addr × Obj)} {σ : St} {H : Hp} {s : Shared}
theorem block_start {scope : Scope} {own : List (Str × Nat)} {fp : List Addr} (I : Inv X pins σ H s) (ok : BlkOk X.N X.env.scope scope own) (hN : X.N.Nodup) (hfp : ∀ b ∈ fp, FpOk X pins H b ∧ b < s.heap.objs.size) :
    Inv (X.blk s H scope (compEnvC scope (cellsFrom (s.heap.objs.size + 1) scope.names (cloFrom X.env.cells scope.names [])) s.heap.objs.size X.env) fp) [] (wipe σ (own.map (·.2))) H { s with heap := pushCells (s.heap.push { cls := .type "dict", data := .dict #[] }) scope.names } := by
  have hfree : ∀ y ∈ scope.names, y.2 = .free → ∃ c, X.env.cells.lookup y.1 = some c := fun y hy e => by
    rcases ok.free y hy e with k | k
    · exact I.ok.has _ (.inl k)
    · exact I.ok.has _ (.inr k)
  generalize hcenv : compEnvC scope (cellsFrom (s.heap.objs.size + 1) scope.names (cloFrom X.env.cells scope.names [])) s.heap.objs.size X.env = cenv
  have kp : ∀ b o, s.heap.get? b = some o → (pushCells (s.heap.push { cls := .type "dict", data := .dict #[] }) scope.names).get? b = some o := fun b o e => pushCells_keeps _ _ _ _ (Heap.get?_push_of_some _ e)
  have hL : cenv.locals = s.heap.objs.size := by rw [← hcenv]; rfl
  have hcl : cenv.cells = cellsFrom (s.heap.objs.size + 1) scope.names (cloFrom X.env.cells scope.names []) := by rw [← hcenv]; rfl
  have hsc : cenv.scope = relS scope X.env.scope := by rw [← hcenv]; rfl
  rw [← Heap.size_push s.heap { cls := .type "dict", data := .dict #[] }] at hcl
  have cm : ∀ {y c}, (y, c) ∈ cloFrom X.env.cells scope.names [] → X.env.cells.lookup y = some c ∧ c < s.heap.objs.size := fun {y c} hm => by
    rcases cloFrom_mem hm with hm | ⟨h1, rfl⟩
    · cases hm
    · obtain ⟨c, hc⟩ := hfree _ h1 rfl
      rw [hc]
      obtain ⟨w, z⟩ := I.cell _ _ hc
      exact ⟨rfl, z.lt⟩
  have mem : ∀ {y c}, cenv.cells.lookup y = some c → (X.env.cells.lookup y = some c ∧ c < s.heap.objs.size) ∨ (s.heap.objs.size + 1 ≤ c ∧ CellAt (pushCells (s.heap.push { cls := .type "dict", data := .dict #[] }) scope.names) c none) := fun {y c} e => by
    rw [hcl] at e
    rcases cells_mem (PySem.mem_of_lookup e) with hm | ⟨_, h2, h3⟩
    · exact .inl (cm hm)
    · rw [Heap.size_push] at h2; exact .inr ⟨h2, h3⟩
  have look : ∀ {y}, scope.names.lookup y = some .free → ∃ c, cenv.cells.lookup y = some c ∧ X.env.cells.lookup y = some c := fun {y} hl => by
    have hy : (y, NameKind.free) ∈ scope.names := PySem.mem_of_lookup hl
    obtain ⟨c', e'⟩ := mem_lookup (cells_acc (names := scope.names) (n := (s.heap.push { cls := .type "dict", data := .dict #[] }).objs.size) (cloFrom_has (cells := X.env.cells) (acc := []) hy))
    rw [← hcl] at e'
    refine ⟨c', e', ?_⟩
    rw [hcl] at e'
    rcases cells_mem (PySem.mem_of_lookup e') with hm | ⟨h1, _, _⟩
    · exact (cm hm).1
    · have := ok.uniq _ h1
      rw [hl] at this; cases this
  have okB : (X.blk s H scope cenv fp).Ok := by
    refine ⟨I.ok.mod, by show cenv.scope.kind = _; rw [hsc]; exact ok.kind, by show cenv.globals = _; rw [← hcenv]; exact I.ok.glob, by show cenv.builtins = _; rw [← hcenv]; exact I.ok.blt, by show s.heap.objs.size ≤ cenv.locals; rw [hL]; exact Nat.le_refl _,
      fun y z c e1 e2 => ?_, fun y hy => ?_, fun y c z e => ?_, I.ok.hd, I.ok.frames, .inl rfl, fun b hb => ⟨?_, fun y c e z => ?_⟩, I.bs, Nat.le_trans I.ok.bsz I.sz, fun b o e hb => ?_, fun b hb z => ?_, I.stack, I.stkFree⟩
    · have e1 : cenv.cells.lookup y = some c := e1
      have e2 : cenv.cells.lookup z = some c := e2
      rw [hcl] at e1 e2
      refine cells_inj (fun p hp => ?_) (fun y z c a b => I.ok.inj y z c (cm a).1 (cm b).1) (PySem.mem_of_lookup e1) (PySem.mem_of_lookup e2)
      rw [Heap.size_push]
      exact Nat.lt_succ_of_lt (cm (y := p.1) (c := p.2) hp).2
    · show ∃ c, cenv.cells.lookup y = some c
      have key : ∀ k, cenv.kindOf y = some k → (k = .cell ∨ k = .free) → ∃ c, cenv.cells.lookup y = some c := fun k hk hk' => by
        unfold Env.kindOf at hk
        rw [hsc] at hk
        obtain ⟨k', e, r⟩ := lookup_relS hk
        have : k' = .cell ∨ k' = .free := by
          rcases r with rfl | ⟨rfl, _⟩
          · exact hk'
          · exact .inr rfl
        rcases this with rfl | rfl
        · obtain ⟨c, hm⟩ := cells_has (n := (s.heap.push { cls := .type "dict", data := .dict #[] }).objs.size) (acc := cloFrom X.env.cells scope.names []) (PySem.mem_of_lookup e)
          obtain ⟨c', e'⟩ := mem_lookup hm
          exact ⟨c', by rw [hcl]; exact e'⟩
        · obtain ⟨c, h1, _⟩ := look e
          exact ⟨c, h1⟩
      rcases hy with hy | hy
      · exact key _ hy (.inl rfl)
      · exact key _ hy (.inr rfl)
    · have z : (scope.names.lookup y == some NameKind.cell) = true := z
      have z : scope.names.lookup y = some .cell := by simpa using z
      have e : cenv.cells.lookup y = some c := e
      rw [hcl] at e
      rcases cells_mem (PySem.mem_of_lookup e) with hm | ⟨_, h2, _⟩
      · rcases cloFrom_mem hm with hm | ⟨h1, _⟩
        · cases hm
        · have q := ok.uniq _ h1
          rw [z] at q; cases q
      · rw [Heap.size_push] at h2
        exact Nat.le_of_succ_le h2
    · show b ≠ cenv.locals
      rw [hL]; exact Nat.ne_of_lt (hfp b hb).2
    · have e : cenv.cells.lookup y = some c := e
      rcases mem e with ⟨h1, _⟩ | ⟨h1, _⟩
      · exact (hfp b hb).1.2.2.2.2.1 y c h1 z
      · have h2 : s.heap.objs.size + 1 ≤ b := by rw [← z]; exact h1
        exact absurd (Nat.lt_of_lt_of_le (hfp b hb).2 (Nat.le_of_succ_le h2)) (Nat.lt_irrefl _)
    · rcases (hfp b hb).1.2.2.2.1 with z | z
      · exact I.ok.noex b o e z
      · exact absurd (Nat.lt_of_lt_of_le (Heap.lt_size e) (Nat.le_trans I.ok.bsz z)) (Nat.lt_irrefl _)
    · rcases List.mem_cons.mp (I.stkSub b z) with z | z
      · exact (hfp b hb).1.2.1 z
      · exact (hfp b hb).1.2.2.1 z
  refine ⟨okB, rfl, I.bare, Un.kept kp, ⟨fun _ => none, ?_, fun i y av e1 e2 e3 => ?_⟩, fun y c e => ?_, ?_, fun y c e => ?_, fun p hp => ?_, I.hok.kept kp, by rw [wipe_length]; exact I.len⟩
  · show Heap.Ns _ cenv.locals _
    rw [hL]
    exact Heap.Ns.keeps (Heap.Ns.new ..) fun b o e => pushCells_keeps _ _ _ _ e
  · obtain ⟨e2, hne⟩ := wipe_some e2
    have hfr : scope.names.lookup y = some .free ∧ (cenv.kindOf y = some .cell ∨ cenv.kindOf y = some .free) := by
      have key : ∀ k, cenv.scope.names.lookup y = some k → k = .local ∨ k = .cell ∨ k = .free → scope.names.lookup y = some .free ∧ (cenv.kindOf y = some .cell ∨ cenv.kindOf y = some .free) := fun k hk hk' => by
        have hk0 := hk
        rw [hsc] at hk
        obtain ⟨k', e, r⟩ := lookup_relS hk
        have no : ¬ (k' = .local ∨ k' = .cell) := fun hh => by
          rcases ok.own _ (PySem.mem_of_lookup e) hh with e' | e'
          · obtain ⟨p, hp, hpy⟩ := List.mem_map.mp e'
            have e3 := ok.ix p hp
            have : p.1 = y := hpy
            rw [this] at e3
            exact hne (List.mem_map.mpr ⟨p, hp, nodup_ix hN e3 e1⟩)
          · exact e' (List.mem_of_getElem? e1)
        rcases r with rfl | ⟨rfl, rfl⟩
        · rcases hk' with rfl | rfl | rfl
          · exact absurd (.inl rfl) no
          · exact absurd (.inr rfl) no
          · exact ⟨e, .inr hk0⟩
        · exact ⟨e, .inl hk0⟩
      have e3 : Vis cenv.scope y := e3
      rcases e3 with e3 | e3 | e3
      · exact key _ e3 (.inl rfl)
      · exact key _ e3 (.inr (.inl rfl))
      · exact key _ e3 (.inr (.inr rfl))
    obtain ⟨m, hn, hl⟩ := I.loc
    have hvis : Vis X.env.scope y := (ok.free _ (PySem.mem_of_lookup hfr.1) rfl).elim (fun k => .inr (.inl k)) (fun k => .inr (.inr k))
    obtain ⟨w, r, q⟩ := hl i y av e1 e2 hvis
    refine ⟨w, r, .inr ⟨hfr.2, ?_⟩⟩
    obtain ⟨c, h1, h2⟩ := look hfr.1
    rcases q with ⟨k, _⟩ | ⟨_, c', e', z⟩
    · have k : X.env.scope.names.lookup y = some .local := k
      rcases ok.free _ (PySem.mem_of_lookup hfr.1) rfl with k' | k' <;> rw [show X.env.scope.names.lookup y = _ from k'] at k <;> cases k
    · rw [h2] at e'; cases e'
      exact ⟨c, h1, z.keeps kp⟩
  · have e : cenv.cells.lookup y = some c := e
    rcases mem e with ⟨h1, _⟩ | ⟨_, z⟩
    · obtain ⟨w, z⟩ := I.cell y c h1
      exact ⟨w, z.keeps kp⟩
    · exact ⟨_, z⟩
  · show H cenv.locals = none
    rw [hL]; exact I.hok.fresh (Nat.le_refl _)
  · have e : cenv.cells.lookup y = some c := e
    rcases mem e with ⟨h1, _⟩ | ⟨h1, _⟩
    · exact I.freeC y c h1
    · exact I.hok.fresh (Nat.le_of_succ_le h1)
  · exact absurd (show p ∈ ([] : List (Addr × Obj)) ++ [] from hp) (by simp)

/-- an item appended to a tracked list -/
theorem app_ok {E : Value → Shared → Prop} {D : Addr} {xs : List V} {y : V} {v : Value} {Q : Value → Shared → Prop} (I : Inv X pins σ H s) (hD : H D = some (.lst xs)) (hz : xs.length < sizeLine) (r : RelV y v)
    (h : ∀ s', Inv X pins σ (upd H D (.lst (xs ++ [y]))) s' → Q .none s') : wpAny (model X.prog X.w) X.A (call (.builtin "list.append") [.ref D, v]) Q E s := by
  obtain ⟨hz', its, n, ri, e⟩ := I.hok D _ hD
  have hl := ri.length
  refine append_at (hsz := by rw [List.size_toArray]; omega) e fun h' sb ho' => ?_
  refine h { s with heap := h' } (I.write (t' := s.toks) (by rw [hD]; trivial) (.inl rfl) (fun b u hb q => (sb.2 b hb).trans q) ⟨_, ho'⟩ ⟨by rw [List.length_append]; exact hz, its ++ [v], n + 1, ri.append (.cons r .nil), ?_⟩)
  rw [ho']
  simp

/-- a clause's tests -/
def PTs (X : Cx) (ifs : List Expr) (t : TT) : Prop :=
  ∀ (pins : List (Addr × Obj)) (s : Shared) (σ : St) (H : Hp) (Q : Bool → Hp → Prop), Inv X pins σ H s → t σ H Q →
    wpAny (model X.prog X.w) X.A (forIn ifs true fun c r => if r = true then do let ok ← isTrue c X.env (eval c X.env); pure (ForInStep.yield ok) else pure (ForInStep.yield r)) (TP X pins σ Q) X.xe s
def tYes : TT := fun _ H Q => Q true H
theorem pts_nil : PTs X [] tYes := fun _ _ _ H _ I h => wpAny_tests_nil ⟨H, I, h⟩
theorem pts_one {c : Expr} {t : TT} (h : PT X c t) : PTs X [c] t := fun pins s σ H Q I hw => wpAny_tests_one (h pins s σ H Q I hw)
end

theorem thnF {α : Type} {t : Sem α} {Q Q' : α → Shared → Prop} {M : Model} {A : Around} {E : Value → Shared → Prop} {s : Shared} (h : wpAny M A t Q (fun _ _ => False) s) (hQ : ∀ a s, Q a s → Q' a s) : wpAny M A t Q' E s := wpAny_mono h hQ fun _ _ z => False.elim z

/-- the loop of a list comprehension's block, the target of any form (codeAny_compLoop_tests asks a target that no tuple goes to; statement and proof follow it, PyProof/CompMap.lean:41-61, with the step letOwnedTupleGo kept) -/
theorem compLoop_any {prog : Program} {w : World} {A : Around} {R : Result → Shared → Prop} {s : Shared} {elt target iter : Expr} {ifs : List Expr} {scope : Scope} {pos : Pos} {it acc : Value} {env : Env} (I : Nat → Shared → Prop)
    (turn : ∀ n s, I n s → wpAny (model prog w) A (pyNext it) (fun r s₁ => match r with
      | none => R (.ok .next) s₁
      | some v => wpAny (model prog w) A (letOwnedTupleGo target it v) (fun _ s₁' => wpAny (model prog w) A (assign target env v) (fun _ s₂ =>
          wpAny (model prog w) A (forIn ifs true fun c r => if r = true then do let ok ← isTrue c env (eval c env); pure (ForInStep.yield ok) else pure (ForInStep.yield r)) (fun ok s₃ =>
            if ok = true then wpAny (model prog w) A (eval elt env) (fun x s₄ =>
              wpAny (model prog w) A (call (.builtin "list.append") [acc, x]) (fun _ s₅ => ∃ m, m < n ∧ I m s₅) (notedBy (model prog w) A env fun e s' => R (.error e) s') s₄) (notedBy (model prog w) A env fun e s' => R (.error e) s') s₃
            else ∃ m, m < n ∧ I m s₃) (notedBy (model prog w) A env fun e s' => R (.error e) s') s₂) (notedBy (model prog w) A env fun e s' => R (.error e) s') s₁') (notedBy (model prog w) A env fun e s' => R (.error e) s') s₁) (notedBy (model prog w) A env fun e s' => R (.error e) s') s)
    (n : Nat) (h : I n s) :
    codeAny (model prog w) A (.compLoop (.ListComp elt [⟨target, iter, ifs, 0⟩] scope pos) 0 it acc env) R s := by
  refine codeAny_loop rfl I (fun n s hI => ?_) n h
  show wpAny _ A ((compTurn (.ListComp elt [⟨target, iter, ifs, 0⟩] scope pos) 0 it acc env).onRaise (fun x => do noteFrame x env; theTreesLotGoes x)) _ _ s
  refine wpAny_noted ?_
  rw [compTurn_list]
  refine wpAny_bind (wpAny_standAt (wpAny_bind (wpAny_mono (turn n s hI) (fun r s₁ h₁ => ?_) fun _ _ h' => h')))
  cases r with
  | none => exact wpAny_pure h₁
  | some v =>
    refine wpAny_bind (wpAny_mono h₁ (fun _ s₁' h₁' => ?_) fun _ _ h' => h')
    refine wpAny_bind (wpAny_mono h₁' (fun _ s₂ h₂ => wpAny_bind (wpAny_mono h₂ (fun ok s₃ h₃ => ?_) fun _ _ h' => h')) fun _ _ h' => h')
    cases ok with
    | false => exact wpAny_pure ⟨rfl, h₃⟩
    | true =>
      exact wpAny_bind (wpAny_bind (wpAny_mono h₃ (fun x s₄ h₄ => wpAny_bind (wpAny_mono h₄ (fun _ s₅ h₅ => wpAny_pure (wpAny_pure ⟨rfl, h₅⟩)) fun _ _ h' => h')) fun _ _ h' => h'))

section
variable {X : Cx}
/-- [elt for target in iter if ..]: D the new list; W by the turn and a measure, Nx what a turn is to reach -/
def tLc (wi : TI) (g : TG) (tt : TT) (te : TE) (vs : List Nat) : TE := fun σ H Q => wi σ H fun J H1 => ∀ D, H1 D = none → ∃ W : Nat → Nat → Hp → Prop, (∃ m, W 0 m (upd H1 D (.lst []))) ∧ ∀ i m H, W i m H →
  (J.stop i H ∧ Q (.ref D) H) ∨ (J.go i H ∧ ∃ Nx : Hp → Prop, (∀ H', Nx H' → ∃ m', m' < m ∧ W (i + 1) m' H') ∧ ∀ x H', J.yld i H x H' → g x (wipe σ vs) H' fun σ2 H2 => wipe σ2 vs = wipe σ vs ∧ tt σ2 H2 fun b H3 =>
    if b = true then te σ2 H3 fun y H4 => ∃ acc, H4 D = some (.lst acc) ∧ acc.length < sizeLine ∧ Nx (upd H4 D (.lst (acc ++ [y]))) else Nx H3)
theorem lc_core {pins : List (Addr × Obj)} {s : Shared} {σ : St} {H : Hp} {Q : VK} {elt tg iter : Expr} {ifs : List Expr} {scope : Scope} {own : List (Str × Nat)} {pos pos' : Pos} {wi : TI} {g : TG} {tt : TT} {te : TE} {use : Option (Value → Sem Unit)} {Qf : Value → Shared → Prop}
    (hc : X.calm = true) (hN : X.N.Nodup) (I : Inv X pins σ H s) (hi : PI X tg iter wi) (ok : BlkOk X.N X.env.scope scope own)
    (hg : ∀ (s : Shared) (H : Hp) (C : Addr) (cl : List (Str × Addr)) (fp : List Addr), PG (X.blk s H scope (compEnvC scope cl C X.env) fp) tg g) (ht : ∀ (s : Shared) (H : Hp) (C : Addr) (cl : List (Str × Addr)) (fp : List Addr), PTs (X.blk s H scope (compEnvC scope cl C X.env) fp) ifs tt)
    (he : ∀ (s : Shared) (H : Hp) (C : Addr) (cl : List (Str × Addr)) (fp : List Addr), PE (X.blk s H scope (compEnvC scope cl C X.env) fp) elt te) (hs : ∀ x, foldedSetIterable iter X.env x = pure x)
    (h : tLc wi g tt te (own.map (·.2)) σ H Q)
    (hRR : ∀ D C s' m H', Inv X pins σ H' s' → Q (.ref D) H' → s'.heap.Ns C m → FpOk X pins H' C → compPost (model X.prog X.w) X.A X.xe use Qf (.ref D) C (.ok .next) s') :
    wpAny (model X.prog X.w) X.A (comprehension (.ListComp elt [⟨tg, iter, ifs, 0⟩] scope pos) scope X.env pos' (newList []) false (eval iter X.env) use) Qf X.xe s := by
  have hfree : ∀ y ∈ scope.names, y.2 = .free → ∃ c, X.env.cells.lookup y.1 = some c := fun y hy e => by
    rcases ok.free y hy e with k | k
    · exact I.ok.has _ (.inl k)
    · exact I.ok.has _ (.inr k)
  refine wpAny_comprehension_free (use := use) rfl hs (closure_ok hfree) ok.kind (fun y hy e => by rw [ok.uniq y hy, e])
    (thn (hi pins s σ H _ I h) fun xv s1 hx => thn hx fun itv s2 h2 => ?_)
  obtain ⟨it, fp, tn, J, H2, e, I2, T, st2, f2, q⟩ := h2
  subst e
  refine wpAny_newObj_type (newEnv_comp ?_) (by show 0 ≤ sizeLine; decide)
  generalize hD : s2.heap.objs.size = D
  have hDn : H2 D = none := I2.hok.fresh (Nat.le_of_eq hD)
  obtain ⟨W, ⟨m0, w0⟩, turn⟩ := q D hDn
  -- the new list
  generalize hs3 : ({ s2 with heap := s2.heap.push { cls := .type "list", data := .seq ([] : List Value).toArray } } : Shared) = s3
  have I3 : Inv X pins σ (upd H2 D (.lst [])) s3 := by
    rw [← hs3]
    refine I2.laid (t' := s2.toks) (fun b o e => Heap.get?_push_of_some _ e) (Nat.le_of_eq hD) ⟨Nat.zero_le _, [], 0, .nil, ?_⟩
    rw [← hD]
    exact Heap.get?_push_size _ rfl
  have h3 : s3.heap = s2.heap.push { cls := .type "list", data := .seq ([] : List Value).toArray } := by rw [← hs3]
  have sz : ∀ b ∈ fp, b < s2.heap.objs.size := fun b hb => by
    obtain ⟨o, e, _⟩ := T.obj _ _ st2 b hb
    exact Heap.lt_size e
  have f3 : ∀ b ∈ fp, FpOk X pins (upd H2 D (.lst [])) b ∧ b < s3.heap.objs.size := fun b hb => by
    have hlt := sz b hb
    refine ⟨⟨?_, (f2 b hb).2⟩, by rw [h3, Heap.size_push]; exact Nat.lt_succ_of_lt hlt⟩
    rw [upd_ne (by rw [← hD]; exact Nat.ne_of_lt hlt)]
    exact (f2 b hb).1
  have st3 : tn 0 s3.heap := T.keep _ _ _ st2 fun b _ o e => by rw [h3]; exact Heap.get?_push_of_some _ e
  have I4 := block_start I3 ok hN f3
  have pg := hg s3 (upd H2 D (.lst [])) s3.heap.objs.size (cellsFrom (s3.heap.objs.size + 1) scope.names (cloFrom X.env.cells scope.names [])) fp
  have pt := ht s3 (upd H2 D (.lst [])) s3.heap.objs.size (cellsFrom (s3.heap.objs.size + 1) scope.names (cloFrom X.env.cells scope.names [])) fp
  have pe := he s3 (upd H2 D (.lst [])) s3.heap.objs.size (cellsFrom (s3.heap.objs.size + 1) scope.names (cloFrom X.env.cells scope.names [])) fp
  show codeAny _ _ (.compStart (.ListComp elt [⟨tg, iter, ifs, 0⟩] scope pos) 0 (.ref it) (.ref D) (compEnvC scope (cellsFrom (s3.heap.objs.size + 1) scope.names (cloFrom X.env.cells scope.names [])) s3.heap.objs.size X.env)) (compPost (model X.prog X.w) X.A X.xe use Qf (.ref D) s3.heap.objs.size) { s3 with heap := pushCells (s3.heap.push { cls := .type "dict", data := .dict #[] }) scope.names }
  have nfp : ∀ b ∈ fp, (upd H2 D (.lst [])) b = none := fun b hb => (f3 b hb).1.1
  generalize hce : compEnvC scope (cellsFrom (s3.heap.objs.size + 1) scope.names (cloFrom X.env.cells scope.names [])) s3.heap.objs.size X.env = ce at I4 pg pt pe ⊢
  have cL : ce.locals = s3.heap.objs.size := by subst hce; rfl
  generalize hH3 : upd H2 D (.lst []) = H3 at I3 I4 pg pt pe w0 nfp f3
  generalize hs4 : ({ s3 with heap := pushCells (s3.heap.push { cls := .type "dict", data := .dict #[] }) scope.names } : Shared) = s4 at I4 ⊢
  have st4 : tn 0 s4.heap := T.keep _ _ _ st3 fun b _ o e => by rw [← hs4]; exact pushCells_keeps _ _ _ _ (Heap.get?_push_of_some _ e)
  have stat : ∀ {σ' : St} {H' : Hp} {s' : Shared}, Inv (X.blk s3 H3 scope ce fp) [] σ' H' s' → (∀ b ∈ fp, H' b = none) → ∀ b ∈ fp, FpOk (X.blk s3 H3 scope ce fp) [] H' b := fun {σ' H' s'} I' hn b hb =>
    ⟨hn b hb, (I'.ok.exf b hb).1, I'.ok.exfs b hb, .inl hb, fun x c e => (I'.ok.exf b hb).2 x c e, fun p hp => absurd (show p ∈ ([] : List (Addr × Obj)) ++ [] from hp) (by simp)⟩
  have loop : codeAny (model X.prog X.w) X.A (.compLoop (.ListComp elt [⟨tg, iter, ifs, 0⟩] scope pos) 0 (.ref it) (.ref D) ce) (compPost (model X.prog X.w) X.A X.xe use Qf (.ref D) s3.heap.objs.size) s4 := by
    refine compLoop_any (fun n s' => ∃ i H', Inv (X.blk s3 H3 scope ce fp) [] (wipe σ (own.map (·.2))) H' s' ∧ tn i s'.heap ∧ (∀ b ∈ fp, H' b = none) ∧ W i n H') ?_ m0 ⟨0, H3, I4, st4, nfp, w0⟩
    rintro n s5 ⟨i, H5, I5, st5, n5, w5⟩
    rcases turn i n H5 w5 with ⟨stop, qq⟩ | ⟨go, Nx, hNx, step⟩
    · have td := T.done (X.blk s3 H3 scope ce fp) rfl rfl rfl hc i [] s5 _ H5 (fun _ _ => False) I5 (stat I5 n5) st5 stop
      refine thnF td fun r s6 ⟨hr, I6⟩ => ?_
      subst hr
      -- back in the def's context
      have I7 : Inv X pins σ H5 s6 := I3.call' (ch := fp) I6.os I6.base I6.hok I6.bare fun b hb => ⟨(f3 b hb).1.2.2.2.1, (f3 b hb).1.2.1, (f3 b hb).1.2.2.2.2.1, (f3 b hb).1.2.2.2.2.2⟩
      have nC : H5 s3.heap.objs.size = none := by
        have z : H5 ce.locals = none := I6.free
        rw [cL] at z
        exact z
      obtain ⟨m, hn, _⟩ := I6.loc
      have hn : s6.heap.Ns ce.locals m := hn
      rw [cL] at hn
      exact hRR D s3.heap.objs.size s6 m H5 I7 qq hn (I3.fpOk (Nat.le_refl _) nC)
    · have ti := T.item (X.blk s3 H3 scope ce fp) rfl rfl rfl hc i [] s5 _ H5 (fun _ _ => False) I5 (stat I5 n5) st5 go
      refine thnF ti fun r s6 ⟨u, hr, h6⟩ => ?_
      subst hr
      refine thnF h6 fun _ s7 ⟨x, H7, I7, r7, y7, st7, n7⟩ => ?_
      have I7' := I7.pinned (stat I7 n7) (T.obj _ _ st7)
      refine thnF (pg _ s7 _ H7 x u _ I7' r7 (step x H7 y7)) fun _ s8 ⟨σ8, H8, I8, hw8, q8⟩ => ?_
      refine thnF (pt _ s8 σ8 H8 _ I8 q8) fun b s9 ⟨H9, I9, q9⟩ => ?_
      -- the turn's end
      have fin : ∀ {s' : Shared} {H' : Hp}, Inv (X.blk s3 H3 scope ce fp) ([] ++ pinsAt fp s7.heap) σ8 H' s' → Nx H' → ∃ m, m < n ∧ ∃ i H', Inv (X.blk s3 H3 scope ce fp) [] (wipe σ (own.map (·.2))) H' s' ∧ tn i s'.heap ∧ (∀ b ∈ fp, H' b = none) ∧ W i m H' := fun {s' H'} I' nx => by
        obtain ⟨m', hm, w'⟩ := hNx H' nx
        have pin' : ∀ b ∈ fp, ∀ o, s7.heap.get? b = some o → s'.heap.get? b = some o ∧ H' b = none := fun b hb o e =>
          let z := I'.pin (b, o) (List.mem_append_right _ (List.mem_append_right _ (mem_pinsAt hb e)))
          ⟨z.1, z.2.1⟩
        have hl : (wipe σ (own.map (·.2))).length = σ8.length := by rw [← hw8, wipe_length]
        refine ⟨m', hm, i + 1, H', (I'.unpinned (pins := [])).weak hl (fun j v e => ?_), T.keep _ _ _ st7 fun b hb o e => (pin' b hb o e).1, fun b hb => ?_, w'⟩
        · rw [← hw8] at e
          exact (wipe_some e).1
        · obtain ⟨o, e, _⟩ := T.obj _ _ st7 b hb
          exact (pin' b hb o e).2
      cases b with
      | false =>
        simp only [Bool.false_eq_true, if_false] at q9 ⊢
        exact fin I9 q9
      | true =>
        simp only [if_true] at q9 ⊢
        refine thnF (pe _ s9 σ8 H9 _ I9 q9) fun z s10 ⟨yv, H10, I10, r10, acc, hD10, hz10, nx⟩ => ?_
        exact app_ok (X := X.blk s3 H3 scope ce fp) I10 hD10 hz10 r10 fun s11 I11 => fin I11 nx
  exact codeAny_compStart_list loop (T.self X.A 0 _ _ _ st4 loop)
/-- as a value -/
theorem pe_lc {elt tg iter : Expr} {ifs : List Expr} {scope : Scope} {own : List (Str × Nat)} {pos : Pos} {wi : TI} {g : TG} {tt : TT} {te : TE} (hc : X.calm = true) (hN : X.N.Nodup) (hi : PI X tg iter wi) (ok : BlkOk X.N X.env.scope scope own)
    (hg : ∀ (s : Shared) (H : Hp) (C : Addr) (cl : List (Str × Addr)) (fp : List Addr), PG (X.blk s H scope (compEnvC scope cl C X.env) fp) tg g) (ht : ∀ (s : Shared) (H : Hp) (C : Addr) (cl : List (Str × Addr)) (fp : List Addr), PTs (X.blk s H scope (compEnvC scope cl C X.env) fp) ifs tt)
    (he : ∀ (s : Shared) (H : Hp) (C : Addr) (cl : List (Str × Addr)) (fp : List Addr), PE (X.blk s H scope (compEnvC scope cl C X.env) fp) elt te) (hs : ∀ x, foldedSetIterable iter X.env x = pure x := by intro _; rfl) :
    PE X (.ListComp elt [⟨tg, iter, ifs, 0⟩] scope pos) (tLc wi g tt te (own.map (·.2))) := by
  intro pins s σ H Q I h
  rw [eval_ListComp]
  refine lc_core hc hN I hi ok hg ht he hs h fun D C s' m H' I' q hn f => ⟨m, hn, fun h'' sb => ?_⟩
  obtain ⟨f0, f1, f2, f3, f4, f5⟩ := f
  exact ⟨.ref D, H', I'.turned (t' := s'.toks) (fun b o hb e => (sb.2 b hb).trans e) f0 f1 f3 f4 f5, rfl, q⟩
end

/-! ### the forms one uses -/
/-- over a list that the block leaves as it is -/
theorem lc_list {K : PySem.W.Frag} {a : Addr} {xs : List V} {g : TG} {tt : TT} {te : TE} {vs : List Nat} {σ : St} {H1 : Hp} {D : Addr} {Qd : Hp → Prop} (Pv : Nat → Hp → Prop) (h0 : Pv 0 (upd H1 D (.lst []))) (hl : ∀ i H, i ≤ xs.length → Pv i H → SqL K H a xs)
    (hs : ∀ i x H, xs[i]? = some x → Pv i H → g x (wipe σ vs) H fun σ2 H2 => wipe σ2 vs = wipe σ vs ∧ tt σ2 H2 fun b H3 =>
      if b = true then te σ2 H3 fun y H4 => ∃ acc, H4 D = some (.lst acc) ∧ acc.length < sizeLine ∧ Pv (i + 1) (upd H4 D (.lst (acc ++ [y]))) else Pv (i + 1) H3) (hd : ∀ H, Pv xs.length H → Qd H) :
    ∃ W : Nat → Nat → Hp → Prop, (∃ m, W 0 m (upd H1 D (.lst []))) ∧ ∀ i m H, W i m H →
      ((Itl K a).stop i H ∧ Qd H) ∨ ((Itl K a).go i H ∧ ∃ Nx : Hp → Prop, (∀ H', Nx H' → ∃ m', m' < m ∧ W (i + 1) m' H') ∧ ∀ x H', (Itl K a).yld i H x H' → g x (wipe σ vs) H' fun σ2 H2 => wipe σ2 vs = wipe σ vs ∧ tt σ2 H2 fun b H3 =>
        if b = true then te σ2 H3 fun y H4 => ∃ acc, H4 D = some (.lst acc) ∧ acc.length < sizeLine ∧ Nx (upd H4 D (.lst (acc ++ [y]))) else Nx H3) := by
  refine ⟨fun i m H => m = xs.length - i ∧ i ≤ xs.length ∧ Pv i H, ⟨xs.length, by simp, Nat.zero_le _, h0⟩, ?_⟩
  rintro i m H ⟨rfl, hi, p⟩
  have q := hl i H hi p
  by_cases hlt : i < xs.length
  · refine .inr ⟨⟨xs, xs[i], q, by simp [hlt]⟩, Pv (i + 1), fun H' p' => ⟨xs.length - (i + 1), by omega, rfl, hlt, p'⟩, fun x H' y => ?_⟩
    obtain ⟨e, y⟩ := y
    subst e
    exact hs i x _ (y xs q) p
  · have e : i = xs.length := by omega
    subst e
    exact .inl ⟨⟨xs, q, Nat.le_refl _⟩, hd H p⟩
def blkC (N : List Str) (sc scope : Scope) (own : List (Str × Nat)) : Bool :=
  (match scope.kind with | .function => true | _ => false) && (scope.names.all fun y => decide (scope.names.lookup y.1 = some y.2)) && (own.all fun p => decide (N[p.2]? = some p.1)) &&
    (scope.names.all fun y => match y.2 with
      | .free => (match sc.names.lookup y.1 with | some .cell => true | some .free => true | _ => false)
      | .local => decide (y.1 ∈ own.map (·.1)) || decide (y.1 ∉ N)
      | .cell => decide (y.1 ∈ own.map (·.1)) || decide (y.1 ∉ N)
      | _ => true)
theorem blkOk_by {N : List Str} {sc scope : Scope} {own : List (Str × Nat)} (h : blkC N sc scope own = true) : BlkOk N sc scope own := by
  unfold blkC at h
  simp only [Bool.and_eq_true, List.all_eq_true, decide_eq_true_eq] at h
  obtain ⟨⟨⟨h1, h2⟩, h3⟩, h4⟩ := h
  refine ⟨?_, h2, h3, fun y hy e => ?_, fun y hy e => ?_⟩
  · split at h1
    · assumption
    · cases h1
  · have q := h4 y hy
    simp only [e] at q
    split at q <;> first | exact .inl (by assumption) | exact .inr (by assumption) | cases q
  · have q := h4 y hy
    rcases e with e | e <;> (simp only [e, Bool.or_eq_true, decide_eq_true_eq] at q; exact q)
end L2

namespace L2
open PySem PySem.Spec PyProof.Rows


section
variable {prog : Program} {w : World} {A : Around} {R : Result → Shared → Prop} {s : Shared} {elt t0 i0 t1 i1 : Expr} {ifs0 ifs1 : List Expr} {scope : Scope} {pos : Pos} {it acc : Value} {env : Env}
end

section
variable {X : Cx}
end
end L2

namespace L2
open PySem PySem.Spec PyProof.Rows

/-! ### lists of pairs as tables -/
section
variable {κ : Type} [DecidableEq κ]



end


/-! ### a tracked dict, its keys ints and texts or tuples of these -/


section
variable {P : Program} {w : World} {H : Hp} {h : Heap} {a : Addr}
end



section
variable {X : Cx} {pins : List (Addr × Obj)} {σ : St} {H : Hp} {s : Shared} {a : Addr} {y v : V} {u r : Value} {o : Option V} {A : Around} {E : Value → Shared → Prop}


end

section
variable {X : Cx} {pins : List (Addr × Obj)} {σ : St} {H : Hp} {s : Shared} {a : Addr} {kvs : List (Key × V)} {k : Key} {u : Value} {A : Around} {E : Value → Shared → Prop}
end


/-! ### readings and rules -/
/-- the element of a subscription, not a slice -/
def NoSl (i : Expr) : Prop := ∀ ov iv, subscripted i false ov iv = operate [ov, iv] (getItem ov iv)
theorem subD_of {prog : Program} {w : World} {A : Around} {E : Value → Shared → Prop} {s : Shared} {env : Env} {value slice : Expr} {pos : Pos} {T id : String} {Q : Value → Shared → Prop}
    (hl : typeLookup (.type T) "__getitem__" = pure (some (.builtin id))) (hs : NoSl slice)
    (h : wpAny (model prog w) A (eval value env) (fun o s₁ => wpAny (model prog w) A (eval slice env) (fun i s₂ => s₂.TypeIs o T ∧ wpAny (model prog w) A (getItem o i) Q E s₂) E s₁) E s) :
    wpAny (model prog w) A (eval (.Subscript value slice pos) env) Q E s := by
  refine Subscript_ (wpAny_mono h (fun o s₁ h₁ => wpAny_mono h₁ (fun i s₂ h₂ => ?_) fun _ _ x => x) fun _ _ x => x)
  obtain ⟨hT, h₂⟩ := h₂
  unfold subscriptTail
  refine wpAny_bind ?_
  rw [getitemInPython_of_ne hT.not_modules]
  refine wpAny_bind (wpAny_specialOf hT hl ?_)
  have fin : wpAny (model prog w) A (subscripted slice false o i) (fun r s₃ => wpAny (model prog w) A (letTemporaryGo value o r >>= fun _ => pure r) Q E s₃) E s₂ := by
    rw [hs o i]
    exact wpAny_operating (wpAny_mono h₂ (fun r s₃ h₃ => wpAny_bind (wpAny_letTemporaryGo (wpAny_pure h₃))) fun _ _ x => x)
  first
    | exact wpAny_pure (wpAny_bind fin)
    | exact wpAny_bind (wpAny_pure (wpAny_bind fin))
    | exact wpAny_bind fin



section
variable {X : Cx} {o i e value : Expr} {pos pos' tpos : Pos} {td ty tv : TE}
end


/-! ### displays -/
section
variable {X : Cx} {pos : Pos}
end




/-! ### methods -/


section
variable {X : Cx} {pins : List (Addr × Obj)} {σ : St} {H : Hp} {s : Shared} {a : Addr} {y d : V} {u r : Value} {o : Option V} {A : Around} {E : Value → Shared → Prop}
end

section
variable {X : Cx} {o e f : Expr} {apos cpos : Pos} {td ty tx : TE}
end

/-! ### dict(d): a copy -/
section
variable {X : Cx} {pins : List (Addr × Obj)} {σ : St} {H : Hp} {s : Shared} {a : Addr} {kvs : List (Key × V)} {A : Around} {E : Value → Shared → Prop}
end


section
variable {X : Cx} {pins : List (Addr × Obj)} {σ : St} {H : Hp} {s : Shared} {a : Addr} {y : V} {u : Value} {A : Around} {E : Value → Shared → Prop}
end
end L2

namespace L2
open PySem PySem.Spec PyProof.Rows


section
variable {prog : Program} {w : World} {A : Around} {E : Value → Shared → Prop}


end

section
variable {X : Cx}
end
end L2

namespace L2
open PySem PySem.Spec PyProof.Rows


section
variable {X : Cx} {pins : List (Addr × Obj)} {σ : St} {H : Hp} {s : Shared} {h' : Heap}

/-! ### locking a thing while a statement runs -/
end
section
variable {X : Cx}

/-! ### one iterator just laid -/
end

/-! ### range with a step -/
section
variable {X : Cx} {tg : Expr}
end

/-! ### reversed(list) -/
section
variable {X : Cx} {tg : Expr}
end

/-! ### a str -/

/-! ### a dict's keys: any dict's entries -/
section
variable {prog : Program} {w : World} {A : Around} {E : Value → Shared → Prop} {s : Shared}
end

/-! ### a locked dict -/
section
variable {X : Cx} {pins : List (Addr × Obj)} {σ : St} {H : Hp} {s : Shared} {d : Addr} {o : Obj}
end

section
variable {P : Program} {w : World} {K : PySem.W.Frag} {tg : Expr} {d : Addr} {o : Obj} {es : Array DictEntry} {ep : Nat}
end

/-! ### for k in d, d.keys(), d.values(), d.items() -/
section
variable {X : Cx} {tg e : Expr} {td : TE} {apos cpos : Pos}
end

/-! ### enumerate(list) -/
/-! ### zip(list, list) -/
end L2

section 
namespace Bits
open PySem PyProof.Rows








end Bits
end 

section 
namespace TL
open PySem PySem.Builtin PySem.Builtin.Str PySem.StrLaws


/-! ### the list functions -/




/-! ### the model's split and partition are these -/




/-! ### computing spl and par -/


/-! ### digits -/

/-! ### words: x.split() -/
end TL
end 

namespace L2
open PySem PySem.Spec PyProof.Rows




section
variable {X : Cx} {pins : List (Addr × Obj)} {σ : St} {H : Hp} {s : Shared} {Q : VK}
end

section
variable {X : Cx}





/-! ### of a text alone -/

/-! ### of a text and a text -/

end

section
variable {X : Cx} {o e : Expr} {to te : TE}

end
end L2

namespace L2
open PySem PySem.Spec PyProof.Rows

section
variable {X : Cx}
end

/-! ### slices of a text -/


end L2

namespace Att
open PySem PySem.W PySem.Calls PyProof.Rows

/-! ### the script -/



/-! ### the attachment: holds_open's last premise (the goal 'hc' behind k_head) from a wpAny of the law's body -/



/-! ### rules over ANY heap (no ledger) from facts about the written part K: the library's own take a ledger (News) for what they write -/
section
variable {prog : Program} {w : World} {A : Around} {E : Value → Shared → Prop} {s : Shared} {K : Frag}





/-! the whole heap as the ledger: makes every rule that writes through a ledger a rule over any heap -/

end
end Att

namespace L2
open PySem PySem.Spec PyProof.Rows



end L2

namespace L2
open PySem PySem.Spec PyProof.Rows

abbrev KOf {K : PySem.W.Frag} {h : Heap} (_ : K.In h) : PySem.W.Frag := K

end L2

/- THE LAST THEOREM (shape; LID, My.* are yours):
   My.Adr: a structure of the addresses that your layer names (classes, functions); My.Txt K t: a structure (Prop) of the equations over K;
   My.txt_mk : {K} {implicit addresses ..} (e1 : nsIn K mainGlobals "law" = some (some (.ref f))) (e2 : K.lookup f = some ⟨oc, od, .func (fnOf "law" "law" params body scope dV kV doc pm an cdv ct), sl⟩) (e3 : codeIn K cdv "law" = true) .. : ∃ t, My.Txt K t

set_option maxRecDepth 100000 in
set_option maxHeartbeats 0 in
theorem PySem.Challenge.cw_LID_holds : PySem.Challenge.rw_LID.Holds := by
  w_on; o_law; k_head; (case hw => w_witness2)
  k_fill
  refine L2.walk_of (l := PySem.Challenge.rw_LID) (n := 63) (k := 40) (x := "script") (CX := fun w => ..) (sp := fun _ => My.sp_law) rfl (by decide) rfl ⟨rfl, by decide, by decide⟩ (fun w h Y => PySem.W.kIn_of Y) ?F ?S ?C
  case F =>
    intro w mg fa h KX G hmg
    have T : ∃ t, My.Txt (L2.KOf KX) t := by
      dsimp only [L2.KOf]                          -- K must stand as «<heap const> w.params» for k_is
      refine' My.txt_mk ?e1 ?e2 ?e3 ..
      (case e1 => PySem.W.k_is)                    -- in the order: a name -> its address -> its object -> its parts
      (case e2 => PySem.W.k_is)
      ..
    obtain ⟨t, T⟩ := T
    have e0 := hmg.symm.trans (PySem.W.mg_of KX G T.law)
    cases e0                                       -- fa is the law's own address
    exact ⟨_, fun s u => .of_eq rfl, fun base kb nb => My.law_fn T kb nb⟩     -- if «.of_eq rfl» comes too early: refine' ⟨_, ?b, fun base kb nb => My.law_fn T kb nb⟩; exact fun s u => .of_eq rfl
  case S => exact fun w H a ns hl hO hS => ..
  case C => exact ..
(the tactic k_is has no namespace: write k_is) -/

/-! SHORT WORDS over the layer: a def of the text, its body, what a loop and a test want. -/
namespace L2
open PySem PySem.Spec PyProof.Rows

/-! ### the text by places -/
/-- the j-th statement of a class's body -/
def inClass (s : Stmt) (j : Nat) : Stmt := match s with
  | .ClassDef _ _ _ body _ _ _ _ _ _ _ => body.getD j (.Pass ⟨0, 0, 0, 0⟩)
  | _ => .Pass ⟨0, 0, 0, 0⟩
def defArgs (s : Stmt) : Arguments := match s with
  | .FunctionDef _ a _ _ _ _ _ _ _ _ => a
  | _ => { posonlyargs := [], args := [], vararg := none, kwonlyargs := [], kw_defaults := [], kwarg := none, defaults := [] }
def defBody (s : Stmt) : List Stmt := match s with
  | .FunctionDef _ _ b _ _ _ _ _ _ _ => b
  | _ => []
def defScope (s : Stmt) : Scope := match s with
  | .FunctionDef _ _ _ _ _ _ sc _ _ _ => sc
  | _ => { kind := .function, names := [], isGenerator := false, isCoroutine := false }

/-! ### no exception leaves a def -/
abbrev CX0 : CXT := fun _ _ _ _ _ _ => False
abbrev E0 : XK := fun _ _ _ => False
theorem pass0 {X : Cx} : Passes CX0 X E0 := fun _ _ _ _ _ _ _ h => h.elim

/-! ### a def (or method) of the text as it stands behind the top -/
structure Fun (K : PySem.W.Frag) (x qual : Str) (st : Stmt) (f : Addr) (fd : FuncData) : Prop where
  ex : ∃ (oc : Value) (od : Option Addr) (kV doc pm : Value) (an : Option Addr) (cdv ct : Value) (osl : Array (Option Value)),
    fd = PySem.W.fnOf x qual (defArgs st) (defBody st) (defScope st) .none kV doc pm an cdv ct ∧ K.lookup f = some ⟨oc, od, .func fd, osl⟩ ∧ PySem.W.codeIn K cdv qual = true
  kp : PySem.W.keepIn K (.ref f) = true
section
variable {P : Program} {w : World} {K : PySem.W.Frag} {mg : Str → Option Value} {base : Heap}
/-- THE RULE for a def: its body as a term of rules, and the reading of that term -/
theorem Fun.ok {x qual : Str} {st : Stmt} {f : Addr} {fd : FuncData} {N ps : List Str} {k : Nat} {sp : Sp} (F : Fun K x qual st f fd) (S : FnScope N ps (defScope st)) (len : ∀ vs H Q E, sp vs H Q E → vs.length = ps.length)
    (hbody : ∀ (cdv : Value) (A : Around) (outer : List Env) (s : Shared) (H : Hp) (vs : List V) (Q : VK) (E : XK), Room k (A.deeper (envOfC qual (defScope st) s.heap.objs.size f cdv)) → sp vs H Q E →
      ∃ t, PSs (cxOf CX0 P w K mg base N qual (defScope st) f cdv A outer s H E).nox (defBody st) t ∧ t { nx := fun _ H' => Q .non H', rt := Q } (start N vs) H) : FnOk P w K mg base CX0 (k + 1) f fd ps sp := by
  obtain ⟨oc, od, kV, doc, pm, an, cdv, ct, osl, rfl, lk, hcd⟩ := F.ex
  refine fn_of lk hcd S len fun A outer s H vs Q E hr hsp => ?_
  obtain ⟨t, h, q⟩ := hbody cdv A outer s H vs Q E hr hsp
  exact ⟨t, h.nox, q⟩
/-- how its arguments bind (no defaults): h is «fun _ _ _ _ _ _ us hl => match us, hl with | [_, _], _ => rfl», one _ a parameter -/
theorem Fun.binds {x qual : Str} {st : Stmt} {f : Addr} {fd : FuncData} {ps : List Str} (F : Fun K x qual st f fd)
    (h : ∀ (kV doc pm : Value) (an : Option Addr) (cdv ct : Value) (us : List Value), us.length = ps.length → bindArgs (PySem.W.fnOf x qual (defArgs st) (defBody st) (defScope st) .none kV doc pm an cdv ct) ⟨us, []⟩ = pure (ps.zip us)) : Binds K fd ps [] := by
  obtain ⟨oc, od, kV, doc, pm, an, cdv, ct, osl, rfl, lk, hcd⟩ := F.ex
  exact .all (h kV doc pm an cdv ct)
theorem fun_mk {x qual : Str} {st : Stmt} {f : Addr} {oc : Value} {od an : Option Addr} {osl : Array (Option Value)} {kV doc pm cdv ct : Value} (l : K.lookup f = some ⟨oc, od, .func (PySem.W.fnOf x qual (defArgs st) (defBody st) (defScope st) .none kV doc pm an cdv ct), osl⟩)
    (c : PySem.W.codeIn K cdv qual = true) (k : PySem.W.keepIn K (.ref f) = true) : Fun K x qual st f (PySem.W.fnOf x qual (defArgs st) (defBody st) (defScope st) .none kV doc pm an cdv ct) := ⟨⟨oc, od, kV, doc, pm, an, cdv, ct, osl, rfl, l, c⟩, k⟩
end
theorem small1000 {n : Nat} (h : n ≤ 1000) : n < sizeLine := Nat.lt_of_le_of_lt h (by decide)

/-! ### expressions in short: the name that stands in the i-th slot -/
section
variable {X : Cx}
theorem pv (i : Nat) {x : Str} {pos : Pos} (hN : X.N[i]? = some x := by rfl) (hv : Vis X.env.scope x := by first | exact Or.inl rfl | exact Or.inr (Or.inl rfl) | exact Or.inr (Or.inr rfl)) (hd : (x == ("__debug__" : Str)) = false := by decide)
    (hcd : (x == ("__classdict__" : Str)) = false := by decide) : PE X (.Name x pos) (tVar i) := pe_var hN hv hd hcd
end

/-! ### tests -/
theorem iteF {A B : Prop} (h : B) : if false = true then A else B := by
  rw [if_neg Bool.false_ne_true]
  exact h
theorem iteT {A B : Prop} (h : A) : if true = true then A else B := by
  rw [if_pos rfl]
  exact h

/-! ### heaps -/
/-- all that was tracked is as it was -/
def Same (H H' : Hp) : Prop := ∀ b o, H b = some o → H' b = some o
theorem Same.refl (H : Hp) : Same H H := fun _ _ h => h
theorem Same.trans {H H1 H2 : Hp} (a : Same H H1) (b : Same H1 H2) : Same H H2 := fun c o h => b c o (a c o h)
theorem Same.free {H H' : Hp} (e : Same H H') {l : Addr} (h : H' l = Option.none) : H l = Option.none := by
  cases q : H l with
  | none => rfl
  | some o =>
    rw [e l o q] at h
    cases h
theorem Same.seq {K : PySem.W.Frag} {H H' : Hp} {a : Addr} {xs : List V} (e : Same H H') (h : SqL K H a xs) : SqL K H' a xs := by
  rcases h with (h | ⟨o, h⟩) | h
  · exact .inl (.inl (e _ _ h))
  · exact .inl (.inr ⟨o, e _ _ h⟩)
  · exact .inr h

/-! ### a dict's pairs: keys that differ -/
section
variable {κ : Type} [DecidableEq κ]
end
/-! ### lists -/
end L2

namespace L2
open PySem PySem.Spec PyProof.Rows
open PySem.W (WData Codec OpenSpec Well WellAll ReadsW ReadsAllW)
/-! ### an answer as data -/
mutual
/-- x stands for the datum d, lists and tuples all the way -/
inductive Dw (K : PySem.W.Frag) (H : Hp) : V → WData → Prop
  | non : Dw K H .non .none
  | bl (b : Bool) : Dw K H (.bl b) (.bool b)
  | int (i : Int) : Dw K H (.int i) (.int i)
  | str (x : Str) : Dw K H (.str x) (.str x)
  | byt (b : Array UInt8) : Dw K H (.byt b) (.bytes b.toList)
  | lst {a : Addr} {xs : List V} {ds : List WData} : SqL K H a xs → DwAll K H xs ds → Dw K H (.ref a) (.list ds)
  | tup {a : Addr} {xs : List V} {ds : List WData} : SqT K H a xs → DwAll K H xs ds → Dw K H (.ref a) (.tuple ds)
inductive DwAll (K : PySem.W.Frag) (H : Hp) : List V → List WData → Prop
  | nil : DwAll K H [] []
  | cons {v : V} {vs : List V} {d : WData} {ds : List WData} : Dw K H v d → DwAll K H vs ds → DwAll K H (v :: vs) (d :: ds)
end
theorem dw_ints {K : PySem.W.Frag} {H : Hp} : ∀ ns : List Int, DwAll K H (ns.map V.int) (ns.map WData.int)
  | [] => .nil
  | n :: r => .cons (.int n) (dw_ints r)
theorem ints_dw {K : PySem.W.Frag} {H : Hp} : ∀ (ns : List Int) (xs : List V), DwAll K H xs (ns.map WData.int) → xs = ns.map V.int
  | [], xs, h => by
    cases h
    rfl
  | n :: r, xs, h => by
    cases h with
    | cons h1 h2 =>
      cases h1
      rw [ints_dw r _ h2] <;> rfl
section
variable {P : Program} {w : World} {K : PySem.W.Frag} {H : Hp} {h : Heap} {R : PySem.W.WRecords} {cl : Str → Option Addr}
theorem sqL_at {a : Addr} {xs : List V} (hok : HOk P w H h) (KX : K.In h) (q : SqL K H a xs) : ∃ (its : List Value) (o : Obj) (n : Nat), Vals xs its ∧ h.get? a = some o ∧ o.cls = .type "list" ∧ o.data = .seq its.toArray n := by
  rcases q with q | ⟨o, its, n, e, hc, _, hd, _, hv⟩
  · obtain ⟨_, its, n, hv, e⟩ := (show ObjOk P w H h a (.lst xs) from q.ok hok)
    exact ⟨its, _, n, hv, e, rfl, rfl⟩
  · exact ⟨its.toList, o, n, hv, KX _ _ e, hc, by simp [hd]⟩
theorem sqT_at {a : Addr} {xs : List V} (hok : HOk P w H h) (KX : K.In h) (q : SqT K H a xs) : ∃ (its : List Value) (o : Obj) (n : Nat), Vals xs its ∧ h.get? a = some o ∧ o.cls = .type "tuple" ∧ o.data = .seq its.toArray n := by
  rcases q with q | ⟨o, its, n, e, hc, hd, _, hv⟩
  · obtain ⟨_, its, hv, o, e, hc, n, hd⟩ := (show ObjOk P w H h a (.tup xs) from q.ok hok)
    exact ⟨its, o, n, hv, e, hc, hd⟩
  · exact ⟨its.toList, o, n, hv, KX _ _ e, hc, by simp [hd]⟩
mutual
theorem Dw.reads (hok : HOk P w H h) (KX : K.In h) : ∀ (d : WData) (v : V) (u : Value), Dw K H v d → RelV v u → ∃ as, ReadsW R cl h u d as
  | .none, _, _, x, r => by
    cases x
    cases r
    exact ⟨_, ReadsW.none⟩
  | .bool b, _, _, x, r => by
    cases x
    cases r
    exact ⟨_, ReadsW.bool b⟩
  | .int i, _, _, x, r => by
    cases x
    obtain ⟨t, rfl⟩ := r
    exact ⟨_, ReadsW.int i t⟩
  | .str s, _, _, x, r => by
    cases x
    obtain ⟨t, rfl⟩ := r
    exact ⟨_, ReadsW.str s t⟩
  | .bytes b, _, _, x, r => by
    cases x
    obtain ⟨t, rfl⟩ := r
    exact ⟨_, ReadsW.bytes _ t⟩
  | .list ds, _, _, x, r => by
    cases x with
    | lst hs ha =>
      cases r
      obtain ⟨its, o, n, rv, ho, hc, hd⟩ := sqL_at hok KX hs
      obtain ⟨as, hr⟩ := Dw.readsAll hok KX ds _ its ha rv
      exact ⟨_, ReadsW.list ho hc hd hr⟩
  | .tuple ds, _, _, x, r => by
    cases x with
    | tup hs ha =>
      cases r
      obtain ⟨its, o, n, rv, ho, hc, hd⟩ := sqT_at hok KX hs
      obtain ⟨as, hr⟩ := Dw.readsAll hok KX ds _ its ha rv
      exact ⟨_, ReadsW.tuple ho hc hd hr⟩
  | .float _, _, _, x, _ => by cases x
  | .dict _, _, _, x, _ => by cases x
  | .bytearray _, _, _, x, _ => by cases x
  | .set _, _, _, x, _ => by cases x
  | .frozenset _, _, _, x, _ => by cases x
  | .obj _ _, _, _, x, _ => by cases x
theorem Dw.readsAll (hok : HOk P w H h) (KX : K.In h) : ∀ (ds : List WData) (vs : List V) (us : List Value), DwAll K H vs ds → Vals vs us → ∃ as, ReadsAllW R cl h us ds as
  | [], _, _, x, r => by
    cases x
    cases r
    exact ⟨_, ReadsAllW.nil⟩
  | d :: ds, _, _, x, r => by
    cases x with
    | cons h1 h2 =>
      cases r with
      | cons r1 r2 =>
        obtain ⟨as, q1⟩ := Dw.reads hok KX d _ _ h1 r1
        obtain ⟨bs, q2⟩ := Dw.readsAll hok KX ds _ _ h2 r2
        exact ⟨_, ReadsAllW.cons q1 q2⟩
end
end
/-! ### the arguments -/
mutual
/-- data that a codec tells -/
def plW : WData → Bool
  | .none => true
  | .bool _ => true
  | .int _ => true
  | .str _ => true
  | .bytes _ => true
  | .list xs => plWs xs
  | .tuple xs => plWs xs
  | _ => false
def plWs : List WData → Bool
  | [] => true
  | x :: r => plW x && plWs r
end
theorem plWs_map {α : Type} {f : α → WData} (h : ∀ a, plW (f a) = true) : ∀ l : List α, plWs (l.map f) = true
  | [] => rfl
  | x :: r => by
    show (plW (f x) && plWs (r.map f)) = true
    rw [h x, plWs_map h r] <;> rfl
theorem pl_enc : ∀ (c : Codec) (a : c.denote), plW (c.enc a) = true
  | .unit, _ => rfl
  | .bool, _ => rfl
  | .int _ _, _ => rfl
  | .nat _ _, _ => rfl
  | .u8, _ => rfl
  | .bytes _ _, _ => rfl
  | .text _ _ _ _, _ => rfl
  | .list _ _ c, a => plWs_map (fun x => pl_enc c x) a
  | .pair c d, a => by
    show (plW (c.enc a.1) && (plW (d.enc a.2) && true)) = true
    rw [pl_enc c a.1, pl_enc d a.2] <;> rfl
  | .triple c d e, a => by
    show (plW (c.enc a.1) && (plW (d.enc a.2.1) && (plW (e.enc a.2.2) && true))) = true
    rw [pl_enc c a.1, pl_enc d a.2.1, pl_enc e a.2.2] <;> rfl
  | .option c, none => rfl
  | .option c, some x => pl_enc c x
theorem pl_encAll : ∀ (cs : List Codec) (a : Codec.denoteAll cs), plWs (Codec.encAll cs a) = true
  | [], _ => rfl
  | c :: cs, a => by
    show (plW (c.enc a.1) && plWs (Codec.encAll cs a.2)) = true
    rw [pl_enc c a.1, pl_encAll cs a.2] <;> rfl
theorem weight_mem : ∀ {xs : List WData} {d : WData}, d ∈ xs → d.weight ≤ WData.weightAll xs
  | [], d, h => absurd h (by simp)
  | x :: r, d, h => by
    show d.weight ≤ x.weight + 1 + WData.weightAll r
    rcases List.mem_cons.mp h with e | m
    · rw [e]
      omega
    · have z := weight_mem m
      omega
def toV : Value → V
  | .none => .non
  | .bool b => .bl b
  | .int i _ => .int i
  | .str x _ => .str x
  | .bytes b _ => .byt b
  | .ref a => .ref a
  | _ => .non
/-- a value of the arguments, its objects among A -/
def OkU (A : List Addr) : Value → Prop
  | .none => True
  | .bool _ => True
  | .int _ _ => True
  | .str _ _ => True
  | .bytes _ _ => True
  | .ref a => a ∈ A
  | _ => False
theorem OkU.mono {A B : List Addr} (h : ∀ a ∈ A, a ∈ B) : ∀ {u : Value}, OkU A u → OkU B u := fun {u} x => by
  cases u with
  | ref a => exact h a x
  | none => trivial
  | bool b => trivial
  | int i t => trivial
  | str s t => trivial
  | bytes b t => trivial
  | _ => exact False.elim x
theorem relV_toV {A : List Addr} {u : Value} (x : OkU A u) : RelV (toV u) u := by
  cases u with
  | ref a => rfl
  | none => rfl
  | bool b => rfl
  | int i t => exact ⟨t, rfl⟩
  | str s t => exact ⟨t, rfl⟩
  | bytes b t => exact ⟨t, rfl⟩
  | _ => exact False.elim x
theorem vals_toV {A : List Addr} : ∀ {vs : List Value}, (∀ u ∈ vs, OkU A u) → Vals (vs.map toV) vs
  | [], _ => .nil
  | u :: r, h => .cons (relV_toV (h u (List.mem_cons_self ..))) (vals_toV fun x hx => h x (List.mem_cons_of_mem _ hx))
/-- an object of the arguments -/
def ArgOb (h : Heap) (A : List Addr) (a : Addr) : Prop := ∃ vs : List Value, vs.length ≤ sizeLine ∧ (∀ u ∈ vs, OkU A u) ∧
  (h.get? a = some { cls := .type "list", data := .seq vs.toArray } ∨ h.get? a = some { cls := .type "tuple", data := .seq vs.toArray })
theorem ArgOb.mono {h : Heap} {A B : List Addr} {a : Addr} (k : ∀ a ∈ A, a ∈ B) (x : ArgOb h A a) : ArgOb h B a := by
  obtain ⟨vs, h1, h2, h3⟩ := x
  exact ⟨vs, h1, fun u hu => (h2 u hu).mono k, h3⟩
theorem wellAll_len {P : Params} {h : Heap} : ∀ {vs : List Value} {ds : List WData}, WellAll P h vs ds → vs.length = ds.length
  | _, _, .nil => rfl
  | _, _, .cons _ b => by
    show _ + 1 = _ + 1
    rw [wellAll_len b]
theorem well_list {P : Params} {h : Heap} {v : Value} {ds : List WData} (x : Well P h v (.list ds)) : ∃ (a : Addr) (vs : List Value), v = .ref a ∧ h.get? a = some { cls := .type "list", data := .seq vs.toArray } ∧ WellAll P h vs ds := by
  cases x with
  | list ho hall => exact ⟨_, _, rfl, ho, hall⟩
theorem well_tuple {P : Params} {h : Heap} {v : Value} {ds : List WData} (x : Well P h v (.tuple ds)) : ∃ (a : Addr) (vs : List Value), v = .ref a ∧ h.get? a = some { cls := .type "tuple", data := .seq vs.toArray } ∧ WellAll P h vs ds := by
  cases x with
  | tuple ho hall => exact ⟨_, _, rfl, ho, hall⟩
theorem well_cons {P : Params} {h : Heap} {us : List Value} {d : WData} {ds : List WData} (x : WellAll P h us (d :: ds)) : ∃ (v : Value) (vs : List Value), us = v :: vs ∧ Well P h v d ∧ WellAll P h vs ds := by
  cases x with
  | cons a b => exact ⟨_, _, rfl, a, b⟩
theorem line_of {n : Nat} (h : n ≤ 1048576) : n ≤ sizeLine := Nat.le_trans h (by decide)
section
variable {P : Params} {h : Heap}
mutual
theorem area_one : ∀ (d : WData) (v : Value), Well P h v d → plW d = true → d.weight ≤ 1048576 → ∃ A : List Addr, OkU A v ∧ ∀ a ∈ A, ArgOb h A a
  | .none, _, x, _, _ => by
    cases x
    exact ⟨[], trivial, fun a m => absurd m (by simp)⟩
  | .bool b, _, x, _, _ => by
    cases x
    exact ⟨[], trivial, fun a m => absurd m (by simp)⟩
  | .int i, _, x, _, _ => by
    cases x
    exact ⟨[], trivial, fun a m => absurd m (by simp)⟩
  | .str s, _, x, _, _ => by
    cases x
    exact ⟨[], trivial, fun a m => absurd m (by simp)⟩
  | .bytes b, _, x, _, _ => by
    cases x
    exact ⟨[], trivial, fun a m => absurd m (by simp)⟩
  | .list ds, _, x, p, z => by
    obtain ⟨a, vs, rfl, ho, hall⟩ := well_list x
    have z2 : WData.weightAll ds ≤ 1048576 := z
    obtain ⟨A, h1, h2⟩ := area_all ds _ hall p fun d hd => Nat.le_trans (weight_mem hd) z2
    have k : ∀ b ∈ A, b ∈ a :: A := fun b hb => List.mem_cons_of_mem _ hb
    refine ⟨a :: A, List.mem_cons_self .., fun b hb => ?_⟩
    rcases List.mem_cons.mp hb with e | m
    · rw [e]
      exact ⟨vs, line_of (by rw [wellAll_len hall]; exact Nat.le_trans (PySem.W.length_le_weightAllW ds) z2), fun u hu => (h1 u hu).mono k, .inl ho⟩
    · exact (h2 b m).mono k
  | .tuple ds, _, x, p, z => by
    obtain ⟨a, vs, rfl, ho, hall⟩ := well_tuple x
    have z2 : WData.weightAll ds ≤ 1048576 := z
    obtain ⟨A, h1, h2⟩ := area_all ds _ hall p fun d hd => Nat.le_trans (weight_mem hd) z2
    have k : ∀ b ∈ A, b ∈ a :: A := fun b hb => List.mem_cons_of_mem _ hb
    refine ⟨a :: A, List.mem_cons_self .., fun b hb => ?_⟩
    rcases List.mem_cons.mp hb with e | m
    · rw [e]
      exact ⟨vs, line_of (by rw [wellAll_len hall]; exact Nat.le_trans (PySem.W.length_le_weightAllW ds) z2), fun u hu => (h1 u hu).mono k, .inr ho⟩
    · exact (h2 b m).mono k
  | .float _, _, _, p, _ => Bool.noConfusion (show false = true from p)
  | .dict _, _, _, p, _ => Bool.noConfusion (show false = true from p)
  | .bytearray _, _, _, p, _ => Bool.noConfusion (show false = true from p)
  | .set _, _, _, p, _ => Bool.noConfusion (show false = true from p)
  | .frozenset _, _, _, p, _ => Bool.noConfusion (show false = true from p)
  | .obj _ _, _, _, p, _ => Bool.noConfusion (show false = true from p)
theorem area_all : ∀ (ds : List WData) (vs : List Value), WellAll P h vs ds → plWs ds = true → (∀ d ∈ ds, d.weight ≤ 1048576) → ∃ A : List Addr, (∀ u ∈ vs, OkU A u) ∧ ∀ a ∈ A, ArgOb h A a
  | [], _, x, _, _ => by
    cases x
    exact ⟨[], fun u m => absurd m (by simp), fun a m => absurd m (by simp)⟩
  | d :: ds, _, x, p, z => by
    obtain ⟨v, vs, rfl, x1, x2⟩ := well_cons x
    have q : plW d = true ∧ plWs ds = true := Bool.and_eq_true_iff.mp p
    obtain ⟨A, a1, a2⟩ := area_one d v x1 q.1 (z d (List.mem_cons_self ..))
    obtain ⟨B, b1, b2⟩ := area_all ds vs x2 q.2 fun e he => z e (List.mem_cons_of_mem _ he)
    have kA : ∀ b ∈ A, b ∈ A ++ B := fun b hb => List.mem_append.mpr (.inl hb)
    have kB : ∀ b ∈ B, b ∈ A ++ B := fun b hb => List.mem_append.mpr (.inr hb)
    refine ⟨A ++ B, fun u hu => ?_, fun b hb => ?_⟩
    · rcases List.mem_cons.mp hu with e | m
      · rw [e]
        exact a1.mono kA
      · exact (b1 u m).mono kB
    · rcases List.mem_append.mp hb with m | m
      · exact (a2 b m).mono kA
      · exact (b2 b m).mono kB
end
end
/-- what is tracked of an argument's object -/
def hoOf (o : Obj) : Option HO := match o.data with
  | .seq vs _ => if (o.cls == Value.type "list") = true then some (.frz o (.lst (vs.toList.map toV))) else some (.frz o (.tup (vs.toList.map toV)))
  | _ => none
def argH (K : PySem.W.Frag) (h : Heap) (A : List Addr) : Hp := fun b => if b ∈ A then (if (K.lookup b).isNone = true then (h.get? b).bind hoOf else none) else none
/-- nothing is tracked but what is known to the object -/
def OnlyF (H : Hp) : Prop := ∀ b, H b = none ∨ ∃ o u, H b = some (.frz o u)
theorem hoOf_lst (vs : List Value) : hoOf { cls := .type "list", data := .seq vs.toArray } = some (.frz { cls := .type "list", data := .seq vs.toArray } (.lst (vs.map toV))) := by
  show (if (Value.type "list" == Value.type "list") = true then some (HO.frz { cls := .type "list", data := .seq vs.toArray } (.lst (vs.toArray.toList.map toV))) else some (HO.frz { cls := .type "list", data := .seq vs.toArray } (.tup (vs.toArray.toList.map toV)))) = _
  rw [if_pos (beq_self_eq_true _)]
theorem hoOf_tup (vs : List Value) : hoOf { cls := .type "tuple", data := .seq vs.toArray } = some (.frz { cls := .type "tuple", data := .seq vs.toArray } (.tup (vs.map toV))) := by
  show (if (Value.type "tuple" == Value.type "list") = true then some (HO.frz { cls := .type "tuple", data := .seq vs.toArray } (.lst (vs.toArray.toList.map toV))) else some (HO.frz { cls := .type "tuple", data := .seq vs.toArray } (.tup (vs.toArray.toList.map toV)))) = _
  rw [if_neg (by decide)]
section
variable {P : Program} {w : World} {K : PySem.W.Frag} {h : Heap} {A : List Addr}
theorem argH_at {b : Addr} {o : Obj} (hb : b ∈ A) (hk : K.lookup b = none) (e : h.get? b = some o) : argH K h A b = hoOf o := by
  unfold argH
  rw [if_pos hb, hk, if_pos (show (none : Option Obj).isNone = true from rfl), e] <;> rfl
theorem of_argH {b : Addr} {u : HO} (q : argH K h A b = some u) : b ∈ A ∧ K.lookup b = none := by
  unfold argH at q
  by_cases hb : b ∈ A
  · rw [if_pos hb] at q
    cases hk : K.lookup b with
    | none => exact ⟨hb, rfl⟩
    | some o =>
      rw [hk, if_neg (by simp)] at q
      cases q
  · rw [if_neg hb] at q
    cases q
/-- what stands tracked -/
theorem argH_is (ar : ∀ a ∈ A, ArgOb h A a) {b : Addr} {u : HO} (q : argH K h A b = some u) : K.lookup b = none ∧ ∃ vs : List Value, vs.length ≤ sizeLine ∧ (∀ u ∈ vs, OkU A u) ∧
    ((h.get? b = some { cls := .type "list", data := .seq vs.toArray } ∧ u = .frz { cls := .type "list", data := .seq vs.toArray } (.lst (vs.map toV))) ∨
     (h.get? b = some { cls := .type "tuple", data := .seq vs.toArray } ∧ u = .frz { cls := .type "tuple", data := .seq vs.toArray } (.tup (vs.map toV)))) := by
  obtain ⟨hb, hk⟩ := of_argH q
  obtain ⟨vs, h1, h2, h3⟩ := ar b hb
  refine ⟨hk, vs, h1, h2, ?_⟩
  rcases h3 with e | e
  · rw [argH_at hb hk e, hoOf_lst] at q
    exact .inl ⟨e, (Option.some.inj q).symm⟩
  · rw [argH_at hb hk e, hoOf_tup] at q
    exact .inr ⟨e, (Option.some.inj q).symm⟩
theorem argH_only (ar : ∀ a ∈ A, ArgOb h A a) : OnlyF (argH K h A) := fun b => by
  cases q : argH K h A b with
  | none => exact .inl rfl
  | some u =>
    obtain ⟨_, vs, _, _, ⟨_, e⟩ | ⟨_, e⟩⟩ := argH_is ar q
    · exact .inr ⟨_, _, by rw [e]⟩
    · exact .inr ⟨_, _, by rw [e]⟩
theorem argH_ok (ar : ∀ a ∈ A, ArgOb h A a) : HOk P w (argH K h A) h := fun b u q => by
  obtain ⟨_, vs, h1, h2, ⟨e, rfl⟩ | ⟨e, rfl⟩⟩ := argH_is ar q
  · exact ⟨e, by rw [List.length_map]; exact h1, vs, _, vals_toV h2, e⟩
  · exact ⟨e, by rw [List.length_map]; exact h1, vs, vals_toV h2, _, e, rfl, _, rfl⟩
theorem seq_inj {c c' : Value} {vs us : List Value} (e : (some { cls := c, data := .seq vs.toArray } : Option Obj) = some { cls := c', data := .seq us.toArray }) : c = c' ∧ vs = us := by
  have e1 := Option.some.inj e
  have e2 : c = c' := congrArg Obj.cls e1
  have e3 : Data.seq vs.toArray = Data.seq us.toArray := congrArg Obj.data e1
  injection e3 with e4
  refine ⟨e2, ?_⟩
  have e5 := congrArg Array.toList e4
  simpa using e5
/-- a list argument -/
theorem argL (KX : K.In h) (ar : ∀ a ∈ A, ArgOb h A a) {a : Addr} {vs : List Value} (ha : a ∈ A) (e : h.get? a = some { cls := .type "list", data := .seq vs.toArray }) : (∀ u ∈ vs, OkU A u) ∧ SqL K (argH K h A) a (vs.map toV) := by
  obtain ⟨us, h1, h2, h3⟩ := ar a ha
  have hu : us = vs := by
    rcases h3 with q | q
    · rw [e] at q
      exact (seq_inj q).2.symm
    · rw [e] at q
      exact absurd (Value.type.inj (seq_inj q).1) (by decide)
  subst hu
  refine ⟨h2, ?_⟩
  cases hk : K.lookup a with
  | none => exact .inl (.inr ⟨_, by rw [argH_at ha hk e, hoOf_lst]⟩)
  | some o =>
    have e2 := KX a o hk
    rw [e] at e2
    obtain rfl := Option.some.inj e2
    exact .inr ⟨_, us.toArray, _, hk, rfl, rfl, rfl, by rw [List.size_toArray]; exact h1, by simpa using vals_toV h2⟩
theorem argT (KX : K.In h) (ar : ∀ a ∈ A, ArgOb h A a) {a : Addr} {vs : List Value} (ha : a ∈ A) (e : h.get? a = some { cls := .type "tuple", data := .seq vs.toArray }) : (∀ u ∈ vs, OkU A u) ∧ SqT K (argH K h A) a (vs.map toV) := by
  obtain ⟨us, h1, h2, h3⟩ := ar a ha
  have hu : us = vs := by
    rcases h3 with q | q
    · rw [e] at q
      exact absurd (Value.type.inj (seq_inj q).1) (by decide)
    · rw [e] at q
      exact (seq_inj q).2.symm
  subst hu
  refine ⟨h2, ?_⟩
  cases hk : K.lookup a with
  | none => exact .inl (.inr ⟨_, by rw [argH_at ha hk e, hoOf_tup]⟩)
  | some o =>
    have e2 := KX a o hk
    rw [e] at e2
    obtain rfl := Option.some.inj e2
    exact .inr ⟨_, us.toArray, _, hk, rfl, rfl, by rw [List.size_toArray]; exact h1, by simpa using vals_toV h2⟩
mutual
theorem dw_one {Pm : Params} (KX : K.In h) (ar : ∀ a ∈ A, ArgOb h A a) : ∀ (d : WData) (v : Value), Well Pm h v d → plW d = true → OkU A v → Dw K (argH K h A) (toV v) d
  | .none, _, x, _, _ => by
    cases x
    exact .non
  | .bool b, _, x, _, _ => by
    cases x
    exact .bl b
  | .int i, _, x, _, _ => by
    cases x
    exact .int i
  | .str s, _, x, _, _ => by
    cases x
    exact .str s
  | .bytes b, _, x, _, _ => by
    cases x
    have z := Dw.byt (K := K) (H := argH K h A) b.toArray
    exact z
  | .list ds, _, x, p, hu => by
    obtain ⟨a, vs, rfl, ho, hall⟩ := well_list x
    obtain ⟨h2, hs⟩ := argL KX ar hu ho
    exact .lst hs (dw_all KX ar ds _ hall p h2)
  | .tuple ds, _, x, p, hu => by
    obtain ⟨a, vs, rfl, ho, hall⟩ := well_tuple x
    obtain ⟨h2, hs⟩ := argT KX ar hu ho
    exact .tup hs (dw_all KX ar ds _ hall p h2)
  | .float _, _, _, p, _ => Bool.noConfusion (show false = true from p)
  | .dict _, _, _, p, _ => Bool.noConfusion (show false = true from p)
  | .bytearray _, _, _, p, _ => Bool.noConfusion (show false = true from p)
  | .set _, _, _, p, _ => Bool.noConfusion (show false = true from p)
  | .frozenset _, _, _, p, _ => Bool.noConfusion (show false = true from p)
  | .obj _ _, _, _, p, _ => Bool.noConfusion (show false = true from p)
theorem dw_all {Pm : Params} (KX : K.In h) (ar : ∀ a ∈ A, ArgOb h A a) : ∀ (ds : List WData) (vs : List Value), WellAll Pm h vs ds → plWs ds = true → (∀ u ∈ vs, OkU A u) → DwAll K (argH K h A) (vs.map toV) ds
  | [], _, x, _, _ => by
    cases x
    exact .nil
  | d :: ds, _, x, p, hu => by
    obtain ⟨v, vs, rfl, x1, x2⟩ := well_cons x
    have q : plW d = true ∧ plWs ds = true := Bool.and_eq_true_iff.mp p
    exact .cons (dw_one KX ar d v x1 q.1 (hu _ (List.mem_cons_self ..))) (dw_all KX ar ds vs x2 q.2 fun u m => hu u (List.mem_cons_of_mem _ m))
end
end
/-! ### the call -/
theorem spec_call {P : Program} {w : World} {K : PySem.W.Frag} {mg mb : Str → Option Value} {CX : CXT} {k : Nat} {fa : Addr} {fd : FuncData} {ps : List Str} {sp : Sp} {s₁ : Shared} {vals : List Value} {ds : List WData} {R : PySem.W.WRecords} {cl : Str → Option Addr} {d0 : WData}
    (KX : K.In s₁.heap) (hns : s₁.heap.Ns mainGlobals mg) (hb : s₁.heap.Ns builtinsNs mb) (hbb : ∀ x : Str, x ≠ "__name__" → mb x = bootBuiltins x) (hlim : s₁.heap.NoLimit) (hg : s₁.gens = #[])
    (hwl : WellAll w.params s₁.heap vals ds) (hpl : plWs ds = true) (hwt : ∀ d ∈ ds, d.weight ≤ 1048576) (hr : Room k callerA)
    (F : ∀ base : Heap, K.In base → base.Ns mainGlobals mg → FnOk P w K mg base CX k fa fd ps sp) (hbind : ∀ (s : Shared) (us : List Value), us.length = ps.length → BindsTo s fd ⟨us, []⟩ (ps.zip us)) (hlen : ds.length = ps.length)
    (hsp : ∀ (H : Hp) (xs : List V), OnlyF H → DwAll K H xs ds → sp xs H (fun v H' => Dw K H' v d0) fun _ _ _ => False)
    (hCX : ∀ H e s', CX [] H s₁ (fun _ _ _ => False) e s' → False) :
    codeAny (model P w) callerA (.call (.ref fa) ⟨vals, []⟩) (fun r s' => ∃ u as, r = .ok (.ret u) ∧ ReadsW R cl s'.heap u d0 as ∧ OldK s₁.heap s'.heap ∧ s'.os = s₁.os ∧ AllBare s'.gens) s₁ := by
  obtain ⟨A, ho, ar⟩ := area_all ds vals hwl hpl hwt
  have hO : OnlyF (argH K s₁.heap A) := argH_only ar
  have hok : HOk P w (argH K s₁.heap A) s₁.heap := argH_ok ar
  have hS := dw_all KX ar ds vals hwl hpl ho
  have hV := vals_toV ho
  have hK : ∀ b u, argH K s₁.heap A b = some u → K.lookup b = none := fun b u q => (argH_is ar q).1
  have noA : ∀ {b : Addr} {o : Obj} {es : Array DictEntry} {ep : Nat}, s₁.heap.get? b = some o → o.data = .dict es ep → argH K s₁.heap A b = none := fun {b o es ep} e d => by
    cases q : argH K s₁.heap A b with
    | none => rfl
    | some u =>
      obtain ⟨_, vs, _, _, ⟨e2, _⟩ | ⟨e2, _⟩⟩ := argH_is ar q
      · rw [e2] at e
        cases e
        have d' : Data.seq vs.toArray _ = Data.dict es ep := d
        cases d'
      · rw [e2] at e
        cases e
        have d' : Data.seq vs.toArray _ = Data.dict es ep := d
        cases d'
  generalize argH K s₁.heap A = H at hO hok hS hK noA
  have base_of : ∀ {b : Addr} {o : Obj}, s₁.heap.get? b = some o → H b = none → (hidT s₁.heap H).get? b = some o := fun e n => hidT_get e n
  have nsK : ∀ {b : Addr} {m : Str → Option Value}, s₁.heap.Ns b m → (hidT s₁.heap H).Ns b m := fun {b m} ⟨o, es, ep, e, d, r⟩ => ⟨o, es, ep, base_of e (noA e d), d, r⟩
  have nK : ∀ b o, K.lookup b = some o → H b = none := fun b o e => by
    cases q : H b with
    | none => rfl
    | some u =>
      rw [hK b u q] at e
      cases e
  have hKb : K.In (hidT s₁.heap H) := fun b o e => base_of (KX b o e) (nK b o e)
  have hM : Mod K mg (hidT s₁.heap H) := ⟨hKb, nsK hns, ⟨mb, nsK hb, hbb⟩, let ⟨mc, h1, h2⟩ := hlim; ⟨mc, nsK h1, h2⟩⟩
  have e0 : Env0 P w K mg (hidT s₁.heap H) callerA [] s₁ H := ⟨rfl, hM, fun b o e => of_hidT e, Nat.le_of_eq (hidT_size _ _), trivial, fun b hb => absurd (show b ∈ ([] : List Addr) from hb) (by simp), hok, .of_eq hg⟩
  have hl : vals.length = ps.length := by rw [wellAll_len hwl]; exact hlen
  refine codeAny_mono ((F _ hKb (nsK hns)).run callerA [] s₁ H ⟨vals, []⟩ vals (vals.map toV) _ _ hr e0 (hbind s₁ vals hl) hV (hsp H _ hO hS)) fun r s' x => ?_
  cases r with
  | error e => exact (hCX H e s' x).elim
  | ok fl =>
    cases fl with
    | next => exact False.elim x
    | brk => exact False.elim x
    | cont => exact False.elim x
    | ret u =>
      obtain ⟨v, H', os, bare, un, hok', r', q⟩ := x
      have kept : ∀ b o, s₁.heap.get? b = some o → s'.heap.get? b = some o := fun b o e => by
        cases q2 : H b with
        | none => exact un.keep b o e q2 (by intro z; exact absurd (show b ∈ ([] : List Addr) from z) (by simp)) (by simp)
        | some u2 =>
          rcases hO b with z | ⟨ob, u3, z⟩
          · rw [q2] at z
            cases z
          · have z2 := un.frzs b ob _ z
            obtain ⟨e1, _⟩ := hok b _ z
            obtain ⟨e2, _⟩ := hok' b _ z2
            rw [e] at e1
            cases e1
            exact e2
      have KX' : K.In s'.heap := fun b o e => kept b o (KX b o e)
      obtain ⟨as, hrd⟩ := Dw.reads (R := R) (cl := cl) hok' KX' d0 v u q r'
      exact ⟨u, as, rfl, hrd, OldK.of_keep kept, os, bare⟩
/-! ### the row -/
theorem layable_weight {ds : List WData} (h : WData.layableAll ds = true) : ∀ d ∈ ds, d.weight ≤ 1048576 := fun d hd =>
  (PySem.W.layableW_iff.mp (List.all_eq_true.mp h d hd)).2.2
theorem encAll_len : ∀ (cs : List Codec) (a : Codec.denoteAll cs), (Codec.encAll cs a).length = cs.length
  | [], _ => rfl
  | c :: cs, a => by
    show (Codec.encAll cs a.2).length + 1 = cs.length + 1
    rw [encAll_len cs a.2]
/-- the goal that k_headS leaves (case hc), from the promise of the row's def: whatever the arguments that the codecs let and the row asks for, the def gives what stands for enc (f ..) -/
theorem walk_spec {r : OpenSpec} {k : Nat} {q : Program} {loose : List Str} {XP : (Str → Option Value) → Heap → Prop} {YP : World → Heap → Prop} {d : DefRec} {K : Params → PySem.W.Frag} {CX : World → CXT} {ps : List Str} {sp : World → Sp}
    (hwell : r.wellSaid = true) (hdf : d.params.defaults = []) (hlen : r.args.length = ps.length) (hr : Room k callerA)
    (hY : ∀ (w : World) (h : Heap), YP w h → (K w.params).In h)
    (F : ∀ (w : World) (mg : Str → Option Value) (fa : Addr) (h : Heap), YP w h → (K w.params).In h → h.Ns mainGlobals mg → mg d.name = some (.ref fa) →
      ∃ fd : FuncData, (∀ (s : Shared) (us : List Value), us.length = ps.length → BindsTo s fd ⟨us, []⟩ (ps.zip us)) ∧
        ∀ base : Heap, (K w.params).In base → base.Ns mainGlobals mg → FnOk r.prog w (K w.params) mg base (CX w) k fa fd ps (sp w))
    (hsp : ∀ (w : World) (H : Hp) (xs : List V) (a : Codec.denoteAll r.args), OnlyF H → Codec.withinAll r.args a = true → Codec.app r.args r.asked a = true → DwAll (K w.params) H xs (Codec.encAll r.args a) →
      sp w xs H (fun v H' => Dw (K w.params) H' v (r.ret.enc (Codec.app r.args r.f a))) fun _ _ _ => False)
    (hCX : ∀ (w : World) (H : Hp) (s : Shared) (e : Value) (s' : Shared), CX w [] H s (fun _ _ _ => False) e s' → False) :
    PySem.W.WalkOS q loose XP YP r d [] (fun f vs => PySem.call f vs) := by
  intro w s_0 s₁ mg mb G Y fa o pm cd doc dV kV ho hd hcd hD hmg hg args vals as hpre hlay hrd hwl hlo
  obtain ⟨a, e1, e2⟩ := PySem.W.os_pre_some hpre
  obtain ⟨e3, hwi⟩ := Codec.encAll_of_decAll r.args args a e1
  subst e3
  have KX := hY w _ Y
  obtain ⟨fd, hb, hF⟩ := F w mg fa _ Y KX G.T.g hmg
  refine PySem.W.enter_call (codeAny_mono (spec_call (R := []) (cl := classAt s_0.heap) (d0 := r.ret.enc (Codec.app r.args r.f a)) KX G.T.g G.T.b G.T.builtins G.T.nolimit hg hwl (pl_encAll _ _) (layable_weight hlay) hr hF hb (by rw [encAll_len]; exact hlen)
    (fun H xs hO hS => hsp w H xs a hO hwi e2 hS) fun H e s' => hCX w H s₁ e s') fun r' s' hq => ?_)
  obtain ⟨u, as', rfl, h1, h2, h3, h4⟩ := hq
  exact ⟨.inl ⟨u, _, as', rfl, fun _ => rfl, h1, (OpenSpec.post_iff hwell hwi _ _).mpr rfl, fun z => Bool.noConfusion (show false = true from z)⟩, h2, h3, h4⟩
/-- the same where the promise hangs on the written part alone -/
theorem walk_specK {r : OpenSpec} {k : Nat} {q : Program} {loose : List Str} {XP : (Str → Option Value) → Heap → Prop} {YP : World → Heap → Prop} {d : DefRec} {K : Params → PySem.W.Frag} {CX : CXT} {ps : List Str} {sp : PySem.W.Frag → Sp}
    (hwell : r.wellSaid = true) (hdf : d.params.defaults = []) (hlen : r.args.length = ps.length) (hr : Room k callerA)
    (hY : ∀ (w : World) (h : Heap), YP w h → (K w.params).In h)
    (F : ∀ (w : World) (mg : Str → Option Value) (fa : Addr) (h : Heap), YP w h → (K w.params).In h → h.Ns mainGlobals mg → mg d.name = some (.ref fa) →
      ∃ fd : FuncData, (∀ (s : Shared) (us : List Value), us.length = ps.length → BindsTo s fd ⟨us, []⟩ (ps.zip us)) ∧
        ∀ base : Heap, (K w.params).In base → base.Ns mainGlobals mg → FnOk r.prog w (K w.params) mg base CX k fa fd ps (sp (K w.params)))
    (hsp : ∀ (K : PySem.W.Frag) (H : Hp) (xs : List V) (a : Codec.denoteAll r.args), OnlyF H → Codec.withinAll r.args a = true → Codec.app r.args r.asked a = true → DwAll K H xs (Codec.encAll r.args a) →
      sp K xs H (fun v H' => Dw K H' v (r.ret.enc (Codec.app r.args r.f a))) fun _ _ _ => False)
    (hCX : ∀ (H : Hp) (s : Shared) (e : Value) (s' : Shared), CX [] H s (fun _ _ _ => False) e s' → False) :
    PySem.W.WalkOS q loose XP YP r d [] (fun f vs => PySem.call f vs) :=
  walk_spec (K := K) (CX := fun _ => CX) (sp := fun w => sp (K w.params)) hwell hdf hlen hr hY F (fun w H xs a h1 h2 h3 h4 => hsp (K w.params) H xs a h1 h2 h3 h4) fun _ H s e s' => hCX H s e s'
end L2
end
section
set_option autoImplicit false
set_option linter.all false
namespace Cue
open Kg53

def upFrom (l : Nat) : List Nat := COLOURS.filter fun x => decide (l ≤ x)
/-- the lowest colour as the program holds it: 8 where none is left -/
def tL (t : Table) : Nat := t.up.headD 8
def tO (t : Table) : Nat := match t.on_ with
  | .red => 1
  | .colour => 0
  | .order => tL t
/-- tables that can be, the empty one (behind the last black) too -/
structure TOk8 (t : Table) : Prop where
  reds : t.reds ≤ 15
  sh : (t.on_ = .red ∧ 0 < t.reds ∧ t.up = COLOURS) ∨ (t.on_ = .colour ∧ t.up = COLOURS) ∨ (t.on_ = .order ∧ t.reds = 0 ∧ ∃ l, 2 ≤ l ∧ l ≤ 8 ∧ t.up = upFrom l)
structure TOk (t : Table) : Prop where
  reds : t.reds ≤ 15
  sh : (t.on_ = .red ∧ 0 < t.reds ∧ t.up = COLOURS) ∨ (t.on_ = .colour ∧ t.up = COLOURS) ∨ (t.on_ = .order ∧ t.reds = 0 ∧ ∃ l, 2 ≤ l ∧ l ≤ 7 ∧ t.up = upFrom l)
theorem TOk.eight {t : Table} (h : TOk t) : TOk8 t := ⟨h.reds, by
  rcases h.sh with a | a | ⟨a, b, l, c, d, e⟩
  · exact .inl a
  · exact .inr (.inl a)
  · exact .inr (.inr ⟨a, b, l, c, by omega, e⟩)⟩

theorem l_cases {l : Nat} (h1 : 2 ≤ l) (h2 : l ≤ 8) : l = 2 ∨ l = 3 ∨ l = 4 ∨ l = 5 ∨ l = 6 ∨ l = 7 ∨ l = 8 := by omega
theorem tL_up {t : Table} {l : Nat} (h1 : 2 ≤ l) (h2 : l ≤ 8) (e : t.up = upFrom l) : tL t = l := by
  unfold tL; rw [e]
  rcases l_cases h1 h2 with rfl | rfl | rfl | rfl | rfl | rfl | rfl <;> decide
theorem tL_full {t : Table} (e : t.up = COLOURS) : tL t = 2 := by unfold tL; rw [e]; decide
theorem TOk.low {t : Table} (h : TOk t) : 2 ≤ tL t ∧ tL t ≤ 7 := by
  rcases h.sh with ⟨_, _, e⟩ | ⟨_, e⟩ | ⟨_, _, l, h1, h2, e⟩
  · rw [tL_full e]; omega
  · rw [tL_full e]; omega
  · rw [tL_up h1 (by omega) e]; omega
theorem TOk8.low {t : Table} (h : TOk8 t) : 2 ≤ tL t ∧ tL t ≤ 8 := by
  rcases h.sh with ⟨_, _, e⟩ | ⟨_, e⟩ | ⟨_, _, l, h1, h2, e⟩
  · rw [tL_full e]; omega
  · rw [tL_full e]; omega
  · rw [tL_up h1 (by omega) e]; omega
/-- the colours on the table are those from the lowest on -/
theorem TOk8.up {t : Table} (h : TOk8 t) : t.up = upFrom (tL t) := by
  rcases h.sh with ⟨_, _, e⟩ | ⟨_, e⟩ | ⟨_, _, l, h1, h2, e⟩
  · rw [tL_full e, e]; decide
  · rw [tL_full e, e]; decide
  · rw [tL_up h1 h2 e, e]
theorem TOk.up {t : Table} (h : TOk t) : t.up = upFrom (tL t) := h.eight.up
theorem TOk.lowest {t : Table} (h : TOk t) : t.lowest = tL t := by
  unfold Table.lowest
  have hu := h.up
  have hl := h.low
  rw [hu]
  rcases l_cases hl.1 (by omega) with e | e | e | e | e | e | e <;> rw [e] <;> first | decide | omega

/-! ### left -/
theorem sum_up : ∀ l : Nat, 2 ≤ l → l ≤ 8 → (upFrom l).sum = (27 - (l - 2) * (l + 1) / 2) := by
  intro l h1 h2
  rcases l_cases h1 h2 with rfl | rfl | rfl | rfl | rfl | rfl | rfl <;> decide
theorem left_red {t : Table} (h : TOk t) (e : tO t = 1) : t.left = 8 * t.reds + 27 := by
  rcases h.sh with ⟨a, _, b⟩ | ⟨a, b⟩ | ⟨a, _, l, h1, h2, b⟩
  · unfold Table.left; rw [a, b]; rfl
  · unfold tO at e; rw [a] at e; cases e
  · unfold tO at e; rw [a, tL_up h1 (by omega) b] at e; simp only at e; omega
theorem left_colour {t : Table} (h : TOk t) (e : tO t = 0) : t.left = 8 * t.reds + 27 + 7 := by
  rcases h.sh with ⟨a, _, b⟩ | ⟨a, b⟩ | ⟨a, _, l, h1, h2, b⟩
  · unfold tO at e; rw [a] at e; cases e
  · unfold Table.left; rw [a, b]; simp only [show COLOURS.sum = 27 from rfl]; omega
  · unfold tO at e; rw [a, tL_up h1 (by omega) b] at e; simp only at e; omega
/-- range(l, 8) as a list of nints -/
theorem left_order {t : Table} (h : TOk t) (e1 : tO t ≠ 1) (e0 : tO t ≠ 0) : (t.left : Int) = ((List.range (8 - tL t)).map fun (i : Nat) => (tL t : Int) + (i : Int)).sum := by
  rcases h.sh with ⟨a, _, b⟩ | ⟨a, b⟩ | ⟨a, _, l, h1, h2, b⟩
  · unfold tO at e1; rw [a] at e1; exact absurd rfl e1
  · unfold tO at e0; rw [a] at e0; exact absurd rfl e0
  · unfold Table.left; rw [a, b, tL_up h1 (by omega) b]
    dsimp only
    rcases l_cases h1 (by omega) with rfl | rfl | rfl | rfl | rfl | rfl | rfl <;> decide

/-! ### how many -/
def hm (t : Table) (x : Nat) : Nat := if x = 0 then 1 else if x = 1 then t.reds else if tL t ≤ x then 1 else 0
theorem many_up : ∀ l x : Nat, 2 ≤ l → l ≤ 8 → 2 ≤ x → x ≤ 7 → many (upFrom l) x = if l ≤ x then 1 else 0 := by
  intro l x h1 h2 h3 h4
  rcases l_cases h1 h2 with rfl | rfl | rfl | rfl | rfl | rfl | rfl <;>
  rcases l_cases h3 (by omega) with rfl | rfl | rfl | rfl | rfl | rfl | rfl <;> first | decide | omega
theorem contains_up : ∀ l x : Nat, 2 ≤ l → l ≤ 8 → 2 ≤ x → x ≤ 7 → (upFrom l).contains x = decide (l ≤ x) := by
  intro l x h1 h2 h3 h4
  rcases l_cases h1 h2 with rfl | rfl | rfl | rfl | rfl | rfl | rfl <;>
  rcases l_cases h3 (by omega) with rfl | rfl | rfl | rfl | rfl | rfl | rfl <;> first | decide | omega

/-! ### strokes -/
structure KOk (k : Stroke) : Prop where
  named : k.named ≤ 7
  hit : k.hit ≤ 7
  conduct : k.conduct ≤ 8
  miss : k.miss ≤ 2
  balls : ∀ x ∈ k.potted ++ k.off, x ≤ 7
def nints (l : List Nat) : List Int := l.map fun (n : Nat) => (n : Int)
theorem within_iff {z lo hi : Int} : Kg53.within z lo hi = true ↔ lo ≤ z ∧ z ≤ hi := by
  unfold Kg53.within; simp
theorem toNat_ints : ∀ (l : List Int), (∀ z ∈ l, 0 ≤ z) → l = nints (l.map Int.toNat)
  | [], _ => rfl
  | z :: r, h => by
    have ih := toNat_ints r fun y hy => h y (List.mem_cons_of_mem _ hy)
    have hz := h z (List.mem_cons_self)
    show z :: r = ((z.toNat : Nat) : Int) :: nints (r.map Int.toNat)
    rw [← ih, Int.toNat_of_nonneg hz]
theorem strokeOf_some {n h c d m : Int} {p o : List Int} {k : Stroke} (e : strokeOf n h c d m p o = some k) :
    KOk k ∧ n = k.named ∧ h = k.hit ∧ c = k.conduct ∧ d = (if k.hidden = true then 1 else 0 : Int) ∧ m = k.miss ∧ p = nints k.potted ∧ o = nints k.off := by
  unfold strokeOf at e
  split at e
  · rename_i q
    simp only [Bool.and_eq_true, within_iff, List.all_eq_true, List.mem_append] at q
    obtain ⟨⟨n1, n2⟩, ⟨h1, h2⟩, ⟨c1, c2⟩, ⟨d1, d2⟩, ⟨m1, m2⟩, hb⟩ := q
    cases e
    refine ⟨⟨by simp only; omega, by simp only; omega, by simp only; omega, by simp only; omega, ?_⟩, ?_, ?_, ?_, ?_, ?_, ?_, ?_⟩
    · intro x hx
      simp only [List.mem_append, List.mem_map] at hx
      rcases hx with ⟨z, hz, rfl⟩ | ⟨z, hz, rfl⟩
      · have := hb z (.inl hz); omega
      · have := hb z (.inr hz); omega
    · simp only; omega
    · simp only; omega
    · simp only; omega
    · simp only
      have : d = 0 ∨ d = 1 := by omega
      rcases this with rfl | rfl <;> rfl
    · simp only; omega
    · exact toNat_ints p fun z hz => (hb z (.inl hz)).1
    · exact toNat_ints o fun z hz => (hb z (.inr hz)).1
  · cases e
theorem strokeOf_none {n h c d m : Int} {p o : List Int} : (strokeOf n h c d m p o).isSome = (within n 0 7 && (within h 0 7 && (within c 0 8 && (within d 0 1 && (within m 0 2 && ((p ++ o).all fun z => within z 0 7)))))) := by
  unfold strokeOf
  split
  · rename_i q; rw [q]; rfl
  · rename_i q; simp only [Bool.not_eq_true] at q; rw [q]; rfl

def gone (k : Stroke) : List Nat := k.potted ++ k.off
/-- what the program asks of a stroke that can have been -/
def chb (t : Table) (k : Stroke) : Bool :=
  !(decide (2 ≤ k.named) && decide (hm t k.named = 0)) && (!(decide (k.hit ≠ 0) && decide (hm t k.hit = 0)) && (!(decide (k.hit = 0) && (gone k).any fun x => decide (x ≠ 0)) && (gone k).all fun x => decide ((gone k).count x ≤ hm t x)))
theorem many_count (l : List Nat) (x : Nat) : many l x = l.count x := by
  unfold many; rw [List.count_eq_countP, List.countP_eq_length_filter]
theorem mem_colours {x : Nat} : x ∈ COLOURS ↔ 2 ≤ x ∧ x ≤ 7 := by
  unfold COLOURS
  simp only [List.mem_cons, List.not_mem_nil, or_false]
  omega
theorem chb_eq {t : Table} {k : Stroke} (ht : TOk8 t) (hk : KOk k) : chb t k = (there t k && couldBe t k) := by
  have hl := ht.low
  rw [Bool.eq_iff_iff]
  unfold chb there couldBe
  simp only [Bool.and_eq_true, Bool.not_eq_true', Bool.and_eq_false_iff, decide_eq_true_eq, decide_eq_false_iff_not, List.all_eq_true, Bool.or_eq_true, bne_iff_ne, beq_iff_eq, List.any_eq_false, many_count]
  have hc : ∀ x, 2 ≤ x → x ≤ 7 → t.up.contains x = decide (hm t x ≠ 0) := fun x h1 h2 => by
    rw [ht.up, contains_up _ _ hl.1 hl.2 h1 h2]
    unfold hm
    rw [if_neg (by omega), if_neg (by omega)]
    by_cases q : tL t ≤ x
    · simp [q]
    · simp [q]
  have hcu : ∀ x, 2 ≤ x → x ≤ 7 → t.up.count x = hm t x := fun x h1 h2 => by
    rw [← many_count, ht.up, many_up _ _ hl.1 hl.2 h1 h2]
    unfold hm
    rw [if_neg (show ¬ x = 0 by omega), if_neg (show ¬ x = 1 by omega)]
  have e0 : hm t 0 = 1 := rfl
  have e1 : hm t 1 = t.reds := rfl
  have hgone : gone k = k.potted ++ k.off := rfl
  rw [← hgone]
  constructor
  · rintro ⟨a1, a2, a3, a4⟩
    have cnt : ∀ x, x ≤ 7 → (gone k).count x ≤ hm t x := fun x hx => by
      by_cases q : x ∈ gone k
      · exact a4 x q
      · rw [List.count_eq_zero_of_not_mem q]; omega
    refine ⟨⟨⟨by have := cnt 0 (by omega); omega, by have := cnt 1 (by omega); omega⟩, fun x hx => ?_, ?_⟩, ?_, ?_⟩
    · have := mem_colours.mp hx
      rw [hcu x this.1 this.2]
      exact cnt x this.2
    · by_cases q : k.hit = 0
      · exact .inl q
      · refine .inr ?_
        have h1 : ¬ hm t k.hit = 0 := a2.resolve_left fun z => z q
        split
        · rename_i q1; rw [q1, e1] at h1; simp; omega
        · rename_i q1
          rw [hc _ (by omega) hk.hit]; simpa using h1
    · by_cases q : k.hit = 0
      · refine .inr fun x hx => ?_
        have := (a3.resolve_left fun z => z q) x hx
        simpa using this
      · exact .inl q
    · by_cases q : k.named < 2
      · exact .inl q
      · refine .inr ?_
        have h1 : ¬ hm t k.named = 0 := a1.resolve_left fun z => z (by omega)
        rw [hc _ (by omega) hk.named]; simpa using h1
  · rintro ⟨⟨⟨b0, b1⟩, b2, b3⟩, b4, b5⟩
    refine ⟨?_, ?_, ?_, fun x hx => ?_⟩
    · rcases b5 with q | q
      · exact .inl (by omega)
      · by_cases z : 2 ≤ k.named
        · rw [hc _ z hk.named] at q
          exact .inr (by simpa using q)
        · exact .inl z
    · rcases b3 with q | q
      · exact .inl fun z => z q
      · by_cases z : k.hit = 0
        · exact .inl fun w => w z
        · refine .inr ?_
          split at q
          · rename_i q1; rw [q1, e1]; simp at q; omega
          · rw [hc _ (by omega) hk.hit] at q; simpa using q
    · rcases b4 with q | q
      · exact .inl q
      · exact .inr fun x hx => by simpa using q x hx
    · have hx7 := hk.balls x hx
      rcases (show x = 0 ∨ x = 1 ∨ 2 ≤ x by omega) with rfl | rfl | h2
      · rw [e0]; exact b0
      · rw [e1]; exact b1
      · rw [← hcu x h2 hx7]; exact b2 x (mem_colours.mpr ⟨h2, hx7⟩)

/-! ### judging -/
/-- a frame's part that a stroke is judged by -/
structure JOk (f : Frame) (k : Stroke) : Prop where
  t : TOk f.table
  ok : KOk k
  fr : f.free = true → f.table.on_ ≠ .colour
  can : (there f.table k && couldBe f.table k) = true
def pFree (f : Frame) (k : Stroke) : Nat := if f.free = true ∧ 2 ≤ k.named ∧ k.named ≠ tO f.table then k.named else 0
def pOn (f : Frame) (k : Stroke) : List Nat := (if tO f.table ≠ 0 then [tO f.table] else if 2 ≤ k.named then [k.named] else []) ++ (if pFree f k ≠ 0 then [pFree f k] else [])
theorem JOk.chb {f : Frame} {k : Stroke} (j : JOk f k) : chb f.table k = true := by rw [chb_eq j.t.eight j.ok]; exact j.can
theorem JOk.named_up {f : Frame} {k : Stroke} (j : JOk f k) (h : 2 ≤ k.named) : k.named ∈ f.table.up := by
  have c := j.can
  unfold couldBe at c
  simp only [Bool.and_eq_true, Bool.or_eq_true, decide_eq_true_eq, List.contains_iff_mem] at c
  rcases c.2.2 with q | q
  · omega
  · exact q
theorem tO_cases {t : Table} (h : TOk t) : (t.on_ = .red ∧ tO t = 1) ∨ (t.on_ = .colour ∧ tO t = 0) ∨ (t.on_ = .order ∧ tO t = tL t ∧ 2 ≤ tO t ∧ tO t ≤ 7) := by
  have hl := h.low
  rcases h.sh with ⟨a, _⟩ | ⟨a, _⟩ | ⟨a, _⟩
  · left; exact ⟨a, by unfold tO; rw [a]⟩
  · right; left; exact ⟨a, by unfold tO; rw [a]⟩
  · right; right
    have e : tO t = tL t := by unfold tO; rw [a]
    exact ⟨a, e, by omega, by omega⟩
theorem onNumber_eq {t : Table} (h : TOk t) : onNumber t = tO t := by
  unfold onNumber
  rcases tO_cases h with ⟨a, b⟩ | ⟨a, b⟩ | ⟨a, b, _⟩
  · rw [a, b]
  · rw [a, b]
  · rw [a, b]; exact h.lowest
theorem freeBall_eq {f : Frame} {k : Stroke} (j : JOk f k) : freeBall f k = if pFree f k ≠ 0 then some (pFree f k) else none := by
  unfold freeBall pFree
  have hlow := j.t.lowest
  rcases tO_cases j.t with ⟨a, b⟩ | ⟨a, b⟩ | ⟨a, b, b2⟩
  · rw [b, a]
    by_cases h1 : f.free = true
    · by_cases h2 : 2 ≤ k.named
      · have h3 := j.named_up h2
        have h4 : k.named ≠ 1 := by omega
        have h5 : k.named ≠ 0 := by omega
        simp [h1, h2, h3, h4, h5]
      · simp [h2]
    · simp [h1]
  · have h1 : ¬ f.free = true := fun q => j.fr q a
    simp [h1]
  · rw [b, a, hlow]
    by_cases h1 : f.free = true
    · by_cases h2 : 2 ≤ k.named
      · have h3 := j.named_up h2
        have h5 : k.named ≠ 0 := by omega
        by_cases h4 : k.named = tL f.table
        · simp [h1, h4]
        · simp [h1, h2, h3, h4, h5]
      · simp [h2]
    · simp [h1]
theorem isOn_eq {f : Frame} {k : Stroke} (j : JOk f k) (x : Nat) : isOn f k x = (pOn f k).contains x := by
  unfold isOn pOn
  rw [freeBall_eq j]
  have hlow := j.t.lowest
  have e : ∀ l : List Nat, (l ++ if pFree f k ≠ 0 then [pFree f k] else []).contains x = (l.contains x || (if pFree f k ≠ 0 then some (pFree f k) else none) == some x) := by
    intro l
    by_cases h : pFree f k = 0
    · simp [h]
    · rw [if_pos h, if_pos h, List.contains_append]
      congr 1
      rw [Bool.eq_iff_iff]
      simp only [List.contains_cons, List.contains_nil, Bool.or_false, beq_iff_eq, Option.some.injEq]
      exact eq_comm
  rw [e, Bool.or_comm]
  congr 1
  rcases tO_cases j.t with ⟨a, b⟩ | ⟨a, b⟩ | ⟨a, b, b2⟩
  · rw [a, b]; rw [Bool.eq_iff_iff]; simp
  · rw [a, b]
    by_cases h : 2 ≤ k.named
    · rw [if_neg (by simp), if_pos h, Bool.eq_iff_iff]
      simp only [Bool.and_eq_true, beq_iff_eq, decide_eq_true_eq, List.contains_cons, List.contains_nil, Bool.or_false]
      constructor
      · exact fun q => q.1
      · exact fun q => ⟨q, by omega⟩
    · rw [if_neg (by simp), if_neg h, Bool.eq_iff_iff]
      simp only [Bool.and_eq_true, beq_iff_eq, decide_eq_true_eq, List.contains_nil]
      constructor
      · exact fun q => absurd (show 2 ≤ k.named by omega) h
      · exact fun q => nomatch q
  · rw [if_pos (by omega), b, a, hlow, Bool.eq_iff_iff]; simp
theorem mayHit_eq {f : Frame} {k : Stroke} (j : JOk f k) : mayHit f k = if pFree f k ≠ 0 then decide (k.hit = pFree f k) else (pOn f k).contains k.hit := by
  unfold mayHit
  rw [isOn_eq j, freeBall_eq j]
  by_cases h : pFree f k = 0
  · simp [h]
  · rw [if_pos h, if_pos h]
    rw [Bool.eq_iff_iff]; simp
theorem badPots_eq {f : Frame} {k : Stroke} (j : JOk f k) : badPots f k = k.potted.filter fun x => !(pOn f k).contains x := by
  unfold badPots
  congr 1
  funext x
  rw [isOn_eq j]
theorem worth_eq {f : Frame} {k : Stroke} (j : JOk f k) : worth f k = if tO f.table ≠ 0 then tO f.table else if 2 ≤ k.named then k.named else 7 := by
  unfold worth
  rcases tO_cases j.t with ⟨a, b⟩ | ⟨a, b⟩ | ⟨a, b, b2⟩
  · rw [a, b]; rfl
  · rw [a, b]
    by_cases h : 2 ≤ k.named
    · have : ¬ k.named < 2 := by omega
      simp [h, this]
    · have : k.named < 2 := by omega
      simp [h, this]
  · rw [if_pos (show tO f.table ≠ 0 by omega), b, a]; exact j.t.lowest
theorem not_foul {f : Frame} {k : Stroke} (h : isFoul f k = false) : mayHit f k = true ∧ badPots f k = [] ∧ k.off = [] ∧ k.conduct = 0 := by
  unfold isFoul at h
  simp only [Bool.or_eq_false_iff, Bool.not_eq_false', List.isEmpty_iff, bne_eq_false_iff_eq] at h
  exact ⟨h.1, h.2.1, h.2.2.1, h.2.2.2⟩
theorem fair_on {f : Frame} {k : Stroke} (j : JOk f k) (h : isFoul f k = false) : ∀ x ∈ k.potted, x ∈ pOn f k := by
  intro x hx
  have hb := (not_foul h).2.1
  rw [badPots_eq j, List.filter_eq_nil_iff] at hb
  have := hb x hx
  simpa using this
theorem count_le {f : Frame} {k : Stroke} (j : JOk f k) (x : Nat) (hx : x ≤ 7) : (gone k).count x ≤ hm f.table x := by
  have c := j.chb
  unfold Cue.chb at c
  simp only [Bool.and_eq_true, List.all_eq_true, decide_eq_true_eq] at c
  by_cases q : x ∈ gone k
  · exact c.2.2.2 x q
  · rw [List.count_eq_zero_of_not_mem q]; omega
theorem hm_le {t : Table} {x : Nat} (h : 2 ≤ x) : hm t x ≤ 1 := by
  unfold hm
  rw [if_neg (by omega), if_neg (by omega)]
  split <;> omega
theorem len_two : ∀ (l : List Nat) (a b : Nat), a ≠ b → (∀ x ∈ l, x = a ∨ x = b) → l.length = l.count a + l.count b
  | [], _, _, _, _ => rfl
  | y :: r, a, b, h, hx => by
    have ih := len_two r a b h fun x q => hx x (List.mem_cons_of_mem _ q)
    rw [List.length_cons, List.count_cons, List.count_cons, ih]
    rcases hx y List.mem_cons_self with rfl | rfl
    · have : ¬ y = b := h
      simp [this]; omega
    · have : ¬ y = a := fun q => h q.symm
      simp [this]; omega
theorem scored_eq {f : Frame} {k : Stroke} (j : JOk f k) (h : isFoul f k = false) :
    scored f k = if k.potted.length = 0 then 0 else if tO f.table = 1 then k.potted.length else (if tO f.table ≠ 0 then tO f.table else if 2 ≤ k.named then k.named else 7) := by
  have hon := fair_on j h
  have hf := not_foul h
  unfold scored
  have lz : k.potted.isEmpty = true ↔ k.potted.length = 0 := by cases k.potted <;> simp
  rcases tO_cases j.t with ⟨a, b⟩ | ⟨a, b⟩ | ⟨a, b, b2⟩
  · rw [a, b, freeBall_eq j]
    simp only [if_true]
    by_cases h0 : pFree f k = 0
    · have all1 : ∀ x ∈ k.potted, x = 1 := fun x hx => by
        have := hon x hx
        unfold pOn at this
        rw [b] at this
        simpa [h0] using this
      have e : (k.potted.filter fun x => x == 1) = k.potted := List.filter_eq_self.mpr fun x hx => by simp [all1 x hx]
      rw [e]
      simp [h0]
    · have hfr : pFree f k = k.named ∧ 2 ≤ k.named := by
        unfold pFree at h0 ⊢
        split at h0
        · rename_i q; rw [if_pos q]; exact ⟨rfl, q.2.1⟩
        · exact absurd rfl h0
      have two : ∀ x ∈ k.potted, x = 1 ∨ x = k.named := fun x hx => by
        have := hon x hx
        unfold pOn at this
        rw [b, hfr.1] at this
        have hn : ¬ k.named = 0 := by omega
        simpa [hn] using this
      have hl := len_two k.potted 1 k.named (by omega) two
      have c1 : (gone k).count k.named ≤ 1 := Nat.le_trans (count_le j _ j.ok.named) (hm_le hfr.2)
      have c2 : k.potted.count k.named ≤ (gone k).count k.named := by unfold gone; rw [List.count_append]; omega
      have hany : (k.potted.any fun x => x != 1) = decide (0 < k.potted.count k.named) := by
        rw [Bool.eq_iff_iff]
        simp only [List.any_eq_true, bne_iff_ne, decide_eq_true_eq, List.count_pos_iff]
        constructor
        · rintro ⟨x, hx, hne⟩
          rcases two x hx with q | q
          · exact absurd q hne
          · rw [← q]; exact hx
        · intro q
          exact ⟨_, q, by omega⟩
      have hfil : (k.potted.filter fun x => x == 1).length = k.potted.count 1 := by rw [List.count_eq_countP, List.countP_eq_length_filter]
      rw [hfil, hany]
      have ho : (if pFree f k ≠ 0 then some (pFree f k) else none).isSome = true := by rw [if_pos h0]; rfl
      rw [ho]
      by_cases z : 0 < k.potted.count k.named
      · rw [if_pos ⟨rfl, by simpa using z⟩]
        rw [if_neg (by omega)]
        omega
      · rw [if_neg (by simpa using z)]
        split
        · omega
        · omega
  · rw [a, b]
    by_cases q : k.potted.length = 0
    · simp [q, lz.mpr q]
    · have q' : ¬ k.potted.isEmpty = true := fun z => q (lz.mp z)
      have hn : 2 ≤ k.named := by
        cases hp : k.potted with
        | nil => rw [hp] at q; exact absurd rfl q
        | cons x r =>
          have := hon x (by rw [hp]; exact List.mem_cons_self)
          unfold pOn at this
          rw [b] at this
          by_cases z : 2 ≤ k.named
          · exact z
          · have zf : pFree f k = 0 := by unfold pFree; rw [if_neg fun w => z w.2.1]
            simp [z, zf] at this
      simp [q, q', hn]
  · rw [a]
    simp only [lz, j.t.lowest]
    by_cases q : k.potted.length = 0
    · simp [q]
    · rw [if_neg q, if_neg q, if_neg (by omega), if_pos (by omega), b]
theorem red_none {f : Frame} {k : Stroke} (j : JOk f k) (h : isFoul f k = false) (e : tO f.table ≠ 1) : k.potted.count 1 = 0 := by
  refine List.count_eq_zero_of_not_mem fun hx => ?_
  have := fair_on j h 1 hx
  unfold pOn pFree at this
  rcases tO_cases j.t with ⟨a, b⟩ | ⟨a, b⟩ | ⟨a, b, b2⟩
  · exact e b
  · rw [b] at this
    simp only [ne_eq, not_true_eq_false, if_false, List.mem_append] at this
    rcases this with w | w
    · split at w
      · simp at w; omega
      · simp at w
    · split at w
      · split at w
        · simp at w; omega
        · simp at w
      · simp at w
  · rw [if_pos (by omega), List.mem_append] at this
    rcases this with w | w
    · simp at w; omega
    · split at w
      · split at w
        · simp at w; omega
        · simp at w
      · simp at w

/-! ### tables behind a stroke -/
def rnd (r l : Nat) : Table := ⟨r, upFrom l, if 0 < r then .red else .order⟩
def rgone (k : Stroke) : Nat := k.potted.count 1 + k.off.count 1
theorem rgone_le {f : Frame} {k : Stroke} (j : JOk f k) : rgone k ≤ f.table.reds := by
  have := count_le j 1 (by omega)
  unfold gone at this
  rw [List.count_append] at this
  exact this
theorem upFrom2 : upFrom 2 = COLOURS := by decide
theorem tL_rnd {r l : Nat} (h1 : 2 ≤ l) (h2 : l ≤ 8) : tL (rnd r l) = l := tL_up h1 h2 rfl
theorem tO_rnd {r l : Nat} (h1 : 2 ≤ l) (h2 : l ≤ 8) : tO (rnd r l) = if 0 < r then 1 else l := by
  unfold tO
  have e := tL_rnd (r := r) h1 h2
  by_cases h : 0 < r
  · have : (rnd r l).on_ = .red := by unfold rnd; rw [if_pos h]
    rw [this, if_pos h]
  · have : (rnd r l).on_ = .order := by unfold rnd; rw [if_neg h]
    rw [this, if_neg h]; exact e
theorem rnd_ok8 {r l : Nat} (hr : r ≤ 15) (h1 : 2 ≤ l) (h2 : l ≤ 8) (h : 0 < r → l = 2) : TOk8 (rnd r l) := by
  refine ⟨hr, ?_⟩
  by_cases q : 0 < r
  · left
    have e := h q
    subst e
    exact ⟨by unfold rnd; rw [if_pos q], q, upFrom2⟩
  · right; right
    exact ⟨by unfold rnd; rw [if_neg q], (by show r = 0; omega), l, h1, h2, rfl⟩
theorem rnd_ok {r l : Nat} (hr : r ≤ 15) (h1 : 2 ≤ l) (h2 : l ≤ 7) (h : 0 < r → l = 2) : TOk (rnd r l) := by
  refine ⟨hr, ?_⟩
  by_cases q : 0 < r
  · left
    have e := h q
    subst e
    exact ⟨by unfold rnd; rw [if_pos q], q, upFrom2⟩
  · right; right
    exact ⟨by unfold rnd; rw [if_neg q], (by show r = 0; omega), l, h1, h2, rfl⟩
theorem TOk.red2 {t : Table} (h : TOk t) (q : 0 < t.reds) : tL t = 2 := by
  rcases h.sh with ⟨_, _, e⟩ | ⟨_, e⟩ | ⟨_, e0, _⟩
  · exact tL_full e
  · exact tL_full e
  · omega
theorem next_eq {t : Table} (h : TOk t) : t.next = rnd t.reds (tL t) := by
  unfold Table.next rnd
  rw [← h.up]
theorem less_next {t : Table} (h : TOk t) (n : Nat) : (t.less n).next = rnd (t.reds - n) (tL t) := by
  unfold Table.less Table.next rnd
  rw [← h.up]
theorem filter_ones (k : Stroke) : ((k.potted ++ k.off).filter fun x => x == 1).length = rgone k := by
  unfold rgone
  rw [← List.count_append, List.count_eq_countP, List.countP_eq_length_filter]
def foulT (f : Frame) (k : Stroke) : Table := (f.table.less ((k.potted ++ k.off).filter fun x => x == 1).length).next
theorem foulT_eq {f : Frame} {k : Stroke} (j : JOk f k) : foulT f k = rnd (f.table.reds - rgone k) (tL f.table) := by
  unfold foulT
  rw [filter_ones, less_next j.t]
theorem foulT_ok {f : Frame} {k : Stroke} (j : JOk f k) : TOk (foulT f k) := by
  rw [foulT_eq j]
  have h1 := j.t.low
  have h2 := j.t.reds
  exact rnd_ok (by omega) h1.1 h1.2 fun q => j.t.red2 (by omega)
def fairT (f : Frame) (k : Stroke) : Table := if scored f k = 0 then f.table.next else f.table.behind k
theorem scored_zero {f : Frame} {k : Stroke} (j : JOk f k) (h : isFoul f k = false) : scored f k = 0 ↔ k.potted = [] := by
  rw [scored_eq j h]
  constructor
  · intro q
    by_cases z : k.potted.length = 0
    · exact List.eq_nil_of_length_eq_zero z
    · rw [if_neg z] at q
      split at q
      · omega
      · split at q
        · omega
        · split at q
          · omega
          · cases q
  · intro q
    rw [q]; rfl
theorem off_none {f : Frame} {k : Stroke} (h : isFoul f k = false) : rgone k = k.potted.count 1 := by
  unfold rgone
  rw [(not_foul h).2.2.1]
  rfl
theorem filter_low : ∀ l : Nat, 2 ≤ l → l ≤ 7 → ((upFrom l).filter fun x => !(x == l)) = upFrom (l + 1) := by
  intro l h1 h2
  rcases l_cases h1 (by omega) with rfl | rfl | rfl | rfl | rfl | rfl | rfl <;> first | decide | omega
theorem fairT_eq {f : Frame} {k : Stroke} (j : JOk f k) (h : isFoul f k = false) :
    fairT f k = if tO f.table = 1 ∧ 0 < scored f k then ⟨f.table.reds - rgone k, upFrom (tL f.table), .colour⟩
      else if tO f.table = tL f.table ∧ tL f.table ∈ k.potted then rnd (f.table.reds - rgone k) (tL f.table + 1) else rnd (f.table.reds - rgone k) (tL f.table) := by
  have hl := j.t.low
  unfold fairT
  by_cases z : scored f k = 0
  · have hp := (scored_zero j h).mp z
    rw [if_pos z, if_neg (by omega), if_neg (by rw [hp]; simp), off_none h, hp, next_eq j.t]
    rfl
  · rw [if_neg z]
    unfold Table.behind
    rcases tO_cases j.t with ⟨a, b⟩ | ⟨a, b⟩ | ⟨a, b, b2⟩
    · rw [if_pos ⟨b, by omega⟩, a, off_none h]
      rw [← j.t.up]
      show (⟨_, _, _⟩ : Table) = ⟨_, _, _⟩
      rw [show (k.potted.filter fun x => x == 1).length = k.potted.count 1 by rw [List.count_eq_countP, List.countP_eq_length_filter]]
    · rw [if_neg (by omega), if_neg (by omega), a]
      rw [off_none h, red_none j h (by omega)]
      exact next_eq j.t
    · rw [if_neg (by omega), a]
      have hr : f.table.reds = 0 := by
        rcases j.t.sh with ⟨q, _⟩ | ⟨q, _⟩ | ⟨_, q, _⟩
        · rw [a] at q; cases q
        · rw [a] at q; cases q
        · exact q
      by_cases q : tL f.table ∈ k.potted
      · rw [if_pos ⟨b, q⟩]
        unfold rnd
        rw [hr]
        show (⟨_, _, _⟩ : Table) = ⟨_, _, _⟩
        have e2 : (f.table.up.filter fun x => !(x == tL f.table && k.potted.contains x)) = upFrom (tL f.table + 1) := by
          rw [← filter_low _ hl.1 hl.2, ← j.t.up]
          refine List.filter_congr fun x hx => ?_
          by_cases e : x = tL f.table
          · simp [e, q]
          · simp [e]
        rw [if_neg (by omega), Nat.zero_sub, j.t.lowest, e2]
      · rw [if_neg fun w => q w.2]
        unfold rnd
        rw [hr]
        show (⟨_, _, _⟩ : Table) = ⟨_, _, _⟩
        have e2 : (f.table.up.filter fun x => !(x == tL f.table && k.potted.contains x)) = f.table.up := by
          refine List.filter_eq_self.mpr fun x hx => ?_
          by_cases e : x = tL f.table
          · simp [e, q]
          · simp [e]
        rw [if_neg (by omega), Nat.zero_sub, j.t.lowest, e2, ← j.t.up]
theorem fairT_ok8 {f : Frame} {k : Stroke} (j : JOk f k) (h : isFoul f k = false) : TOk8 (fairT f k) := by
  have hl := j.t.low
  have hr := j.t.reds
  rw [fairT_eq j h]
  split
  · rename_i q
    refine ⟨by show _ - _ ≤ 15; omega, .inr (.inl ⟨rfl, ?_⟩)⟩
    show upFrom (tL f.table) = COLOURS
    rcases j.t.sh with ⟨_, _, e⟩ | ⟨_, e⟩ | ⟨a, _, _⟩
    · rw [tL_full e, upFrom2]
    · rw [tL_full e, upFrom2]
    · rcases tO_cases j.t with ⟨a', _⟩ | ⟨a', _⟩ | ⟨_, b, b2⟩
      · rw [a] at a'; cases a'
      · rw [a] at a'; cases a'
      · omega
  · split
    · rename_i q
      have hr0 : f.table.reds = 0 := by
        rcases j.t.sh with ⟨q', _⟩ | ⟨q', _⟩ | ⟨_, q', _⟩
        · rcases tO_cases j.t with ⟨_, w⟩ | ⟨w, _⟩ | ⟨w, _⟩
          · omega
          · rw [q'] at w; cases w
          · rw [q'] at w; cases w
        · rcases tO_cases j.t with ⟨w, _⟩ | ⟨_, w⟩ | ⟨w, _⟩
          · rw [q'] at w; cases w
          · omega
          · rw [q'] at w; cases w
        · exact q'
      exact rnd_ok8 (by omega) (by omega) (by omega) fun w => by omega
    · exact rnd_ok8 (by omega) (by omega) (by omega) fun w => j.t.red2 (by omega)

/-! ### the penalty as the greatest of a list -/
theorem foldl_max_ge : ∀ (l : List Nat) (a : Nat), a ≤ l.foldl max a ∧ ∀ x ∈ l, x ≤ l.foldl max a
  | [], a => ⟨Nat.le_refl _, fun x h => by simp at h⟩
  | y :: r, a => by
    obtain ⟨h1, h2⟩ := foldl_max_ge r (max a y)
    refine ⟨?_, fun x hx => ?_⟩
    · show a ≤ r.foldl max (max a y)
      omega
    · show x ≤ r.foldl max (max a y)
      rcases List.mem_cons.mp hx with e | hx
      · omega
      · exact h2 x hx
theorem foldl_max_mem : ∀ (l : List Nat) (a : Nat), l.foldl max a = a ∨ l.foldl max a ∈ l
  | [], a => .inl rfl
  | y :: r, a => by
    show r.foldl max (max a y) = a ∨ r.foldl max (max a y) ∈ y :: r
    rcases foldl_max_mem r (max a y) with h | h
    · rw [h]
      rcases Nat.le_total a y with q | q
      · right; rw [Nat.max_eq_right q]; exact List.mem_cons_self
      · left; exact Nat.max_eq_left q
    · right; exact List.mem_cons_of_mem _ h
def pCosts (f : Frame) (k : Stroke) : List Nat :=
  [4, worth f k] ++ badPots f k ++ k.off ++ (if mayHit f k = true then [] else [k.hit]) ++ (if k.conduct = 8 then [] else [k.conduct])
theorem penalty_max (f : Frame) (k : Stroke) : penalty f k ∈ pCosts f k ∧ ∀ y ∈ pCosts f k, y ≤ penalty f k := by
  unfold penalty pCosts
  obtain ⟨h1, h2⟩ := foldl_max_ge (([worth f k] ++ (if mayHit f k = true then [] else [k.hit])) ++ (badPots f k ++ (k.off ++ (if k.conduct = 8 then [] else [k.conduct])))) 4
  have h3 := foldl_max_mem (([worth f k] ++ (if mayHit f k = true then [] else [k.hit])) ++ (badPots f k ++ (k.off ++ (if k.conduct = 8 then [] else [k.conduct])))) 4
  refine ⟨?_, fun y hy => ?_⟩
  · rcases h3 with q | q
    · rw [q]; simp
    · generalize ([worth f k] ++ (if mayHit f k = true then [] else [k.hit]) ++ (badPots f k ++ (k.off ++ (if k.conduct = 8 then [] else [k.conduct])))).foldl max 4 = m at q ⊢
      simp only [List.mem_append, List.mem_cons, List.not_mem_nil, or_false] at q ⊢
      rcases q with (q | q) | q | q | q
      · exact .inl (.inl (.inl (.inl (.inr q))))
      · exact .inl (.inr q)
      · exact .inl (.inl (.inl (.inr q)))
      · exact .inl (.inl (.inr q))
      · exact .inr q
  · simp only [List.mem_append, List.mem_cons, List.not_mem_nil, or_false] at hy
    rcases hy with ((((q | q) | q) | q) | q) | q
    · omega
    · exact h2 y (by simp [q])
    · exact h2 y (by simp [q])
    · exact h2 y (by simp [q])
    · exact h2 y (by simp only [List.mem_append]; exact .inl (.inr q))
    · exact h2 y (by simp only [List.mem_append]; exact .inr (.inr (.inr q)))
end Cue
end
section
set_option autoImplicit false
set_option linter.all false
namespace Cue
open Kg53

/-- the nine forms of a call -/
inductive Form : List (List Int) → Prop
  | begin_ (b f : Int) : Form [[1, b, f]]
  | stroke (n h c d m : Int) (p o : List Int) (lp : p.length ≤ 30) (lo : o.length ≤ 30) : Form [[2, n, h, c, d, m], p, o]
  | again : Form [[3]]
  | back : Form [[4]]
  | toss (w : Int) : Form [[5, w]]
  | give : Form [[6]]
  | now : Form [[7]]
  | frames : Form [[8]]
  | match_ : Form [[9]]
theorem form_of {c : List (List Int)} (h : Kg53Neutral.asked1 c = true) : Form c := by
  unfold Kg53Neutral.asked1 at h
  split at h
  · exact .begin_ _ _
  · rename_i n hh c d m p o
    simp only [Bool.and_eq_true, Kg53Neutral.row, decide_eq_true_eq] at h
    exact .stroke _ _ _ _ _ _ _ h.2.2.2.2.2.1.2 h.2.2.2.2.2.2.2
  · exact .again
  · exact .back
  · exact .toss _
  · exact .give
  · exact .now
  · exact .frames
  · exact .match_
  · cases h
theorem whole_id (c : List (List Int)) : PyKg53.whole c = c := by
  unfold PyKg53.whole
  split <;> rfl
theorem map_whole (cs : List (List (List Int))) : cs.map PyKg53.whole = cs := by
  have : PyKg53.whole = id := funext whole_id
  rw [this, List.map_id]
/-- what is asked: the list is the flat list of calls of the nine forms -/
theorem asked_put {l : List Int} (h : PyKg53.answers_asked l = true) : ∃ cs, l = PyFlat.put cs ∧ (∀ c ∈ cs, Form c) ∧ cs.length ≤ 400 ∧ PyKg53.answers l = PyFlat.told (PyFlat.played Kg53Neutral.step Kg53Neutral.start cs) := by
  unfold PyKg53.answers_asked PyKg53.calls at h
  unfold PyKg53.answers PyKg53.calls
  cases e : PyFlat.calls PyKg53.shape l.length l with
  | none => rw [e] at h; cases h
  | some cs =>
    rw [e] at h
    simp only [map_whole] at h ⊢
    simp only [Bool.and_eq_true, Kg53Neutral.asked, PyFlat.atMost, decide_eq_true_eq, List.all_eq_true] at h
    exact ⟨cs, (PyFlat.put_calls _ _ _ e).1, fun c hc => form_of (h.2.1 c hc), h.1, rfl⟩
theorem played_app {S : Type} (step : S → List (List Int) → S × List Int) : ∀ (a b : List (List (List Int))) (s : S),
    PyFlat.played step s (a ++ b) = PyFlat.played step s a ++ PyFlat.played step (a.foldl (fun s c => (step s c).1) s) b
  | [], b, s => rfl
  | c :: a, b, s => by
    show (step s c).2 :: PyFlat.played step (step s c).1 (a ++ b) = _
    rw [played_app step a b]
    rfl
theorem told_app (a b : List (List Int)) : PyFlat.told (a ++ b) = PyFlat.told a ++ PyFlat.told b := by
  unfold PyFlat.told
  rw [List.flatMap_append]
theorem put_app : ∀ a b : List (List (List Int)), PyFlat.put (a ++ b) = PyFlat.put a ++ PyFlat.put b
  | [], b => rfl
  | c :: a, b => by
    show PyFlat.put1 c ++ PyFlat.put (a ++ b) = PyFlat.put1 c ++ PyFlat.put a ++ PyFlat.put b
    rw [put_app a b, List.append_assoc]
theorem put1_ne {c : List (List Int)} (h : Form c) : ∃ x r, PyFlat.put1 c = x :: r := by
  cases h <;> exact ⟨_, _, rfl⟩
end Cue
end
section
set_option autoImplicit false
set_option linter.all false
namespace Cue
open Kg53

/-! ### a frame as the program holds it -/
structure PF where
  pts : Pair
  turn : Nat
  table : Table
  winner : Nat
  how : Nat
  brk : Nat
  high : Pair
  big : Pair
  misses : Nat
  tback : Table
  mback : Nat
  free : Bool
  again : Bool
  back : Bool
def PF.close (p : PF) : PF := { p with free := false, again := false, back := false }
def PF.endBreak (p : PF) : PF := { p with high := p.high.most p.turn p.brk, big := if 100 ≤ p.brk then p.big.add p.turn 1 else p.big, brk := 0 }
def PF.pass (p : PF) : PF := { p.endBreak with turn := 1 - p.turn }
def PF.win (p : PF) (w h : Nat) : PF := { p with winner := w, how := h }
def PF.settle (p : PF) : PF := if p.pts.a = p.pts.b then PF.close { p with table := rnd 0 7, turn := 2 } else p.win (if p.pts.b < p.pts.a then 0 else 1) 0
def PF.reach (p : PF) : Bool := !far p.pts p.table.left
def PF.fair1 (p : PF) (n : Nat) (t : Table) : PF := { p with pts := p.pts.add p.turn n, brk := p.brk + n, table := t, misses := 0 }
def PF.fair2 (p : PF) (n : Nat) : PF := if n = 0 then p.pass else p
def PF.fair3 (p : PF) : PF := if 7 < tL p.table then p.endBreak.settle else p
def PF.fair (p : PF) (n : Nat) (t : Table) : PF := ((p.fair1 n t).fair2 n).fair3
def PF.new (first : Nat) : PF := ⟨⟨0, 0⟩, first, rnd 15 2, 2, 0, 0, ⟨0, 0⟩, ⟨0, 0⟩, 0, rnd 15 2, 0, false, false, false⟩
def PF.mayCall (p : PF) (miss : Nat) (right : Bool) : Bool := !(decide (miss = 0) || right) && (decide (tL p.table < 7) && p.reach)
def PF.foul1 (p : PF) (cost : Nat) (t : Table) : PF := { (PF.pass { p with tback := p.table, table := t }) with pts := p.pts.add (1 - p.turn) cost }
def PF.count (q : PF) (b : Bool) : PF := { q with mback := if b = true then q.misses + 1 else 0, misses := 0 }
def PF.opn (q : PF) (hidden called : Bool) : PF := { q with free := hidden && decide (tL q.table < 7), again := true, back := called }
def PF.foul3 (q : PF) : PF := if q.mback = 3 then q.win q.turn 2 else if tL q.table < 7 then q else q.settle
def PF.call (p : PF) (k : Stroke) (right : Bool) (cost : Nat) (t : Table) : Bool := p.mayCall k.miss right && (p.foul1 cost t).reach
def PF.foul (p : PF) (k : Stroke) (right : Bool) (cost : Nat) (t : Table) : PF :=
  (((p.foul1 cost t).count (p.call k right cost t && decide (k.miss = 2))).opn k.hidden (p.call k right cost t)).foul3
def PF.doAgain (p : PF) : PF := p.pass.close
def PF.doBack (p : PF) : PF := { p.doAgain with table := p.tback, misses := p.mback }
def PF.doGive (p : PF) : PF := p.pass.win (1 - p.turn) 1

/-! ### how it stands for the document's frame -/
structure FR (f : Frame) (p : PF) : Prop where
  pts : p.pts = f.points
  turn : p.turn = if f.toss = true then 2 else f.who
  who : f.who ≤ 1
  table : p.table = f.table
  ok : TOk f.table
  win : p.winner = 2
  brk : p.brk = f.made
  high : p.high = f.high
  big : p.big = f.hundreds
  free : p.free = f.free
  col : f.free = true → f.table.on_ ≠ .colour
  ago : p.again = f.foul.isSome
  bck : p.back = (f.foul.map Foul.missed).getD false
  som : ∀ u, f.foul = some u → p.tback = u.was ∧ TOk u.was ∧ p.mback = f.misses ∧ p.misses = 0 ∧ f.made = 0
  non : f.foul = none → p.misses = f.misses
  toss : f.toss = true → f.foul = none
  tb : TOk p.tback
structure OR (o : Over) (p : PF) : Prop where
  win : p.winner = o.winner
  how : p.how = o.how
  pts : p.pts = o.points
  high : p.high = o.high
  big : p.big = o.hundreds
  le : o.winner ≤ 1
def EndR (e : End) (p : PF) : Prop := match e with
  | .on_ g => FR g p
  | .over o => OR o p

theorem most_zero (p : Pair) (w : Nat) : p.most w 0 = p := by
  unfold Pair.most
  split <;> simp
theorem add_zero' (p : Pair) (w : Nat) : p.add w 0 = p := by
  unfold Pair.add
  split <;> simp
theorem black_iff {t : Table} (h : TOk t) : t.black = decide (tL t = 7) := by
  have hl := h.low
  unfold Table.black
  rcases h.sh with ⟨a, _, e⟩ | ⟨a, e⟩ | ⟨a, _, l, h1, h2, e⟩
  · rw [a, tL_full e]; rfl
  · rw [a, tL_full e]; rfl
  · rw [a, tL_up h1 (by omega) e, e]
    rcases l_cases h1 (by omega) with rfl | rfl | rfl | rfl | rfl | rfl | rfl <;> first | decide | omega
theorem empty_iff {t : Table} (h : TOk8 t) : (t.on_ = .order ∧ t.up = []) ↔ 7 < tL t := by
  rcases h.sh with ⟨a, _, e⟩ | ⟨a, e⟩ | ⟨a, _, l, h1, h2, e⟩
  · rw [a, tL_full e]; simp
  · rw [a, tL_full e]; simp
  · rw [a, tL_up h1 (by omega) e, e]
    rcases l_cases h1 (by omega) with rfl | rfl | rfl | rfl | rfl | rfl | rfl <;> decide
theorem TOk8.of7 {t : Table} (h : TOk8 t) (q : ¬ 7 < tL t) : TOk t := ⟨h.reds, by
  rcases h.sh with a | a | ⟨a, b, l, c, d, e⟩
  · exact .inl a
  · exact .inr (.inl a)
  · refine .inr (.inr ⟨a, b, l, c, ?_, e⟩)
    rw [tL_up c d e] at q; omega⟩
theorem rnd07 : rnd 0 7 = ⟨0, [7], .order⟩ := by decide
theorem rnd07_ok : TOk (rnd 0 7) := rnd_ok (by omega) (by omega) (by omega) (fun h => by omega)
theorem full_rnd : full = rnd 15 2 := by decide
theorem full_ok : TOk full := by rw [full_rnd]; exact rnd_ok (by omega) (by omega) (by omega) (fun h => rfl)

theorem FR.new {w : Nat} (h : w ≤ 1) : FR (fresh w) (PF.new w) where
  pts := rfl
  turn := rfl
  who := h
  table := full_rnd.symm
  ok := full_ok
  win := rfl
  brk := rfl
  high := rfl
  big := rfl
  free := rfl
  col := fun q => nomatch q
  ago := rfl
  bck := rfl
  som := fun _ q => nomatch q
  non := fun _ => rfl
  toss := fun q => nomatch q
  tb := by show TOk (rnd 15 2); rw [← full_rnd]; exact full_ok

/-- the last ball is gone, or the black was fouled -/
theorem last_rel {g : Frame} {p : PF} (hp : p.pts = g.points) (hw : g.who ≤ 1) (hm : p.misses = 0) (h1 : p.high = g.kept.high) (h2 : p.big = g.kept.hundreds) (h3 : p.brk = 0) (hwin : p.winner = 2) (tb : TOk p.tback) : EndR (Frame.last g) p.settle := by
  unfold Frame.last PF.settle
  by_cases e : g.points.a = g.points.b
  · rw [if_pos e, if_pos (show p.pts.a = p.pts.b by rw [hp]; exact e)]
    exact ⟨hp, rfl, hw, rnd07, (by rw [← rnd07]; exact rnd07_ok), hwin, h3, h1, h2, rfl, (fun q => nomatch q), rfl, rfl, (fun _ q => nomatch q), (fun _ => hm), (fun _ => rfl), tb⟩
  · rw [if_neg e, if_neg (show ¬ p.pts.a = p.pts.b by rw [hp]; exact e)]
    refine ⟨?_, rfl, hp, h1, h2, ?_⟩
    · show (if p.pts.b < p.pts.a then 0 else 1) = _
      rw [hp]; rfl
    · show (if g.points.b < g.points.a then 0 else 1) ≤ 1
      split <;> omega

theorem fair_rel {f : Frame} {p : PF} {k : Stroke} (h : FR f p) (ht : f.toss = false) (j : JOk f k) (e : isFoul f k = false) : EndR (play f k) (p.close.fair (scored f k) (fairT f k)) ∧ ∀ g, play f k = .on_ g → (g.foul.map Foul.missed).getD false = false := by
  have h8 := fairT_ok8 j e
  have hturn : p.turn = f.who := by rw [h.turn, ht]; rfl
  have hkh : p.high.most p.turn p.brk = f.kept.high := by rw [h.high, hturn, h.brk]; rfl
  have hkb : (if 100 ≤ p.brk then p.big.add p.turn 1 else p.big) = f.kept.hundreds := by rw [h.big, hturn, h.brk]; rfl
  unfold play
  rw [if_neg (by rw [e]; exact Bool.false_ne_true)]
  dsimp only
  by_cases z : scored f k = 0
  · rw [if_pos z]
    have ef : fairT f k = f.table.next := by unfold fairT; rw [if_pos z]
    have hok : TOk (f.table.next) := by
      rw [next_eq h.ok]
      have hl := h.ok.low
      exact rnd_ok h.ok.reds hl.1 hl.2 fun q => h.ok.red2 q
    have e3 : p.close.fair (scored f k) (fairT f k) = (p.close.fair1 0 (f.table.next)).pass := by
      unfold PF.fair PF.fair2 PF.fair3
      rw [z, ef, if_pos rfl]
      have hl := hok.low
      exact if_neg (by show ¬ 7 < tL f.table.next; omega)
    rw [e3]
    refine ⟨?_, fun g hg => by cases hg; rfl⟩
    exact ⟨(by show p.pts.add p.turn 0 = _; rw [add_zero', h.pts]; rfl), (by show 1 - p.turn = if f.toss = true then 2 else other f.who; rw [ht, hturn]; rfl), (by show 1 - f.who ≤ 1; omega), rfl, hok, h.win, rfl, hkh, hkb, rfl, (fun q => nomatch q), rfl, rfl, (fun _ q => nomatch q), (fun _ => rfl), (fun _ => rfl), h.tb⟩
  · rw [if_neg z]
    have ef : fairT f k = f.table.behind k := by unfold fairT; rw [if_neg z]
    have e2 : p.close.fair (scored f k) (fairT f k) = (p.close.fair1 (scored f k) (f.table.behind k)).fair3 := by
      unfold PF.fair PF.fair2
      rw [if_neg z, ef]
    rw [e2]
    rw [ef] at h8
    by_cases q : 7 < tL (f.table.behind k)
    · rw [if_pos ((empty_iff h8).mpr q)]
      have e4 : (p.close.fair1 (scored f k) (f.table.behind k)).fair3 = (p.close.fair1 (scored f k) (f.table.behind k)).endBreak.settle := if_pos q
      rw [e4]
      refine ⟨?_, fun g hg => ?_⟩
      · refine last_rel ?_ h.who rfl ?_ ?_ rfl h.win h.tb
        · show p.pts.add p.turn _ = _; rw [h.pts, hturn]
        · show p.high.most p.turn (p.brk + _) = _; rw [h.high, hturn, h.brk]; rfl
        · show (if 100 ≤ p.brk + _ then p.big.add p.turn 1 else p.big) = _; rw [h.big, hturn, h.brk]; rfl
      · unfold Frame.last at hg
        split at hg
        · cases hg; rfl
        · cases hg
    · rw [if_neg fun w => q ((empty_iff h8).mp w)]
      have e4 : (p.close.fair1 (scored f k) (f.table.behind k)).fair3 = p.close.fair1 (scored f k) (f.table.behind k) := if_neg q
      rw [e4]
      refine ⟨?_, fun g hg => by cases hg; rfl⟩
      exact ⟨(by show p.pts.add p.turn _ = _; rw [h.pts, hturn]), (by show p.turn = if f.toss = true then 2 else f.who; rw [h.turn]), h.who, rfl, h8.of7 q, h.win, (by show p.brk + _ = _; rw [h.brk]), h.high, h.big, rfl, (fun q => nomatch q), rfl, rfl, (fun _ q => nomatch q), (fun _ => rfl), (fun _ => rfl), h.tb⟩

theorem foul_rel {f : Frame} {p : PF} {k : Stroke} (h : FR f p) (ht : f.toss = false) (j : JOk f k) (e : isFoul f k = true) :
    EndR (play f k) (p.close.foul k (mayHit f k) (penalty f k) (foulT f k)) ∧ ∀ g, play f k = .on_ g → (g.foul.map Foul.missed).getD false = p.close.call k (mayHit f k) (penalty f k) (foulT f k) := by
  have hok := foulT_ok j
  have hl := h.ok.low
  have eL : tL (foulT f k) = tL f.table := by rw [foulT_eq j]; exact tL_rnd hl.1 (by omega)
  have hturn : p.turn = f.who := by rw [h.turn, ht]; rfl
  have hkh : p.high.most p.turn p.brk = f.kept.high := by rw [h.high, hturn, h.brk]; rfl
  have hkb : (if 100 ≤ p.brk then p.big.add p.turn 1 else p.big) = f.kept.hundreds := by rw [h.big, hturn, h.brk]; rfl
  have hpts : (p.close.foul1 (penalty f k) (foulT f k)).pts = f.points.add (other f.who) (penalty f k) := by
    show p.pts.add (1 - p.turn) _ = _
    rw [h.pts, hturn]; rfl
  have hcall : p.close.call k (mayHit f k) (penalty f k) (foulT f k) = (decide (tL f.table < 7) && (decide (1 ≤ k.miss) && (!mayHit f k && (!far f.points f.table.left && !far (f.points.add (other f.who) (penalty f k)) (foulT f k).left)))) := by
    unfold PF.call PF.mayCall PF.reach
    rw [hpts]
    show (!(decide (k.miss = 0) || mayHit f k) && (decide (tL p.table < 7) && !far p.pts p.table.left) && !far _ (foulT f k).left) = _
    rw [h.table, h.pts]
    have e1 : decide (1 ≤ k.miss) = !decide (k.miss = 0) := by
      by_cases q : k.miss = 0
      · simp [q]
      · simp [q]; omega
    rw [e1]
    cases decide (k.miss = 0) <;> cases mayHit f k <;> cases decide (tL f.table < 7) <;> simp
  have hfoul : play f k = fouled f k := by unfold play; rw [if_pos e]
  rw [hfoul]
  generalize hc : p.close.call k (mayHit f k) (penalty f k) (foulT f k) = c at hcall ⊢
  unfold fouled
  have et : (f.table.less ((k.potted ++ k.off).filter fun x => x == 1).length).next = foulT f k := rfl
  dsimp only
  rw [et, black_iff h.ok]
  by_cases q : tL f.table = 7
  · rw [if_pos (by simpa using q)]
    have cf : c = false := by rw [hcall, decide_eq_false (by omega)]; rfl
    have e4 : p.close.foul k (mayHit f k) (penalty f k) (foulT f k) = (((p.close.foul1 (penalty f k) (foulT f k)).count false).opn k.hidden false).settle := by
      unfold PF.foul PF.foul3
      rw [hc, cf]
      rw [Bool.false_and, if_neg (by show ¬ (0 : Nat) = 3; omega)]
      exact if_neg (by show ¬ tL (foulT f k) < 7; omega)
    rw [e4]
    refine ⟨last_rel hpts h.who rfl ?_ ?_ rfl h.win ?_, fun g hg => ?_⟩
    · show p.high.most p.turn p.brk = (f.high.most f.who f.made).most f.who 0
      rw [most_zero]; exact hkh
    · exact hkb
    · show TOk p.table
      rw [h.table]; exact h.ok
    · rw [cf]
      unfold Frame.last at hg
      split at hg
      · cases hg; rfl
      · cases hg
  · have q7 : tL f.table < 7 := by omega
    rw [if_neg (by simpa using q)]
    have ec : (decide (1 ≤ k.miss) && (!mayHit f k && (!far f.points f.table.left && !far (f.points.add (other f.who) (penalty f k)) (foulT f k).left))) = c := by
      rw [hcall, decide_eq_true q7]; rfl
    rw [ec, black_iff hok]
    have en : (if c = true ∧ k.miss = 2 then (if f.foul.isSome = true then 1 else f.misses + 1) else 0) = (if (c && decide (k.miss = 2)) = true then p.misses + 1 else 0) := by
      have e1 : (if f.foul.isSome = true then 1 else f.misses + 1) = p.misses + 1 := by
        cases hf : f.foul with
        | none => rw [h.non hf]; rfl
        | some u => rw [(h.som u hf).2.2.2.1]; rfl
      rw [e1]
      by_cases w : c = true ∧ k.miss = 2
      · rw [if_pos w, if_pos (by simpa using w)]
      · rw [if_neg w, if_neg (by simpa using w)]
    rw [en]
    have e5 : p.close.foul k (mayHit f k) (penalty f k) (foulT f k) = (((p.close.foul1 (penalty f k) (foulT f k)).count (c && decide (k.miss = 2))).opn k.hidden c).foul3 := by
      unfold PF.foul
      rw [hc]
    rw [e5]
    by_cases w : (if (c && decide (k.miss = 2)) = true then p.misses + 1 else 0) = 3
    · rw [if_pos w]
      have e6 : (((p.close.foul1 (penalty f k) (foulT f k)).count (c && decide (k.miss = 2))).opn k.hidden c).foul3 = (((p.close.foul1 (penalty f k) (foulT f k)).count (c && decide (k.miss = 2))).opn k.hidden c).win (1 - p.turn) 2 := if_pos w
      rw [e6]
      refine ⟨⟨?_, rfl, hpts, ?_, hkb, ?_⟩, fun g hg => by cases hg⟩
      · show 1 - p.turn = other f.who
        rw [hturn]; rfl
      · show p.high.most p.turn p.brk = (f.high.most f.who f.made).most f.who 0
        rw [most_zero]; exact hkh
      · show 1 - f.who ≤ 1
        omega
    · rw [if_neg w]
      have e6 : (((p.close.foul1 (penalty f k) (foulT f k)).count (c && decide (k.miss = 2))).opn k.hidden c).foul3 = ((p.close.foul1 (penalty f k) (foulT f k)).count (c && decide (k.miss = 2))).opn k.hidden c := by
        unfold PF.foul3
        rw [if_neg (show ¬ PF.mback _ = 3 from w)]
        exact if_pos (by show tL (foulT f k) < 7; omega)
      rw [e6]
      refine ⟨?_, fun g hg => by cases hg; rfl⟩
      have hfr : (k.hidden && decide (tL (foulT f k) < 7)) = (k.hidden && !decide (tL (foulT f k) = 7)) := by
        have : decide (tL (foulT f k) < 7) = !decide (tL (foulT f k) = 7) := by
          rw [decide_eq_true (show tL (foulT f k) < 7 by omega), decide_eq_false (show ¬ tL (foulT f k) = 7 by omega)]; rfl
        rw [this]
      refine ⟨hpts, ?_, ?_, rfl, hok, h.win, rfl, hkh, hkb, hfr, ?_, rfl, rfl, ?_, (fun q => nomatch q), ?_, ?_⟩
      · show 1 - p.turn = if f.toss = true then 2 else other f.who
        rw [ht, hturn]; rfl
      · show 1 - f.who ≤ 1
        omega
      · intro _
        show (foulT f k).on_ ≠ .colour
        rw [foulT_eq j]
        unfold rnd
        dsimp only
        split <;> simp
      · intro u hu
        cases hu
        exact ⟨h.table, h.ok, rfl, rfl, rfl⟩
      · intro q
        have q : f.toss = true := q
        rw [ht] at q; cases q
      · show TOk p.table
        rw [h.table]; exact h.ok

/-! ### again, back, toss, give -/
theorem brk0 {p : PF} (h : p.brk = 0) : p.endBreak = p := by
  obtain ⟨a, b, c, d, e, f, g, i, j, k, l, m, n, o⟩ := p
  have h : f = 0 := h
  subst h
  show (⟨a, b, c, d, e, 0, g.most b 0, i, j, k, l, m, n, o⟩ : PF) = _
  rw [most_zero]
theorem again_rel {f : Frame} {p : PF} {u : Foul} (h : FR f p) (hf : f.foul = some u) : FR { f with who := other f.who, free := false, foul := none, misses := 0 } p.doAgain ∧ f.toss = false := by
  obtain ⟨h1, h2, h3, h4, h5⟩ := h.som u hf
  have ht : f.toss = false := by
    cases q : f.toss with
    | false => rfl
    | true => have := h.toss q; rw [hf] at this; cases this
  have hturn : p.turn = f.who := by rw [h.turn, ht]; rfl
  have hb : p.endBreak = p := brk0 (by rw [h.brk, h5])
  refine ⟨?_, ht⟩
  unfold PF.doAgain PF.pass
  rw [hb]
  exact ⟨h.pts, (by show 1 - p.turn = if f.toss = true then 2 else other f.who; rw [ht, hturn]; rfl), (by show 1 - f.who ≤ 1; omega), h.table, h.ok, h.win, h.brk, h.high, h.big, rfl, (fun q => nomatch q), rfl, rfl, (fun _ q => nomatch q), (fun _ => h4), (fun _ => rfl), h.tb⟩
theorem back_rel {f : Frame} {p : PF} {u : Foul} (h : FR f p) (hf : f.foul = some u) : FR { f with who := other f.who, free := false, foul := none, table := u.was } p.doBack := by
  obtain ⟨h1, h2, h3, h4, h5⟩ := h.som u hf
  have ht : f.toss = false := by
    cases q : f.toss with
    | false => rfl
    | true => have := h.toss q; rw [hf] at this; cases this
  have hturn : p.turn = f.who := by rw [h.turn, ht]; rfl
  have hb : p.endBreak = p := brk0 (by rw [h.brk, h5])
  unfold PF.doBack PF.doAgain PF.pass
  rw [hb]
  exact ⟨h.pts, (by show 1 - p.turn = if f.toss = true then 2 else other f.who; rw [ht, hturn]; rfl), (by show 1 - f.who ≤ 1; omega), h1, h2, h.win, h.brk, h.high, h.big, rfl, (fun q => nomatch q), rfl, rfl, (fun _ q => nomatch q), (fun _ => h3), (fun _ => rfl), h.tb⟩
theorem toss_rel {f : Frame} {p : PF} {w : Nat} (h : FR f p) (ht : f.toss = true) (hw : w ≤ 1) : FR { f with who := w, toss := false } { p with turn := w } :=
  ⟨h.pts, rfl, hw, h.table, h.ok, h.win, h.brk, h.high, h.big, h.free, h.col, h.ago, h.bck, h.som, h.non, (fun q => nomatch q), h.tb⟩
theorem give_rel {f : Frame} {p : PF} (h : FR f p) (ht : f.toss = false) : OR (f.result (other f.who) 1) p.doGive := by
  have hturn : p.turn = f.who := by rw [h.turn, ht]; rfl
  refine ⟨?_, rfl, h.pts, ?_, ?_, ?_⟩
  · show 1 - p.turn = other f.who; rw [hturn]; rfl
  · show p.high.most p.turn p.brk = _; rw [h.high, hturn, h.brk]; rfl
  · show (if 100 ≤ p.brk then p.big.add p.turn 1 else p.big) = _; rw [h.big, hturn, h.brk]; rfl
  · show 1 - f.who ≤ 1; omega
theorem FR.turn2 {f : Frame} {p : PF} (h : FR f p) : p.turn = 2 ↔ f.toss = true := by
  have hw := h.who
  rw [h.turn]
  cases f.toss with
  | true => simp
  | false => simp; omega
theorem FR.turn_le {f : Frame} {p : PF} (h : FR f p) (ht : f.toss = false) : p.turn ≤ 1 := by
  rw [h.turn, ht]; exact h.who
end Cue
end
section
set_option autoImplicit false
set_option linter.all false
namespace Cue
open Kg53

/-! ### frames that are over, the match -/
theorem wins_app (l : List Over) (o : Over) (w : Nat) : wins (l ++ [o]) w = wins l w + if o.winner = w then 1 else 0 := by
  unfold wins
  rw [List.filter_append, List.length_append]
  congr 1
  by_cases h : o.winner = w
  · rw [if_pos h]; simp [h]
  · rw [if_neg h]; simp [h]
/-- while a frame is played -/
structure SOk (s : State) : Prop where
  first : s.first ≤ 1
  w0 : 2 * wins s.over 0 ≤ s.best
  w1 : 2 * wins s.over 1 ≤ s.best
theorem need_iff (b w : Nat) : need b ≤ w ↔ b < 2 * w := by unfold need; omega
theorem ended_over (s : State) (o : Over) (h : SOk s) (ho : o.winner ≤ 1) (q : s.best < 2 * (wins s.over o.winner + 1)) : ended s o = { s with over := s.over ++ [o], frame := none } := by
  unfold ended
  refine if_pos ?_
  unfold decided
  dsimp only
  rw [wins_app, wins_app, Bool.or_eq_true, decide_eq_true_eq, decide_eq_true_eq, need_iff, need_iff]
  rcases (show o.winner = 0 ∨ o.winner = 1 by omega) with e | e
  · left; rw [e] at q ⊢; simpa using q
  · right; rw [e] at q ⊢; simpa using q
theorem ended_on (s : State) (o : Over) (h : SOk s) (ho : o.winner ≤ 1) (q : ¬ s.best < 2 * (wins s.over o.winner + 1)) : ended s o = { s with over := s.over ++ [o], frame := some (fresh ((s.first + (s.over.length + 1)) % 2)) } := by
  unfold ended
  have e : (s.over ++ [o]).length = s.over.length + 1 := by rw [List.length_append]; rfl
  dsimp only
  rw [e]
  refine if_neg ?_
  unfold decided
  dsimp only
  rw [wins_app, wins_app, Bool.or_eq_true, decide_eq_true_eq, decide_eq_true_eq, need_iff, need_iff]
  have h0 := h.w0
  have h1 := h.w1
  rcases (show o.winner = 0 ∨ o.winner = 1 by omega) with e | e
  · rw [e] at q ⊢; simp; omega
  · rw [e] at q ⊢; simp; omega
theorem SOk.next (s : State) (o : Over) (h : SOk s) (ho : o.winner ≤ 1) (q : ¬ s.best < 2 * (wins s.over o.winner + 1)) (x : Option Frame) : SOk { s with over := s.over ++ [o], frame := x } := by
  have h0 := h.w0
  have h1 := h.w1
  refine ⟨h.first, ?_, ?_⟩
  · show 2 * wins (s.over ++ [o]) 0 ≤ s.best
    rw [wins_app]
    split
    · rename_i e; rw [e] at q; omega
    · omega
  · show 2 * wins (s.over ++ [o]) 1 ≤ s.best
    rw [wins_app]
    split
    · rename_i e; rw [e] at q; omega
    · omega
theorem starter_next (a b : Nat) : 1 - (a + b) % 2 = (a + (b + 1)) % 2 := by omega

/-! ### numbers that are told -/
theorem behind_eq (po pp l : Nat) : (if ((po : Int) - (pp : Int) - (l : Int) + 4 - 1) / 4 > 0 then ((po : Int) - (pp : Int) - (l : Int) + 4 - 1) / 4 else 0) = (((po - (pp + l) + 3) / 4 : Nat) : Int) := by
  split <;> omega
theorem max2_eq (a b : Nat) : (if (b : Int) > (a : Int) then (b : Int) else (a : Int)) = ((max a b : Nat) : Int) := by
  split <;> omega
theorem abs_eq (p : Pair) (l : Nat) : decide ((if (p.a : Int) - (p.b : Int) < 0 then -((p.a : Int) - (p.b : Int)) else (p.a : Int) - (p.b : Int)) ≤ (l : Int)) = !far p l := by
  unfold far
  rw [Bool.eq_iff_iff]
  simp only [decide_eq_true_eq, Bool.not_eq_true', Bool.or_eq_false_iff, decide_eq_false_iff_not]
  split <;> omega
theorem nints_sum : ∀ l : List Nat, (nints l).sum = ((l.sum : Nat) : Int)
  | [] => rfl
  | a :: r => by
    show (a : Int) + (nints r).sum = _
    rw [nints_sum r, List.sum_cons]
    omega
theorem max_fold {l : List Nat} {m : Int} (h : m ∈ nints l) (h2 : ∀ y ∈ nints l, y ≤ m) : m = ((l.foldl max 0 : Nat) : Int) := by
  obtain ⟨x, hx, rfl⟩ := List.mem_map.mp h
  have h3 := foldl_max_ge l 0
  have a := h3.2 x hx
  have b : l.foldl max 0 ≤ x := by
    rcases foldl_max_mem l 0 with q | q
    · omega
    · have := h2 _ (List.mem_map.mpr ⟨_, q, rfl⟩)
      omega
  have : x = l.foldl max 0 := by omega
  rw [← this]
theorem begin_ok (b f : Int) : (within b 1 35 && (decide (b % 2 = 1) && within f 0 1)) = !(decide (b % 2 = 0) || (decide (b < 1) || (decide (35 < b) || !(decide (f = 0) || decide (f = 1))))) := by
  rw [Bool.eq_iff_iff]
  simp only [Bool.and_eq_true, within_iff, decide_eq_true_eq, Bool.not_eq_true', Bool.or_eq_false_iff, decide_eq_false_iff_not, Bool.not_eq_false', Bool.or_eq_true]
  omega
theorem player_eq (f : Int) : within f 0 1 = (decide (f = 0) || decide (f = 1)) := by
  rw [Bool.eq_iff_iff]
  simp only [within_iff, decide_eq_true_eq, Bool.or_eq_true]
  omega
theorem strokeOf_known (n h c d m : Int) (p o : List Int) (wi : Int → Int → Bool) (hw : ∀ x y, wi x y = (decide (0 ≤ x) && decide (x ≤ y))) : (strokeOf n h c d m p o).isSome = (wi n 7 && (wi h 7 && (wi c 8 && (wi d 1 && (wi m 2 && (p ++ o).all fun z => wi z 7))))) := by
  rw [strokeOf_none]
  have e : wi = fun x y => within x 0 y := by
    funext x y; rw [hw]; rfl
  rw [e]
/-! ### how long things get -/
theorem ended_len (s : State) (o : Over) : (ended s o).over.length = s.over.length + 1 := by
  unfold ended
  dsimp only
  split <;> simp
theorem flat_over : ∀ l : List Over, (l.flatMap showOver).length = 6 * l.length
  | [] => rfl
  | o :: r => by
    rw [List.flatMap_cons, List.length_append, flat_over r, List.length_cons]
    show 6 + _ = _
    omega
theorem struck_len (s : State) (f : Frame) (k : Stroke) : (struck s f k).1.over.length ≤ s.over.length + 1 ∧ (struck s f k).2.out.length ≤ 6 * s.over.length + 12 := by
  unfold struck
  dsimp only
  split
  · exact ⟨Nat.le_succ _, by show 6 ≤ _; omega⟩
  · exact ⟨by rw [ended_len]; exact Nat.le_refl _, by show 2 ≤ _; omega⟩
theorem onFrame_len (s : State) (g : Frame → State × Ans) (h : ∀ f, (g f).1.over.length ≤ s.over.length + 1 ∧ (g f).2.out.length ≤ 6 * s.over.length + 12) : (onFrame s g).1.over.length ≤ s.over.length + 1 ∧ (onFrame s g).2.out.length ≤ 6 * s.over.length + 12 := by
  unfold onFrame
  split
  · exact h _
  · exact ⟨Nat.le_succ _, Nat.zero_le _⟩
theorem spec_len (s : State) (c : Call) : (spec s c).1.over.length ≤ s.over.length + 1 ∧ (spec s c).2.out.length ≤ 6 * s.over.length + 12 := by
  have triv : ∀ z : Int, ((s, num z) : State × Ans).1.over.length ≤ s.over.length + 1 ∧ ((s, num z) : State × Ans).2.out.length ≤ 6 * s.over.length + 12 := fun z => ⟨Nat.le_succ _, Nat.zero_le _⟩
  cases c with
  | begin_ b f =>
    show (ite _ _ _ : State × Ans).1.over.length ≤ _ ∧ (ite _ _ _ : State × Ans).2.out.length ≤ _
    split
    · exact triv _
    · exact ⟨Nat.zero_le _, Nat.zero_le _⟩
  | stroke n h c d m p o =>
    show (match strokeOf n h c d m p o with | none => (s, num (-1)) | some k => onFrame s _ : State × Ans).1.over.length ≤ _ ∧ (match strokeOf n h c d m p o with | none => (s, num (-1)) | some k => onFrame s _ : State × Ans).2.out.length ≤ _
    split
    · exact triv _
    · refine onFrame_len s _ fun f => ?_
      split
      · exact triv _
      · split
        · exact triv _
        · exact struck_len s f _
  | again =>
    refine onFrame_len s _ fun f => ?_
    split
    · exact triv _
    · exact ⟨Nat.le_succ _, Nat.zero_le _⟩
  | back =>
    refine onFrame_len s _ fun f => ?_
    split
    · exact ⟨Nat.le_succ _, Nat.zero_le _⟩
    · exact triv _
  | toss w =>
    show (ite _ _ _ : State × Ans).1.over.length ≤ _ ∧ (ite _ _ _ : State × Ans).2.out.length ≤ _
    split
    · exact triv _
    · refine onFrame_len s _ fun f => ?_
      split
      · exact triv _
      · exact ⟨Nat.le_succ _, Nat.zero_le _⟩
  | give =>
    refine onFrame_len s _ fun f => ?_
    split
    · exact triv _
    · exact ⟨by rw [ended_len]; exact Nat.le_refl _, Nat.zero_le _⟩
  | now =>
    refine onFrame_len s _ fun f => ?_
    exact ⟨Nat.le_succ _, by show 9 ≤ _; omega⟩
  | frames => exact ⟨Nat.le_succ _, by show (whole _).length ≤ _; unfold whole; rw [List.length_map, flat_over]; omega⟩
  | match_ => exact ⟨Nat.le_succ _, by show 7 ≤ _; omega⟩
/-- a call by its rows -/
theorem step_spec {cc : List (List Int)} {c : Kg53.Call} (s : State) (h : Kg53Neutral.callOf cc = some c) : Kg53Neutral.step s cc = ((spec s c).1, (spec s c).2.value :: (spec s c).2.out) := by
  unfold Kg53Neutral.step
  rw [h]
theorem step_len {cc : List (List Int)} (s : State) (h : Form cc) : (Kg53Neutral.step s cc).1.over.length ≤ s.over.length + 1 ∧ (Kg53Neutral.step s cc).2.length ≤ 6 * s.over.length + 13 := by
  have go : ∀ c, Kg53Neutral.callOf cc = some c → (Kg53Neutral.step s cc).1.over.length ≤ s.over.length + 1 ∧ (Kg53Neutral.step s cc).2.length ≤ 6 * s.over.length + 13 := fun c e => by
    rw [step_spec s e]
    have := spec_len s c
    refine ⟨this.1, ?_⟩
    show ((spec s c).2.value :: (spec s c).2.out).length ≤ _
    rw [List.length_cons]
    omega
  cases h <;> exact go _ rfl
end Cue
end
section
set_option Elab.async false
set_option linter.all false
set_option maxRecDepth 100000
set_option autoImplicit false
namespace Cue
open PySem PySem.Spec PyProof.Rows L2

/-! ### an attribute that is there, an object of a class -/
def Fld (K : PySem.W.Frag) (H : Hp) (x : V) (f : Str) (v : V) : Prop := ∃ a C dx fs, x = .ref a ∧ H a = some (.ins C dx fs) ∧ Cls K C ∧ NoAttr K C f ∧ fs.lookup f = some v
def tF (K : PySem.W.Frag) (ta : TE) (f : Str) : TE := fun σ H Q => ta σ H fun x H1 => ∃ v, Fld K H1 x f v ∧ Q v H1
section
variable {X : Cx} {o e value : Expr} {f : Str} {pos pos' tpos : Pos} {ta tv te : TE}
theorem pe_f (he : PE X e ta) (hb : attributeBase e f X.env (eval e X.env) = eval e X.env) : PE X (.Attribute e f pos) (tF X.K ta f) := by
  intro pins s σ H Q I h
  refine attr_of hb (thn (he pins s σ H _ I h) fun u s1 ⟨x, H1, I1, rx, v, ⟨a, C, dx, fs, ex, ea, c, n, l⟩, q⟩ => ?_)
  subst ex
  obtain rfl : u = Value.ref a := rx
  exact getattr_ok I1 ea c n l fun u' s2 I2 ru => ⟨v, H1, I2, ru, q⟩
/-- o.f = value: the object is known at the store -/
def sF (K : PySem.W.Frag) (ta tv : TE) (f : Str) : TS := fun D σ H => tv σ H fun y H1 => ta σ H1 fun x H2 => ∃ a C dx fs, x = .ref a ∧ H2 a = some (.ins C dx fs) ∧ (Cls K C ∧ NoAttr K C f ∧ fs.length < 1000) ∧
  D.nx σ (upd H2 a (.ins C dx (putF f y fs)))
theorem ps_fs (ha : PE X o ta) (hv : PE X value tv) (hs : swapsWith value (some (.Attribute o f pos')) pos.line X.env = pure false) : PS X (.Assign [.Attribute o f pos'] value pos) (sF X.K ta tv f) := by
  intro pins s σ H D I h
  refine plainObj_wpAny_Assign_Attribute (thn (hv pins s σ H _ I h) fun u s1 ⟨y, H1, I1, ry, q⟩ => thn (ha pins s1 σ H1 _ I1 q) fun ov s2 ⟨x, H2, I2, rx, a, C, dx, fs, ex, ea, ⟨c, n, l⟩, q2⟩ => ?_) hs
  subst ex
  obtain rfl : ov = Value.ref a := rx
  exact setattr_ok I2 ea c n l ry fun s3 I3 => ⟨σ, _, I3, q2⟩
/-- a constant of the module -/
theorem pe_const {x : Str} {i : Int} (h : ∃ t, X.mg x = some (.int i t)) (hg : Gl X x) (hd : (x == ("__debug__" : Str)) = false := by decide) : PE X (.Name x pos) (tC (.int i)) := by
  obtain ⟨t, h⟩ := h
  exact pe_glob hg h ⟨t, rfl⟩ hd
end

/-! ### methods of own classes -/
def Ob (C : Addr) (m : Str) (H : Hp) (x : V) : Prop := ∃ a dx fs, x = .ref a ∧ H a = some (.ins C dx fs) ∧ fs.lookup m = none
def tM (C : Addr) (m : Str) (sp : Sp) (dvs : List V) (E : XK) (ta : TE) (t : TA) : TE := fun σ H Q => ta σ H fun x H1 => Ob C m H1 x ∧ t σ H1 fun vs H2 => sp (x :: (vs ++ dvs)) H2 Q E
section
variable {X : Cx} {CX : CXT} {k : Nat} {f C : Addr} {fd : FuncData} {ps : List Str} {sp : Sp} {dvs : List V} {ds : List Value} {E : XK} {x m : Str} {p pos apos : Pos} {e o : Expr} {es : List Expr} {ta : TE} {t : TA}
theorem pe_mc {pl : Sem Bool} (he : PE X o ta) (c : Cls X.K C) (hm : Meth X.K C m f) (F : FnOk X.prog X.w X.K X.mg X.base CX k f fd ps sp) (hr : Room k X.A) (hb : Binds X.K fd ps ds) (hd : Vals dvs ds) (hx : Passes CX X E) (ha : PA X (e :: es) t)
    (hst : starEach (e :: es) X.env = (false, eval e X.env) :: starEach es X.env := by rfl) (hpl : (backTo pos (starEach es X.env)).any (·.1) = false := by rfl)
    (ht : eval (.Call (.Attribute o m apos) (e :: es) [] pos) X.env = (do
      let ov ← eval o X.env
      standAt apos.atName
      let (f, first) ← holding [ov] (getMethod ov m pl)
      callWith pos f first (backTo pos (starEach (e :: es) X.env)) (backToKw pos (keywordEach [] X.env))) := by rfl) :
    PE X (.Call (.Attribute o m apos) (e :: es) [] pos) (tM C m sp dvs E ta t) := by
  intro pins s σ H Q I h
  refine PySem.W.methodCall_KW (pl := pl) (thn (he pins s σ H _ I h) fun u s1 ⟨x, H1, I1, rx, ⟨a, dx, fs, ex, ea, l⟩, q⟩ => ?_) ht
  subst ex
  obtain rfl : u = Value.ref a := rx
  refine getmeth_ok I1 ea c hm l ?_
  refine PySem.W.callWith_K (first := [.ref a]) (h₀ := X.base) I.ok.mod.kin hm.kp (thn (ha pos pins s1 σ H1 _ I1 q) fun us s2 ⟨vs, H2, I2, r, q2⟩ => ⟨I2.kIn, ?_⟩) hst hpl
  exact run_fn (us := .ref a :: us) (vs := .ref a :: vs) F hr hb hd hx I2 (.cons rfl r) q2
theorem pe_m0c {pl : Sem Bool} (he : PE X o ta) (c : Cls X.K C) (hm : Meth X.K C m f) (F : FnOk X.prog X.w X.K X.mg X.base CX k f fd ps sp) (hr : Room k X.A) (hb : Binds X.K fd ps ds) (hd : Vals dvs ds) (hx : Passes CX X E)
    (ht : eval (.Call (.Attribute o m apos) [] [] pos) X.env = (do
      let ov ← eval o X.env
      standAt apos.atName
      let (f, first) ← holding [ov] (getMethod ov m pl)
      callWith pos f first (backTo pos (starEach [] X.env)) (backToKw pos (keywordEach [] X.env))) := by rfl) :
    PE X (.Call (.Attribute o m apos) [] [] pos) (tM C m sp dvs E ta tNil) := by
  intro pins s σ H Q I h
  refine PySem.W.methodCall_KW (pl := pl) (thn (he pins s σ H _ I h) fun u s1 ⟨x, H1, I1, rx, ⟨a, dx, fs, ex, ea, l⟩, q⟩ => ?_) ht
  subst ex
  obtain rfl : u = Value.ref a := rx
  refine getmeth_ok I1 ea c hm l ?_
  exact PySem.W.callWith_K0 (first := [.ref a]) I1.kIn hm.kp (run_fn (us := [.ref a]) (vs := [.ref a]) F hr hb hd hx I1 (.cons rfl .nil) q)
end

/-! ### xs.count(n), sum(range(a, b)), xs[i] as it is read by xs[i] += n -/
section
variable {X : Cx}
def rCountL (K : PySem.W.Frag) : V → List V → Hp → VK → Prop := fun x vs H Q => ∃ (a : Addr) (ns : List Int) (k : Int), x = .ref a ∧ vs = [.int k] ∧ SqL K H a (ns.map V.int) ∧ Q (.int (ns.count k : Nat)) H
theorem mt_countL : MtR X "list.count" (rCountL X.K) := by
  intro pins s σ H x xs v us Q I rx rs h
  obtain ⟨a, ns, k, rfl, rfl, hs, q⟩ := h
  cases rx
  obtain ⟨u, rfl, t, rfl⟩ := rs.one
  obtain ⟨its, rv, hl, _⟩ := I.list hs
  exact count_list_ints hl.isList rv.ints ⟨.int _, H, I.tok _, ⟨_, rfl⟩, q⟩
theorem call_rng2 : CallR X (.type "range") (fun xs H Q => ∃ i j, xs = [.int i, .int j] ∧ ∀ p, H p = none → Q (.ref p) (upd H p (.rng i j))) := by
  intro pins s σ H xs us Q I r h
  obtain ⟨i, j, rfl, q⟩ := h
  obtain ⟨u, v, rfl, ⟨t, rfl⟩, ⟨t', rfl⟩⟩ := r.two
  refine call_range_2 ?_
  exact ⟨.ref s.heap.objs.size, _, I.laid (o := .rng i j) (fun b ob e => Heap.get?_push_of_some _ e) (Nat.le_refl _) ⟨t, t', s.toks, Heap.get?_push_size _ rfl⟩, rfl, q _ (I.hok.fresh (Nat.le_refl _))⟩
theorem preSum_range (lo : Int) : ∀ n : Nat, preSum (fun i => lo + (i : Int)) n = ((List.range n).map fun (i : Nat) => lo + (i : Int)).sum
  | 0 => rfl
  | n + 1 => by
    rw [preSum, preSum_range lo n, List.range_succ, List.map_append, List.sum_append]
    simp
def rSumR : List V → Hp → VK → Prop := fun vs H Q => ∃ (a : Addr) (lo hi : Int), vs = [.ref a] ∧ H a = some (.rng lo hi) ∧ (-(2 ^ 62) ≤ lo ∧ lo < 2 ^ 62 ∧ -(2 ^ 62) ≤ hi ∧ hi < 2 ^ 62) ∧ Q (.int ((List.range (hi - lo).toNat).map fun (i : Nat) => lo + (i : Int)).sum) H
theorem cr_sumR (hc : X.calm = true) : CallR X (.builtin "sum") rSumR := by
  intro pins s σ H vs us Q I r h
  obtain ⟨a, lo, hi, rfl, ha, ⟨h1, h2, h3, h4⟩, q⟩ := h
  rw [Vals.ref1 r]
  obtain ⟨t, u, v, e⟩ := I.hok a _ ha
  refine call_sum_walkG (wpAny_pyIter_range (a := lo) (b := hi) (c := 1) (t := t) (u := u) (v := v) e (small_one h1 h2 h3 h4) ?_)
  have hsz : Builtin.Range.rangeSize lo hi 1 = ((hi - lo).toNat : Int) := by rw [rangeSize_one]; split <;> omega
  refine ⟨s.heap.objs.size, _, _, (hi - lo).toNat, _, _, (fun i => lo + (i : Int)), rfl, Walks.range (prog := X.prog) (w := X.w) (A := X.A.in1) (I.ok.hd hc) s.heap.objs.size lo 1 (hi - lo).toNat, ?_, ?_, fun i v ⟨t, e⟩ => ⟨t, by simpa using e⟩, fun h' tk t' hk => ?_⟩
  · have e1 : (lo + ((0 : Nat) : Int) * 1) = lo := by simp
    have e2 : (((hi - lo).toNat : Int) - ((0 : Nat) : Int)) = Builtin.Range.rangeSize lo hi 1 := by rw [hsz]; simp
    show IsRangeIter _ _ (lo + ((0 : Nat) : Int) * 1) (((hi - lo).toNat : Int) - ((0 : Nat) : Int)) 1
    rw [e1, e2]
    exact Heap.get?_push_size _ rfl
  · intro b hb
    have e : b = s.heap.objs.size := by simpa using hb
    rw [e, Heap.size_push]
    exact Nat.lt_succ_self _
  · rw [preSum_range]
    refine ⟨.int _, H, I.kept fun b o eo => hk b o (fun hmem => ?_) (Heap.get?_push_of_some _ eo), ⟨_, rfl⟩, q⟩
    have e : b = s.heap.objs.size := by simpa using hmem
    exact absurd (e ▸ Heap.lt_size eo) (Nat.lt_irrefl _)
end

section
variable {X : Cx}
theorem get_list : PGet X (rIxL X.K) := by
  intro pins s σ H o i ov iv Q I ro ri h
  obtain ⟨p, xs, k, z, rfl, rfl, hq, he, q⟩ := h
  cases ro
  obtain ⟨t, rfl⟩ := ri
  obtain ⟨its, r, pl, hz⟩ := I.list hq
  obtain ⟨j, h1, h2, h3, h4, h5⟩ := atI_get he
  obtain ⟨w, ew, rw'⟩ := r.get h2
  have hl := r.length
  have hn := line63
  have fin : EP X pins σ Q w s := ⟨z, H, I, rw', q⟩
  by_cases h0 : 0 ≤ k
  · have hj : k.toNat = j := by
      rw [seqIndex_of h0 h5] at h1
      exact Option.some.inj h1
    exact wpAny_getItem_list pl.isList h0 (by omega) (by rw [hj]; simpa using ew) fin
  · have hj : (k + (its.toArray.size : Int)).toNat = j := by
      rw [seqIndex_neg (by omega) h4] at h1
      rw [List.size_toArray, ← hl]
      exact Option.some.inj h1
    exact wpAny_getItem_list_neg pl.isList (by omega) (by rw [List.size_toArray] <;> omega) (by omega) (by rw [hj]; simpa using ew) fin
end

/-! ### a dict of the module: ints to defs -/
def EntF : List DictEntry → List (Int × Addr) → Prop := Paired fun e kv => (∃ t, e.key = .int kv.1 t) ∧ e.hash = hashInt kv.1 ∧ e.val = .ref kv.2
def KDict (K : PySem.W.Frag) (mg : Str → Option Value) (x : Str) (kvs : List (Int × Addr)) : Prop :=
  ∃ (a : Addr) (es : Array DictEntry) (n : Nat), mg x = some (.ref a) ∧ K.lookup a = some ⟨.type "dict", none, .dict es n, #[]⟩ ∧ EntF es.toList kvs
theorem entF_keys : ∀ {es : List DictEntry} {kvs : List (Int × Addr)}, EntF es kvs → ∀ e ∈ es, ∃ k : Int, Value.isInt k e.key = true ∧ e.hash = hashInt k
  | _, _, .nil, e, he => by cases he
  | _, _, .cons (a := e0) (b := kv) ⟨⟨t, h1⟩, h2, h3⟩ r, e, he => by
    rcases List.mem_cons.mp he with rfl | he
    · exact ⟨kv.1, by rw [h1]; simp [Value.isInt], h2⟩
    · exact entF_keys r e he
theorem entF_find : ∀ {es : List DictEntry} {kvs : List (Int × Addr)} {k : Int} {f : Addr}, EntF es kvs → kvs.lookup k = some f → (es.find? fun e => Value.isInt k e.key).map (·.val) = some (.ref f)
  | _, _, _, _, .nil, h => by cases h
  | _, _, k, f, .cons (a := e0) (b := kv) ⟨⟨t, h1⟩, h2, h3⟩ r, h => by
    obtain ⟨k0, f0⟩ := kv
    by_cases e : k = k0
    · subst e
      have hb : (k == k) = true := beq_self_eq_true k
      simp only [List.lookup, hb] at h
      cases h
      rw [List.find?_cons, h1]
      simp [Value.isInt, h3]
    · have hb : (k == k0) = false := beq_eq_false_iff_ne.mpr e
      simp only [List.lookup, hb] at h
      have hk : Value.isInt k e0.key = false := by
        rw [h1]
        simp [Value.isInt]
        exact fun q => e q.symm
      rw [List.find?_cons, hk]
      exact entF_find r h
def tKD (kvs : List (Int × Addr)) (ty : TE) : TE := fun σ H Q => ty σ H fun y H1 => ∃ k f, y = .int k ∧ kvs.lookup k = some f ∧ Q (.ref f) H1
section
variable {X : Cx} {x : Str} {i func e : Expr} {es : List Expr} {p pos : Pos} {ty tf : TE} {t : TA} {kvs : List (Int × Addr)}
theorem pe_kdict (d : KDict X.K X.mg x kvs) (hg : Gl X x) (hi : PE X i ty) (hs : NoSl i) (hd : (x == ("__debug__" : Str)) = false := by decide) : PE X (.Subscript (.Name x p) i pos) (tKD kvs ty) := by
  intro pins s σ H Q I h
  obtain ⟨a, es, n, hm, hl, he⟩ := d
  have hmap : ∀ {h : Heap}, X.K.In h → h.MapOf (PySem.intKind X.prog X.w) a (fun k => findBy Value.isInt es k) := fun {h} KX =>
    ⟨_, es, n, KX _ _ hl, ⟨rfl, rfl, rfl⟩, rfl, fun e0 he0 => by
      obtain ⟨k, h1, h2⟩ := entF_keys he e0 (Array.mem_toList_iff.mpr he0)
      exact ⟨k, h1, h2⟩, fun _ => rfl⟩
  refine subD_of PySem.F.slot_dict_getitem.lookup hs (ld_glob I hg hm ?_ hd)
  refine thn (hi pins s σ H _ I h) fun iv s2 ⟨y, H2, I2, ry, k, f, ey, hk, q2⟩ => ?_
  subst ey
  obtain ⟨t, rfl⟩ := ry
  have M := hmap I2.kIn
  refine ⟨M.typeIs, wpAny_getItem_of (knd := PySem.intKind X.prog X.w) (k := k) (by show Value.isInt k (.int k t) = true; simp [Value.isInt]) M ?_ ⟨.ref f, H2, I2.tok _, rfl, q2⟩⟩
  show findBy Value.isInt es k = some (.ref f)
  have := entF_find he hk
  unfold findBy
  obtain ⟨l⟩ := es
  rw [List.find?_toArray]
  exact this
def tCallE (X : Cx) (tf : TE) (t : TA) : TE := fun σ H Q => tf σ H fun x H1 => ∃ (f : Addr) (k : Nat) (fd : FuncData) (ps : List Str) (sp : Sp), x = .ref f ∧
  (PySem.W.keepIn X.K (.ref f) = true ∧ FnOk X.prog X.w X.K X.mg X.base CX0 k f fd ps sp ∧ Room k X.A ∧ Binds X.K fd ps []) ∧ t σ H1 fun vs H2 => sp vs H2 Q E0
theorem pe_callE (hf : PE X func tf) (ha : PA X (e :: es) t) (he : starEach (e :: es) X.env = (false, eval e X.env) :: starEach es X.env := by rfl) (hpl : (backTo pos (starEach es X.env)).any (·.1) = false := by rfl)
    (ht : eval (.Call func (e :: es) [] pos) X.env = (do
      callWith pos (← eval func X.env) [] (backTo pos (starEach (e :: es) X.env)) (backToKw pos (keywordEach [] X.env))) := by rfl) :
    PE X (.Call func (e :: es) [] pos) (tCallE X tf t) := by
  intro pins s σ H Q I h
  rw [ht]
  refine wpAny_bind (thn (hf pins s σ H _ I h) fun u s1 ⟨x, H1, I1, rx, f, k, fd, ps, sp, ex, ⟨hk, F, hr, hb⟩, q⟩ => ?_)
  subst ex
  obtain rfl : u = Value.ref f := rx
  refine PySem.W.callWith_K (h₀ := X.base) I.ok.mod.kin hk (thn (ha pos pins s1 σ H1 _ I1 q) fun us s2 ⟨vs, H2, I2, r, q2⟩ => ⟨I2.kIn, ?_⟩) he hpl
  refine run_fn (dvs := []) (E := E0) F hr hb .nil pass0 I2 r ?_
  rw [List.append_nil]
  exact q2
end
/-! ### the same rules with the written part by its own name: within a comprehension the context speaks of the turn -/
section
variable {X : Cx} {K : PySem.W.Frag} {o e : Expr} {es : List Expr} {f name : Str} {pos apos cpos : Pos} {ta to : TE} {t : TA} {T : String} {id : String} {r : V → List V → Hp → VK → Prop}
theorem pe_fK (hK : X.K = K) (he : PE X e ta) (hb : attributeBase e f X.env (eval e X.env) = eval e X.env) : PE X (.Attribute e f pos) (tF K ta f) := by
  subst hK
  exact pe_f he hb
theorem ix_listK (hK : X.K = K) : IxR X (rIxL K) := by
  subst hK
  exact ix_list
theorem op_notInK (hK : X.K = K) : OpR X (compareOp .NotIn) (rIn K true) := by
  subst hK
  exact op_notIn_seq
theorem mt_countLK (hK : X.K = K) : MtR X "list.count" (rCountL K) := by
  subst hK
  exact mt_countL
theorem pe_bmK (hK : X.K = K) (pa : PlainAttrs T) (slot : Slot T name id) (hty : typeOf (.builtin id) = pure (.type "method_descriptor")) (hm : MtR X id r) (ho : PE X o to) (ha : PA X (e :: es) t)
    (h1 : attributeBase o name X.env (eval o X.env) = eval o X.env := by rfl)
    (h2 : ((backTo cpos (starEach (e :: es) X.env)).all (fun x => !x.1) && (backToKw cpos (keywordEach [] X.env)).all (fun x => x.1.isSome) && decide ((e :: es).length + ([] : List Keyword).length + (if ([] : List Keyword).isEmpty then 0 else 1) < 30)) = true := by rfl)
    (h3 : (apos.endLine == cpos.line) = true := by rfl) (h4 : starEach (e :: es) X.env = (false, eval e X.env) :: starEach es X.env := by rfl) (h5 : (backTo cpos (starEach es X.env)).any (·.1) = false := by rfl) :
    PE X (.Call (.Attribute o name apos) (e :: es) [] cpos) (tBM K T r to t) := by
  subst hK
  exact pe_bm pa slot hty hm ho ha h1 h2 h3 h4 h5
end
end Cue
end
section
set_option Elab.async false
set_option linter.all false
set_option maxRecDepth 100000
set_option autoImplicit false
namespace Cue
open PySem PySem.Spec PyProof.Rows L2
/-! ### max(xs, default = d) of a list of ints: the walk with what stands behind the keyword -/
theorem mxd_args (a v : Value) : argsOk "max" ⟨[a], [(Str.ofString "default", v)]⟩ := by unfold argsOk; kernel_rfl
theorem mxd_name : (toString "max" ++ toString ".loop" : String) = "max.loop" := by decide
abbrev BestAt (vb : Value) (c : Nat) : Obj := { cls := .type "list", dict := none, data := .seq #[vb, vb] c, slots := #[] }
section
variable {prog : Program} {w : World} {A : Around} {R : Result → Shared → Prop} {it : Addr} {fp wr : List Addr} {n : Nat} {P : Nat → Value → Prop} {St : Nat → Heap → Prop}
theorem mxd_loop (kw : List (Str × Value)) (W : Walks prog w A.in1 it fp wr n P St) (bt : Nat → Nat → Bool) (cmp : CmpOf prog w A.in1 .Gt P bt) (B : Addr) (nB : B ∉ fp) :
    ∀ (r j : Nat) (s : Shared) (vb : Value) (c : Nat), n - (j + 1) = r → j + 1 ≤ n → St (j + 1) s.heap → P (argBest bt j) vb → s.heap.get? B = some (BestAt vb c) →
    (∀ v h1 t1, P (argBest bt (n - 1)) v → (∀ b o, b ∉ wr → b ≠ B → s.heap.get? b = some o → h1.get? b = some o) → R (.ok (.ret v)) { s with heap := h1, toks := t1 }) →
    codeAny (model prog w) A (.builtin "max.loop" ⟨[.ref it, .none, .ref B], kw⟩) R s := by
  have nW : B ∉ wr := fun z => nB (W.sub _ z)
  intro r
  induction r with
  | zero =>
    intro j s vb c er hj st pb gB fin
    have ej : j + 1 = n := by omega
    refine codeAny_builtin F.entry_max_loop ?go
    case go =>
      rw [Around.under_plainId (F.plain_max_loop) _]
      show wpAny _ A.in1 (seqItems? (.ref B) >>= _) _ _ s
      refine wpAny_bind (wpAny_seqItems gB rfl ?go)
      case go =>
        show wpAny _ A.in1 (tryCatch (pyNext (.ref it)) _ >>= _) _ _ s
        refine wpAny_bind (wpAny_tryCatch (W.done s _ _ (ej ▸ st) fun h1 t1 kp => ?go))
        case go =>
          have gB1 := kp B _ nW gB
          show wpAny _ A.in1 (updateSeq B (fun _ => #[]) >>= _) _ _ _
          refine wpAny_bind (wpAny_updateSeq gB1 rfl (wpAny_bind (wpAny_letGo (wpAny_pure ?go))))
          case go => exact fin vb _ t1 (by rw [← ej]; exact pb) fun b o n1 n2 e => (Heap.get?_update_other _ _ (Ne.symm n2)).trans (kp b o n1 e)
  | succ r ih =>
    intro j s vb c er hj st pb gB fin
    have lt : j + 1 < n := by omega
    refine codeAny_builtin F.entry_max_loop ?go
    case go =>
      rw [Around.under_plainId (F.plain_max_loop) _]
      show wpAny _ A.in1 (seqItems? (.ref B) >>= _) _ _ s
      refine wpAny_bind (wpAny_seqItems gB rfl ?go)
      case go =>
        show wpAny _ A.in1 (tryCatch (pyNext (.ref it)) _ >>= _) _ _ s
        refine wpAny_bind (wpAny_tryCatch (W.item (j + 1) s _ _ lt st fun v h1 t1 pv st1 kp => ?go))
        case go =>
          have gB1 := kp B _ nW gB
          show wpAny _ A.in1 (tryCatch (holding [v, v] (richCompare .Gt v vb >>= _)) _ >>= _) _ _ _
          refine wpAny_bind (wpAny_tryCatch (wpAny_holding (wpAny_bind (cmp (j + 1) (argBest bt j) v vb _ _ _ pv pb ?go))))
          case go =>
            refine wpAny_bind (wpAny_holding (wpAny_truthy_bool (wpAny_bind (wpAny_letGo (wpAny_pure ?go)))))
            case go =>
              cases hb : bt (j + 1) (argBest bt j) with
              | true =>
                simp only [if_true]
                refine wpAny_bind (wpAny_updateSeq gB1 rfl (wpAny_bind (wpAny_letGo ?go)))
                case go =>
                  rw [mxd_name]
                  refine wpAny_pure ⟨plainId_quiet F.plain_max_loop _, ih (j + 1) _ v _ (by omega) lt (W.frame _ _ _ st1 fun b m o e => ?a) (by simp only [argBest, hb, if_true]; exact pv) (Heap.get?_update_self _ gB1 rfl) fun v2 h2 t2 p2 k2 => ?b⟩
                  case a => exact (Heap.get?_update_other _ _ (fun z : B = b => nB (by rw [z]; exact m))).trans e
                  case b => exact fin v2 h2 t2 p2 fun b o n1 n2 e => k2 b o n1 n2 ((Heap.get?_update_other _ _ (Ne.symm n2)).trans (kp b o n1 e))
              | false =>
                simp only [Bool.false_eq_true, if_false]
                refine wpAny_bind (wpAny_letGo ?go)
                case go =>
                  rw [mxd_name]
                  exact wpAny_pure ⟨plainId_quiet F.plain_max_loop _, ih (j + 1) _ vb c (by omega) lt st1 (by simp only [argBest, hb, Bool.false_eq_true, if_false]; exact pb) gB1 fun v2 h2 t2 p2 k2 => fin v2 h2 t2 p2 fun b o n1 n2 e => k2 b o n1 n2 (kp b o n1 e)⟩
theorem mxd_first (kw : List (Str × Value)) (W : Walks prog w A.in1 it fp wr n P St) (bt : Nat → Nat → Bool) (cmp : CmpOf prog w A.in1 .Gt P bt) (B : Addr) (nB : B ∉ fp) (hn : 0 < n) {s : Shared} {c : Nat} (st : St 0 s.heap)
    (gB : s.heap.get? B = some { cls := .type "list", dict := none, data := .seq #[] c, slots := #[] })
    (fin : ∀ v h1 t1, P (argBest bt (n - 1)) v → (∀ b o, b ∉ wr → b ≠ B → s.heap.get? b = some o → h1.get? b = some o) → R (.ok (.ret v)) { s with heap := h1, toks := t1 }) :
    codeAny (model prog w) A (.builtin "max.loop" ⟨[.ref it, .none, .ref B], kw⟩) R s := by
  have nW : B ∉ wr := fun z => nB (W.sub _ z)
  refine codeAny_builtin F.entry_max_loop ?go
  case go =>
    rw [Around.under_plainId (F.plain_max_loop) _]
    show wpAny _ A.in1 (seqItems? (.ref B) >>= _) _ _ s
    refine wpAny_bind (wpAny_seqItems gB rfl ?go)
    case go =>
      show wpAny _ A.in1 (tryCatch (pyNext (.ref it)) _ >>= _) _ _ s
      refine wpAny_bind (wpAny_tryCatch (W.item 0 s _ _ hn st fun v h1 t1 pv st1 kp => ?go))
      case go =>
        have gB1 := kp B _ nW gB
        show wpAny _ A.in1 (updateSeq B (fun _ => #[v, v]) >>= _) _ _ _
        refine wpAny_bind (wpAny_updateSeq gB1 rfl ?go)
        case go =>
          rw [mxd_name]
          refine wpAny_pure ⟨plainId_quiet F.plain_max_loop _, mxd_loop kw W bt cmp B nB _ 0 _ v _ rfl hn (W.frame _ _ _ st1 fun b m o e => ?a) pv (Heap.get?_update_self _ gB1 rfl) fun v2 h2 t2 p2 k2 => ?b⟩
          case a => exact (Heap.get?_update_other _ _ (fun z : B = b => nB (by rw [z]; exact m))).trans e
          case b => exact fin v2 h2 t2 p2 fun b o n1 n2 e => k2 b o n1 n2 ((Heap.get?_update_other _ _ (Ne.symm n2)).trans (kp b o n1 e))
/-- nothing to walk: the value behind the keyword -/
theorem mxd_none {k0 : Str} {d : Value} {kr : List (Str × Value)} (W : Walks prog w A.in1 it fp wr n P St) (B : Addr) (nB : B ∉ fp) (hn : n = 0) {s : Shared} {c : Nat} (st : St 0 s.heap)
    (gB : s.heap.get? B = some { cls := .type "list", dict := none, data := .seq #[] c, slots := #[] })
    (fin : ∀ h1 t1, (∀ b o, b ∉ wr → s.heap.get? b = some o → h1.get? b = some o) → R (.ok (.ret d)) { s with heap := h1, toks := t1 }) :
    codeAny (model prog w) A (.builtin "max.loop" ⟨[.ref it, .none, .ref B], (k0, d) :: kr⟩) R s := by
  refine codeAny_builtin F.entry_max_loop ?go
  case go =>
    rw [Around.under_plainId (F.plain_max_loop) _]
    show wpAny _ A.in1 (seqItems? (.ref B) >>= _) _ _ s
    refine wpAny_bind (wpAny_seqItems gB rfl ?go)
    case go =>
      show wpAny _ A.in1 (tryCatch (pyNext (.ref it)) _ >>= _) _ _ s
      refine wpAny_bind (wpAny_tryCatch (W.done s _ _ (hn ▸ st) fun h1 t1 kp => ?go))
      case go => exact wpAny_bind (wpAny_rule (wpAny_pure (fin h1 t1 kp)))
end
section
variable {prog : Program} {w : World} {A : Around} {E : Value → Shared → Prop} {s : Shared} {Q : Value → Shared → Prop}
theorem mxd_walk {x d : Value}
    (h : wpAny (model prog w) A.in1 (pyIter x) (fun i s1 => ∃ it fp wr n P St bt, i = .ref it ∧ Walks prog w A.in1 it fp wr n P St ∧ St 0 s1.heap ∧ (∀ b ∈ fp, b < s1.heap.objs.size) ∧ CmpOf prog w A.in1 .Gt P bt ∧
      (0 < n → ∀ v h1 t1, P (argBest bt (n - 1)) v → (∀ b o, b ∉ wr → s1.heap.get? b = some o → h1.get? b = some o) → Q v { s1 with heap := h1, toks := t1 }) ∧
      (n = 0 → ∀ h1 t1, (∀ b o, b ∉ wr → s1.heap.get? b = some o → h1.get? b = some o) → Q d { s1 with heap := h1, toks := t1 })) E s) :
    wpAny (model prog w) A (call (.builtin "max") [x] [(Str.ofString "default", d)]) Q E s := by
  refine kmk_tree F.kind_max F.plain_max F.entry_max (mxd_args _ _) ?go
  case go =>
    show wpAny _ A.in1 (Builtin.Builtins.bindParams "max" ["key", "default"] 0 ⟨[], [(Str.ofString "default", d)]⟩ >>= _) _ _ s
    refine wpAny_bind (wpAny_of_eq (show Builtin.Builtins.bindParams "max" ["key", "default"] 0 ⟨[], [(Str.ofString "default", d)]⟩ = pure [none, some d] from rfl) ?go)
    case go =>
      refine wpAny_bind (wpAny_pure (wpAny_bind (wpAny_mono h (fun i s1 h1 => ?go) fun _ _ z => z)))
      case go =>
        obtain ⟨it, fp, wr, n, P, St, bt, rfl, W, st, lo, cmp, q1, q0⟩ := h1
        refine wpAny_bind (wpAny_newObj_type ?go)
        case go =>
          have nB : s1.heap.objs.size ∉ fp := fun z => Nat.lt_irrefl _ (lo _ z)
          rw [mxd_name]
          refine wpAny_pure ⟨plainId_quiet F.plain_max_loop _, ?go⟩
          case go =>
            by_cases hn : 0 < n
            · exact mxd_first _ W bt cmp s1.heap.objs.size nB hn (W.frame _ _ _ st fun b _ o e => Heap.get?_push_of_some _ e) (Heap.get?_push_size _ rfl) fun v h1 t1 pv kp => q1 hn v h1 t1 pv fun b o n1 e => kp b o n1 (Nat.ne_of_lt (Heap.lt_size e)) (Heap.get?_push_of_some _ e)
            · exact mxd_none W s1.heap.objs.size nB (by omega) (W.frame _ _ _ st fun b _ o e => Heap.get?_push_of_some _ e) (Heap.get?_push_size _ rfl) fun h1 t1 kp => q0 (by omega) h1 t1 fun b o n1 e => kp b o n1 (Heap.get?_push_of_some _ e)
theorem mxd_raw {l : Addr} {its : List Value} {ns : List Int} {d : Value} (hh : A.handled = none) (hl : s.heap.IsList l its.toArray) (hi : IntsAre its ns)
    (q0 : ns = [] → ∀ h1 t1, (∀ b o, s.heap.get? b = some o → h1.get? b = some o) → Q d { s with heap := h1, toks := t1 })
    (q1 : ∀ h1 t1 m t2, (∀ b o, s.heap.get? b = some o → h1.get? b = some o) → m ∈ ns → (∀ a, a ∈ ns → a ≤ m) → Q (.int m t2) { s with heap := h1, toks := t1 }) :
    wpAny (model prog w) A (call (.builtin "max") [.ref l] [(Str.ofString "default", d)]) Q E s := by
  obtain ⟨xs, e⟩ := hi.allInts.items
  have en : numsOf (intItems xs).toList = ns := by rw [← e]; exact hi.numsOf
  rw [nums_intItems] at en
  subst en
  rw [e] at hl
  refine mxd_walk (iter_intList hl fun s1 e1 st lo nl => ?go)
  case go =>
    subst e1
    refine ⟨_, _, _, _, _, _, _, rfl, Walks.list (A := A.in1) hh _ l nl (intItems xs), st, lo, CmpOf.ints_gt (numAt xs) (fun _ _ => intItems_at), fun hn v h1 t1 pv kp => ?a, fun hn h1 t1 kp => ?b⟩
    case a =>
      have hn : 0 < xs.size := by simpa [intItems] using hn
      have pv' : (intItems xs)[argBest (fun i j => decide (numAt xs i > numAt xs j)) (xs.size - 1)]? = some v := by simpa [intItems] using pv
      obtain ⟨t, rfl⟩ := intItems_at pv'
      obtain ⟨m1, m2⟩ := argBest_gt (numAt xs) (xs.size - 1)
      refine q1 h1 t1 _ t (old_kept kp) ?c fun a ha => ?d
      case c => rw [numAt_eq]; exact PySem.getD_mem (by rw [List.length_map, Array.length_toList]; omega)
      case d =>
        obtain ⟨j, hj, rfl⟩ := mem_getD ha
        rw [List.length_map, Array.length_toList] at hj
        rw [← numAt_eq]; exact m2 j (by omega)
    case b =>
      have hn : xs.size = 0 := by simpa [intItems] using hn
      refine q0 ?c h1 t1 (old_kept kp)
      case c =>
        have hx : xs.toList.length = 0 := by rw [Array.length_toList]; exact hn
        rw [List.eq_nil_of_length_eq_zero hx]; rfl
end
def tMaxD (K : PySem.W.Frag) (te td : TE) : TE := fun σ H Q => te σ H fun x H1 => td σ H1 fun y H2 => ∃ (a : Addr) (ns : List Int) (i : Int), x = .ref a ∧ y = .int i ∧ SqL K H2 a (ns.map V.int) ∧ (ns = [] → Q (.int i) H2) ∧ ∀ m, m ∈ ns → (∀ z, z ∈ ns → z ≤ m) → Q (.int m) H2
section
variable {X : Cx} {e d : Expr} {te td : TE} {p pos kpos : Pos}
theorem pe_maxD (hc : X.calm = true) (hg : Gl X "max") (hm : X.mg "max" = none) (he : PE X e te) (hd : PE X d td)
    (h1 : backTo pos (starEach [e] X.env) = (false, eval e X.env) :: backTo pos (starEach [] X.env) := by rfl) (h2 : (backTo pos (starEach [e] X.env)).any (·.1) = false := by rfl) :
    PE X (.Call (.Name "max" p) [e] [⟨some "default", d, kpos⟩] pos) (tMaxD X.K te td) := by
  intro pins s σ H Q I h
  refine wpAny_Call_Name_kw (ld_blt I hg hm boot_max ?go (by decide) (by decide))
  case go =>
    refine PyProof.Rows.callWith_kw ?go h1 h2
    case go =>
      rw [h1]
      refine Calls.spliced_cons (thn (he pins s σ H _ I h) fun u s1 ⟨x, H1, I1, rx, q1⟩ => Calls.spliced_nil ?go)
      case go =>
        refine PyProof.Rows.kws_cons (thn (hd pins s1 σ H1 _ I1 q1) fun v s2 ⟨y, H2, I2, ry, a, ns, i, ex, ey, hs, q0, qm⟩ => PyProof.Rows.kws_nil ?go)
        case go =>
          subst ex; subst ey
          obtain rfl : u = Value.ref a := rx
          obtain ⟨t, rfl⟩ := ry
          obtain ⟨its, rv, hl, _⟩ := I2.list hs
          show wpAny _ _ (call (.builtin "max") [.ref a] [(Str.ofString "default", .int i t)]) _ _ _
          exact mxd_raw (I2.ok.hd hc) hl.isList rv.ints (fun e0 h1 t1 kp => ⟨.int i, H2, I2.kept kp, ⟨_, rfl⟩, q0 e0⟩) fun h1 t1 m t2 kp m1 m2 => ⟨.int m, H2, I2.kept kp, ⟨_, rfl⟩, qm m m1 m2⟩
end
end Cue
end
section
set_option Elab.async false
set_option linter.all false
set_option maxRecDepth 100000
set_option autoImplicit false
namespace Cue
open PySem PySem.Spec PyProof.Rows L2
def top (i : Nat) : Stmt := PySem.Challenge.pw_cuereferee_s01_answers.main.body.getD i (.Pass ⟨0, 0, 0, 0⟩)
abbrev s_other : Stmt := top 8
theorem sc_other : FnScope ["player"] ["player"] (defScope s_other) := ⟨rfl, rfl, rfl, by decide +kernel, rfl, by decide +kernel, by decide +kernel⟩
abbrev s_Stroke_init : Stmt := inClass (top 12) 0
theorem sc_Stroke_init : FnScope ["self", "numbers", "potted", "off"] ["self", "numbers", "potted", "off"] (defScope s_Stroke_init) := ⟨rfl, rfl, rfl, by decide +kernel, rfl, by decide +kernel, by decide +kernel⟩
abbrev s_Stroke_names_colour : Stmt := inClass (top 12) 1
theorem sc_Stroke_names_colour : FnScope ["self"] ["self"] (defScope s_Stroke_names_colour) := ⟨rfl, rfl, rfl, by decide +kernel, rfl, by decide +kernel, by decide +kernel⟩
abbrev s_Stroke_reds_gone : Stmt := inClass (top 12) 2
theorem sc_Stroke_reds_gone : FnScope ["self"] ["self"] (defScope s_Stroke_reds_gone) := ⟨rfl, rfl, rfl, by decide +kernel, rfl, by decide +kernel, by decide +kernel⟩
abbrev s_is_within : Stmt := top 13
theorem sc_is_within : FnScope ["number", "highest"] ["number", "highest"] (defScope s_is_within) := ⟨rfl, rfl, rfl, by decide +kernel, rfl, by decide +kernel, by decide +kernel⟩
abbrev s_has_known_numbers : Stmt := top 14
theorem sc_has_known_numbers : FnScope ["told", "ball"] ["told"] (defScope s_has_known_numbers) := ⟨rfl, rfl, rfl, by decide +kernel, rfl, by decide +kernel, by decide +kernel⟩
abbrev s_can_have_been : Stmt := top 15
theorem sc_can_have_been : FnScope ["told", "table", "gone", "ball"] ["told", "table"] (defScope s_can_have_been) := ⟨rfl, rfl, rfl, by decide +kernel, rfl, by decide +kernel, by decide +kernel⟩
abbrev s_Table_init : Stmt := inClass (top 19) 0
theorem sc_Table_init : FnScope ["self", "reds", "lowest", "on"] ["self", "reds", "lowest", "on"] (defScope s_Table_init) := ⟨rfl, rfl, rfl, by decide +kernel, rfl, by decide +kernel, by decide +kernel⟩
abbrev s_Table_how_many : Stmt := inClass (top 19) 1
theorem sc_Table_how_many : FnScope ["self", "ball"] ["self", "ball"] (defScope s_Table_how_many) := ⟨rfl, rfl, rfl, by decide +kernel, rfl, by decide +kernel, by decide +kernel⟩
abbrev s_Table_has_more_than_black : Stmt := inClass (top 19) 2
theorem sc_Table_has_more_than_black : FnScope ["self"] ["self"] (defScope s_Table_has_more_than_black) := ⟨rfl, rfl, rfl, by decide +kernel, rfl, by decide +kernel, by decide +kernel⟩
abbrev s_Table_left : Stmt := inClass (top 19) 3
theorem sc_Table_left : FnScope ["self", "with_reds"] ["self"] (defScope s_Table_left) := ⟨rfl, rfl, rfl, by decide +kernel, rfl, by decide +kernel, by decide +kernel⟩
abbrev s_table_in_round : Stmt := top 20
theorem sc_table_in_round : FnScope ["reds", "lowest"] ["reds", "lowest"] (defScope s_table_in_round) := ⟨rfl, rfl, rfl, by decide +kernel, rfl, by decide +kernel, by decide +kernel⟩
abbrev s_full_table : Stmt := top 21
theorem sc_full_table : FnScope [] [] (defScope s_full_table) := ⟨rfl, rfl, rfl, by decide +kernel, rfl, by decide +kernel, by decide +kernel⟩
abbrev s_black_alone : Stmt := top 22
theorem sc_black_alone : FnScope [] [] (defScope s_black_alone) := ⟨rfl, rfl, rfl, by decide +kernel, rfl, by decide +kernel, by decide +kernel⟩
abbrev s_Judgement_init : Stmt := inClass (top 25) 0
theorem sc_Judgement_init : FnScope ["self", "told", "table", "may_name_free"] ["self", "told", "table", "may_name_free"] (defScope s_Judgement_init) := ⟨rfl, rfl, rfl, by decide +kernel, rfl, by decide +kernel, by decide +kernel⟩
abbrev s_Judgement_is_rightly_hit : Stmt := inClass (top 25) 1
theorem sc_Judgement_is_rightly_hit : FnScope ["self"] ["self"] (defScope s_Judgement_is_rightly_hit) := ⟨rfl, rfl, rfl, by decide +kernel, rfl, by decide +kernel, by decide +kernel⟩
abbrev s_Judgement_wrongly_potted : Stmt := inClass (top 25) 2
theorem sc_Judgement_wrongly_potted : FnScope ["self", "ball"] ["self"] (defScope s_Judgement_wrongly_potted) := ⟨rfl, rfl, rfl, by decide +kernel, rfl, by decide +kernel, by decide +kernel⟩
abbrev s_Judgement_is_foul : Stmt := inClass (top 25) 3
theorem sc_Judgement_is_foul : FnScope ["self"] ["self"] (defScope s_Judgement_is_foul) := ⟨rfl, rfl, rfl, by decide +kernel, rfl, by decide +kernel, by decide +kernel⟩
abbrev s_Judgement_worth_of_on : Stmt := inClass (top 25) 4
theorem sc_Judgement_worth_of_on : FnScope ["self"] ["self"] (defScope s_Judgement_worth_of_on) := ⟨rfl, rfl, rfl, by decide +kernel, rfl, by decide +kernel, by decide +kernel⟩
abbrev s_Judgement_cost : Stmt := inClass (top 25) 5
theorem sc_Judgement_cost : FnScope ["self", "costs"] ["self"] (defScope s_Judgement_cost) := ⟨rfl, rfl, rfl, by decide +kernel, rfl, by decide +kernel, by decide +kernel⟩
abbrev s_Judgement_made : Stmt := inClass (top 25) 6
theorem sc_Judgement_made : FnScope ["self"] ["self"] (defScope s_Judgement_made) := ⟨rfl, rfl, rfl, by decide +kernel, rfl, by decide +kernel, by decide +kernel⟩
abbrev s_Judgement_table_behind_foul : Stmt := inClass (top 25) 7
theorem sc_Judgement_table_behind_foul : FnScope ["self"] ["self"] (defScope s_Judgement_table_behind_foul) := ⟨rfl, rfl, rfl, by decide +kernel, rfl, by decide +kernel, by decide +kernel⟩
abbrev s_Judgement_table_behind_fair : Stmt := inClass (top 25) 8
theorem sc_Judgement_table_behind_fair : FnScope ["self", "reds"] ["self"] (defScope s_Judgement_table_behind_fair) := ⟨rfl, rfl, rfl, by decide +kernel, rfl, by decide +kernel, by decide +kernel⟩
abbrev s_free_ball : Stmt := top 26
theorem sc_free_ball : FnScope ["told", "table", "may_name_free"] ["told", "table", "may_name_free"] (defScope s_free_ball) := ⟨rfl, rfl, rfl, by decide +kernel, rfl, by decide +kernel, by decide +kernel⟩
abbrev s_balls_on : Stmt := top 27
theorem sc_balls_on : FnScope ["told", "table", "free", "on"] ["told", "table", "free"] (defScope s_balls_on) := ⟨rfl, rfl, rfl, by decide +kernel, rfl, by decide +kernel, by decide +kernel⟩
abbrev s_Frame_init : Stmt := inClass (top 39) 0
theorem sc_Frame_init : FnScope ["self", "first"] ["self", "first"] (defScope s_Frame_init) := ⟨rfl, rfl, rfl, by decide +kernel, rfl, by decide +kernel, by decide +kernel⟩
abbrev s_Frame_close_choices : Stmt := inClass (top 39) 1
theorem sc_Frame_close_choices : FnScope ["self"] ["self"] (defScope s_Frame_close_choices) := ⟨rfl, rfl, rfl, by decide +kernel, rfl, by decide +kernel, by decide +kernel⟩
abbrev s_Frame_play : Stmt := inClass (top 39) 2
theorem sc_Frame_play : FnScope ["self", "told", "judgement"] ["self", "told"] (defScope s_Frame_play) := ⟨rfl, rfl, rfl, by decide +kernel, rfl, by decide +kernel, by decide +kernel⟩
abbrev s_Frame_play_fair : Stmt := inClass (top 39) 3
theorem sc_Frame_play_fair : FnScope ["self", "judgement", "made"] ["self", "judgement"] (defScope s_Frame_play_fair) := ⟨rfl, rfl, rfl, by decide +kernel, rfl, by decide +kernel, by decide +kernel⟩
abbrev s_Frame_play_foul : Stmt := inClass (top 39) 4
theorem sc_Frame_play_foul : FnScope ["self", "judgement", "cost", "may_be_called", "is_called"] ["self", "judgement"] (defScope s_Frame_play_foul) := ⟨rfl, rfl, rfl, by decide +kernel, rfl, by decide +kernel, by decide +kernel⟩
abbrev s_Frame_pass_turn : Stmt := inClass (top 39) 5
theorem sc_Frame_pass_turn : FnScope ["self"] ["self"] (defScope s_Frame_pass_turn) := ⟨rfl, rfl, rfl, by decide +kernel, rfl, by decide +kernel, by decide +kernel⟩
abbrev s_Frame_end_break : Stmt := inClass (top 39) 6
theorem sc_Frame_end_break : FnScope ["self", "player"] ["self"] (defScope s_Frame_end_break) := ⟨rfl, rfl, rfl, by decide +kernel, rfl, by decide +kernel, by decide +kernel⟩
abbrev s_Frame_can_call_miss : Stmt := inClass (top 39) 7
theorem sc_Frame_can_call_miss : FnScope ["self", "judgement"] ["self", "judgement"] (defScope s_Frame_can_call_miss) := ⟨rfl, rfl, rfl, by decide +kernel, rfl, by decide +kernel, by decide +kernel⟩
abbrev s_Frame_is_within_reach : Stmt := inClass (top 39) 8
theorem sc_Frame_is_within_reach : FnScope ["self"] ["self"] (defScope s_Frame_is_within_reach) := ⟨rfl, rfl, rfl, by decide +kernel, rfl, by decide +kernel, by decide +kernel⟩
abbrev s_Frame_count_miss : Stmt := inClass (top 39) 9
theorem sc_Frame_count_miss : FnScope ["self", "is_in_sight"] ["self", "is_in_sight"] (defScope s_Frame_count_miss) := ⟨rfl, rfl, rfl, by decide +kernel, rfl, by decide +kernel, by decide +kernel⟩
abbrev s_Frame_open_choices : Stmt := inClass (top 39) 10
theorem sc_Frame_open_choices : FnScope ["self", "told", "miss_is_called"] ["self", "told", "miss_is_called"] (defScope s_Frame_open_choices) := ⟨rfl, rfl, rfl, by decide +kernel, rfl, by decide +kernel, by decide +kernel⟩
abbrev s_Frame_settle : Stmt := inClass (top 39) 11
theorem sc_Frame_settle : FnScope ["self"] ["self"] (defScope s_Frame_settle) := ⟨rfl, rfl, rfl, by decide +kernel, rfl, by decide +kernel, by decide +kernel⟩
abbrev s_Frame_win : Stmt := inClass (top 39) 12
theorem sc_Frame_win : FnScope ["self", "player", "how"] ["self", "player", "how"] (defScope s_Frame_win) := ⟨rfl, rfl, rfl, by decide +kernel, rfl, by decide +kernel, by decide +kernel⟩
abbrev s_Frame_again : Stmt := inClass (top 39) 13
theorem sc_Frame_again : FnScope ["self"] ["self"] (defScope s_Frame_again) := ⟨rfl, rfl, rfl, by decide +kernel, rfl, by decide +kernel, by decide +kernel⟩
abbrev s_Frame_back : Stmt := inClass (top 39) 14
theorem sc_Frame_back : FnScope ["self"] ["self"] (defScope s_Frame_back) := ⟨rfl, rfl, rfl, by decide +kernel, rfl, by decide +kernel, by decide +kernel⟩
abbrev s_Frame_toss : Stmt := inClass (top 39) 15
theorem sc_Frame_toss : FnScope ["self", "who"] ["self", "who"] (defScope s_Frame_toss) := ⟨rfl, rfl, rfl, by decide +kernel, rfl, by decide +kernel, by decide +kernel⟩
abbrev s_Frame_give : Stmt := inClass (top 39) 16
theorem sc_Frame_give : FnScope ["self"] ["self"] (defScope s_Frame_give) := ⟨rfl, rfl, rfl, by decide +kernel, rfl, by decide +kernel, by decide +kernel⟩
abbrev s_Frame_fouls_needed : Stmt := inClass (top 39) 17
theorem sc_Frame_fouls_needed : FnScope ["self", "player", "short"] ["self", "player"] (defScope s_Frame_fouls_needed) := ⟨rfl, rfl, rfl, by decide +kernel, rfl, by decide +kernel, by decide +kernel⟩
abbrev s_Frame_as_it_stands : Stmt := inClass (top 39) 18
theorem sc_Frame_as_it_stands : FnScope ["self", "free", "on_table"] ["self"] (defScope s_Frame_as_it_stands) := ⟨rfl, rfl, rfl, by decide +kernel, rfl, by decide +kernel, by decide +kernel⟩
abbrev s_Frame_outcome : Stmt := inClass (top 39) 19
theorem sc_Frame_outcome : FnScope ["self"] ["self"] (defScope s_Frame_outcome) := ⟨rfl, rfl, rfl, by decide +kernel, rfl, by decide +kernel, by decide +kernel⟩
abbrev s_Reader_init : Stmt := inClass (top 41) 0
theorem sc_Reader_init : FnScope ["self", "source"] ["self", "source"] (defScope s_Reader_init) := ⟨rfl, rfl, rfl, by decide +kernel, rfl, by decide +kernel, by decide +kernel⟩
abbrev s_Reader_is_at_end : Stmt := inClass (top 41) 1
theorem sc_Reader_is_at_end : FnScope ["self"] ["self"] (defScope s_Reader_is_at_end) := ⟨rfl, rfl, rfl, by decide +kernel, rfl, by decide +kernel, by decide +kernel⟩
abbrev s_Reader_take_numbers : Stmt := inClass (top 41) 2
theorem sc_Reader_take_numbers : FnScope ["self", "how_many", "taken"] ["self", "how_many"] (defScope s_Reader_take_numbers) := ⟨rfl, rfl, rfl, by decide +kernel, rfl, by decide +kernel, by decide +kernel⟩
abbrev s_Reader_take_number : Stmt := inClass (top 41) 3
theorem sc_Reader_take_number : FnScope ["self"] ["self"] (defScope s_Reader_take_number) := ⟨rfl, rfl, rfl, by decide +kernel, rfl, by decide +kernel, by decide +kernel⟩
abbrev s_Reader_take_row : Stmt := inClass (top 41) 4
theorem sc_Reader_take_row : FnScope ["self"] ["self"] (defScope s_Reader_take_row) := ⟨rfl, rfl, rfl, by decide +kernel, rfl, by decide +kernel, by decide +kernel⟩
abbrev s_Match_init : Stmt := inClass (top 49) 0
theorem sc_Match_init : FnScope ["self"] ["self"] (defScope s_Match_init) := ⟨rfl, rfl, rfl, by decide +kernel, rfl, by decide +kernel, by decide +kernel⟩
abbrev s_Match_begin : Stmt := inClass (top 49) 1
theorem sc_Match_begin : FnScope ["self", "best", "first"] ["self", "best", "first"] (defScope s_Match_begin) := ⟨rfl, rfl, rfl, by decide +kernel, rfl, by decide +kernel, by decide +kernel⟩
abbrev s_Match_stroke : Stmt := inClass (top 49) 2
theorem sc_Match_stroke : FnScope ["self", "told", "refusal", "frame", "answer", "free"] ["self", "told"] (defScope s_Match_stroke) := ⟨rfl, rfl, rfl, by decide +kernel, rfl, by decide +kernel, by decide +kernel⟩
abbrev s_Match_refusal_of_stroke : Stmt := inClass (top 49) 3
theorem sc_Match_refusal_of_stroke : FnScope ["self", "told"] ["self", "told"] (defScope s_Match_refusal_of_stroke) := ⟨rfl, rfl, rfl, by decide +kernel, rfl, by decide +kernel, by decide +kernel⟩
abbrev s_Match_end_frame : Stmt := inClass (top 49) 4
theorem sc_Match_end_frame : FnScope ["self", "winner"] ["self"] (defScope s_Match_end_frame) := ⟨rfl, rfl, rfl, by decide +kernel, rfl, by decide +kernel, by decide +kernel⟩
abbrev s_Match_again : Stmt := inClass (top 49) 5
theorem sc_Match_again : FnScope ["self"] ["self"] (defScope s_Match_again) := ⟨rfl, rfl, rfl, by decide +kernel, rfl, by decide +kernel, by decide +kernel⟩
abbrev s_Match_back : Stmt := inClass (top 49) 6
theorem sc_Match_back : FnScope ["self"] ["self"] (defScope s_Match_back) := ⟨rfl, rfl, rfl, by decide +kernel, rfl, by decide +kernel, by decide +kernel⟩
abbrev s_Match_toss : Stmt := inClass (top 49) 7
theorem sc_Match_toss : FnScope ["self", "who"] ["self", "who"] (defScope s_Match_toss) := ⟨rfl, rfl, rfl, by decide +kernel, rfl, by decide +kernel, by decide +kernel⟩
abbrev s_Match_give : Stmt := inClass (top 49) 8
theorem sc_Match_give : FnScope ["self", "frame"] ["self"] (defScope s_Match_give) := ⟨rfl, rfl, rfl, by decide +kernel, rfl, by decide +kernel, by decide +kernel⟩
abbrev s_Match_now : Stmt := inClass (top 49) 9
theorem sc_Match_now : FnScope ["self"] ["self"] (defScope s_Match_now) := ⟨rfl, rfl, rfl, by decide +kernel, rfl, by decide +kernel, by decide +kernel⟩
abbrev s_Match_tell_frames : Stmt := inClass (top 49) 10
theorem sc_Match_tell_frames : FnScope ["self", "answer", "frame"] ["self"] (defScope s_Match_tell_frames) := ⟨rfl, rfl, rfl, by decide +kernel, rfl, by decide +kernel, by decide +kernel⟩
abbrev s_Match_tell_match : Stmt := inClass (top 49) 11
theorem sc_Match_tell_match : FnScope ["self", "state", "highest", "big"] ["self"] (defScope s_Match_tell_match) := ⟨rfl, rfl, rfl, by decide +kernel, rfl, by decide +kernel, by decide +kernel⟩
abbrev s_Match_highest_break : Stmt := inClass (top 49) 12
theorem sc_Match_highest_break : FnScope ["self", "player", "frame"] ["self", "player"] (defScope s_Match_highest_break) := ⟨rfl, rfl, rfl, by decide +kernel, rfl, by decide +kernel, by decide +kernel⟩
abbrev s_Match_count_big_breaks : Stmt := inClass (top 49) 13
theorem sc_Match_count_big_breaks : FnScope ["self", "player", "frame"] ["self", "player"] (defScope s_Match_count_big_breaks) := ⟨rfl, rfl, rfl, by decide +kernel, rfl, by decide +kernel, by decide +kernel⟩
abbrev s_is_player : Stmt := top 50
theorem sc_is_player : FnScope ["number"] ["number"] (defScope s_is_player) := ⟨rfl, rfl, rfl, by decide +kernel, rfl, by decide +kernel, by decide +kernel⟩
abbrev s_call_begin : Stmt := top 51
theorem sc_call_begin : FnScope ["the_match", "reader", "numbers"] ["the_match", "reader"] (defScope s_call_begin) := ⟨rfl, rfl, rfl, by decide +kernel, rfl, by decide +kernel, by decide +kernel⟩
abbrev s_call_stroke : Stmt := top 52
theorem sc_call_stroke : FnScope ["the_match", "reader", "numbers", "potted", "off"] ["the_match", "reader"] (defScope s_call_stroke) := ⟨rfl, rfl, rfl, by decide +kernel, rfl, by decide +kernel, by decide +kernel⟩
abbrev s_call_again : Stmt := top 53
theorem sc_call_again : FnScope ["the_match", "reader"] ["the_match", "reader"] (defScope s_call_again) := ⟨rfl, rfl, rfl, by decide +kernel, rfl, by decide +kernel, by decide +kernel⟩
abbrev s_call_back : Stmt := top 54
theorem sc_call_back : FnScope ["the_match", "reader"] ["the_match", "reader"] (defScope s_call_back) := ⟨rfl, rfl, rfl, by decide +kernel, rfl, by decide +kernel, by decide +kernel⟩
abbrev s_call_toss : Stmt := top 55
theorem sc_call_toss : FnScope ["the_match", "reader"] ["the_match", "reader"] (defScope s_call_toss) := ⟨rfl, rfl, rfl, by decide +kernel, rfl, by decide +kernel, by decide +kernel⟩
abbrev s_call_give : Stmt := top 56
theorem sc_call_give : FnScope ["the_match", "reader"] ["the_match", "reader"] (defScope s_call_give) := ⟨rfl, rfl, rfl, by decide +kernel, rfl, by decide +kernel, by decide +kernel⟩
abbrev s_call_now : Stmt := top 57
theorem sc_call_now : FnScope ["the_match", "reader"] ["the_match", "reader"] (defScope s_call_now) := ⟨rfl, rfl, rfl, by decide +kernel, rfl, by decide +kernel, by decide +kernel⟩
abbrev s_call_frames : Stmt := top 58
theorem sc_call_frames : FnScope ["the_match", "reader"] ["the_match", "reader"] (defScope s_call_frames) := ⟨rfl, rfl, rfl, by decide +kernel, rfl, by decide +kernel, by decide +kernel⟩
abbrev s_call_match : Stmt := top 59
theorem sc_call_match : FnScope ["the_match", "reader"] ["the_match", "reader"] (defScope s_call_match) := ⟨rfl, rfl, rfl, by decide +kernel, rfl, by decide +kernel, by decide +kernel⟩
abbrev s_answers : Stmt := top 61
theorem sc_answers : FnScope ["calls", "reader", "the_match", "given", "number", "answer"] ["calls"] (defScope s_answers) := ⟨rfl, rfl, rfl, by decide +kernel, rfl, by decide +kernel, by decide +kernel⟩
structure Fn where
  f : Addr
  fd : FuncData
structure AdStroke where
  c : Addr
  init : Fn
  names_colour : Fn
  reds_gone : Fn
structure AdTable where
  c : Addr
  init : Fn
  how_many : Fn
  has_more_than_black : Fn
  left : Fn
structure AdJudgement where
  c : Addr
  init : Fn
  is_rightly_hit : Fn
  wrongly_potted : Fn
  is_foul : Fn
  worth_of_on : Fn
  cost : Fn
  made : Fn
  table_behind_foul : Fn
  table_behind_fair : Fn
structure AdFrame where
  c : Addr
  init : Fn
  close_choices : Fn
  play : Fn
  play_fair : Fn
  play_foul : Fn
  pass_turn : Fn
  end_break : Fn
  can_call_miss : Fn
  is_within_reach : Fn
  count_miss : Fn
  open_choices : Fn
  settle : Fn
  win : Fn
  again : Fn
  back : Fn
  toss : Fn
  give : Fn
  fouls_needed : Fn
  as_it_stands : Fn
  outcome : Fn
structure AdReader where
  c : Addr
  init : Fn
  is_at_end : Fn
  take_numbers : Fn
  take_number : Fn
  take_row : Fn
structure AdMatch where
  c : Addr
  init : Fn
  begin : Fn
  stroke : Fn
  refusal_of_stroke : Fn
  end_frame : Fn
  again : Fn
  back : Fn
  toss : Fn
  give : Fn
  now : Fn
  tell_frames : Fn
  tell_match : Fn
  highest_break : Fn
  count_big_breaks : Fn
structure AdFuncs where
  other : Fn
  is_within : Fn
  has_known_numbers : Fn
  can_have_been : Fn
  table_in_round : Fn
  full_table : Fn
  black_alone : Fn
  free_ball : Fn
  balls_on : Fn
  is_player : Fn
  call_begin : Fn
  call_stroke : Fn
  call_again : Fn
  call_back : Fn
  call_toss : Fn
  call_give : Fn
  call_now : Fn
  call_frames : Fn
  call_match : Fn
  answers : Fn
structure Adr where
  Stroke : AdStroke
  Table : AdTable
  Judgement : AdJudgement
  Frame : AdFrame
  Reader : AdReader
  Match : AdMatch
  fs : AdFuncs
structure TxStroke (K : PySem.W.Frag) (mg : Str → Option Value) (A : AdStroke) : Prop where
  cl : Cls K A.c
  m : mg "Stroke" = some (.ref A.c)
  mak : Mk K A.c A.init.f
  na_named : NoAttr K A.c "named"
  na_hit : NoAttr K A.c "hit"
  na_conduct : NoAttr K A.c "conduct"
  na_hidden : NoAttr K A.c "hidden"
  na_miss : NoAttr K A.c "miss"
  na_potted : NoAttr K A.c "potted"
  na_off : NoAttr K A.c "off"
  F_init : Fun K "__init__" "Stroke.__init__" s_Stroke_init A.init.f A.init.fd
  b_init : Binds K A.init.fd ["self", "numbers", "potted", "off"] []
  F_names_colour : Fun K "names_colour" "Stroke.names_colour" s_Stroke_names_colour A.names_colour.f A.names_colour.fd
  b_names_colour : Binds K A.names_colour.fd ["self"] []
  t_names_colour : Meth K A.c "names_colour" A.names_colour.f
  F_reds_gone : Fun K "reds_gone" "Stroke.reds_gone" s_Stroke_reds_gone A.reds_gone.f A.reds_gone.fd
  b_reds_gone : Binds K A.reds_gone.fd ["self"] []
  t_reds_gone : Meth K A.c "reds_gone" A.reds_gone.f
structure TxTable (K : PySem.W.Frag) (mg : Str → Option Value) (A : AdTable) : Prop where
  cl : Cls K A.c
  m : mg "Table" = some (.ref A.c)
  mak : Mk K A.c A.init.f
  na_reds : NoAttr K A.c "reds"
  na_lowest : NoAttr K A.c "lowest"
  na_on : NoAttr K A.c "on"
  F_init : Fun K "__init__" "Table.__init__" s_Table_init A.init.f A.init.fd
  b_init : Binds K A.init.fd ["self", "reds", "lowest", "on"] []
  F_how_many : Fun K "how_many" "Table.how_many" s_Table_how_many A.how_many.f A.how_many.fd
  b_how_many : Binds K A.how_many.fd ["self", "ball"] []
  t_how_many : Meth K A.c "how_many" A.how_many.f
  F_has_more_than_black : Fun K "has_more_than_black" "Table.has_more_than_black" s_Table_has_more_than_black A.has_more_than_black.f A.has_more_than_black.fd
  b_has_more_than_black : Binds K A.has_more_than_black.fd ["self"] []
  t_has_more_than_black : Meth K A.c "has_more_than_black" A.has_more_than_black.f
  F_left : Fun K "left" "Table.left" s_Table_left A.left.f A.left.fd
  b_left : Binds K A.left.fd ["self"] []
  t_left : Meth K A.c "left" A.left.f
structure TxJudgement (K : PySem.W.Frag) (mg : Str → Option Value) (A : AdJudgement) : Prop where
  cl : Cls K A.c
  m : mg "Judgement" = some (.ref A.c)
  mak : Mk K A.c A.init.f
  na_told : NoAttr K A.c "told"
  na_table : NoAttr K A.c "table"
  na_free : NoAttr K A.c "free"
  na_all_on : NoAttr K A.c "all_on"
  F_init : Fun K "__init__" "Judgement.__init__" s_Judgement_init A.init.f A.init.fd
  b_init : Binds K A.init.fd ["self", "told", "table", "may_name_free"] []
  F_is_rightly_hit : Fun K "is_rightly_hit" "Judgement.is_rightly_hit" s_Judgement_is_rightly_hit A.is_rightly_hit.f A.is_rightly_hit.fd
  b_is_rightly_hit : Binds K A.is_rightly_hit.fd ["self"] []
  t_is_rightly_hit : Meth K A.c "is_rightly_hit" A.is_rightly_hit.f
  F_wrongly_potted : Fun K "wrongly_potted" "Judgement.wrongly_potted" s_Judgement_wrongly_potted A.wrongly_potted.f A.wrongly_potted.fd
  b_wrongly_potted : Binds K A.wrongly_potted.fd ["self"] []
  t_wrongly_potted : Meth K A.c "wrongly_potted" A.wrongly_potted.f
  F_is_foul : Fun K "is_foul" "Judgement.is_foul" s_Judgement_is_foul A.is_foul.f A.is_foul.fd
  b_is_foul : Binds K A.is_foul.fd ["self"] []
  t_is_foul : Meth K A.c "is_foul" A.is_foul.f
  F_worth_of_on : Fun K "worth_of_on" "Judgement.worth_of_on" s_Judgement_worth_of_on A.worth_of_on.f A.worth_of_on.fd
  b_worth_of_on : Binds K A.worth_of_on.fd ["self"] []
  t_worth_of_on : Meth K A.c "worth_of_on" A.worth_of_on.f
  F_cost : Fun K "cost" "Judgement.cost" s_Judgement_cost A.cost.f A.cost.fd
  b_cost : Binds K A.cost.fd ["self"] []
  t_cost : Meth K A.c "cost" A.cost.f
  F_made : Fun K "made" "Judgement.made" s_Judgement_made A.made.f A.made.fd
  b_made : Binds K A.made.fd ["self"] []
  t_made : Meth K A.c "made" A.made.f
  F_table_behind_foul : Fun K "table_behind_foul" "Judgement.table_behind_foul" s_Judgement_table_behind_foul A.table_behind_foul.f A.table_behind_foul.fd
  b_table_behind_foul : Binds K A.table_behind_foul.fd ["self"] []
  t_table_behind_foul : Meth K A.c "table_behind_foul" A.table_behind_foul.f
  F_table_behind_fair : Fun K "table_behind_fair" "Judgement.table_behind_fair" s_Judgement_table_behind_fair A.table_behind_fair.f A.table_behind_fair.fd
  b_table_behind_fair : Binds K A.table_behind_fair.fd ["self"] []
  t_table_behind_fair : Meth K A.c "table_behind_fair" A.table_behind_fair.f
structure TxFrame (K : PySem.W.Frag) (mg : Str → Option Value) (A : AdFrame) : Prop where
  cl : Cls K A.c
  m : mg "Frame" = some (.ref A.c)
  mak : Mk K A.c A.init.f
  na_points : NoAttr K A.c "points"
  na_turn : NoAttr K A.c "turn"
  na_table : NoAttr K A.c "table"
  na_winner : NoAttr K A.c "winner"
  na_how : NoAttr K A.c "how"
  na_break_so_far : NoAttr K A.c "break_so_far"
  na_highest_breaks : NoAttr K A.c "highest_breaks"
  na_big_breaks : NoAttr K A.c "big_breaks"
  na_misses : NoAttr K A.c "misses"
  na_table_if_back : NoAttr K A.c "table_if_back"
  na_misses_if_back : NoAttr K A.c "misses_if_back"
  na_may_name_free : NoAttr K A.c "may_name_free"
  na_may_again : NoAttr K A.c "may_again"
  na_may_back : NoAttr K A.c "may_back"
  F_init : Fun K "__init__" "Frame.__init__" s_Frame_init A.init.f A.init.fd
  b_init : Binds K A.init.fd ["self", "first"] []
  F_close_choices : Fun K "close_choices" "Frame.close_choices" s_Frame_close_choices A.close_choices.f A.close_choices.fd
  b_close_choices : Binds K A.close_choices.fd ["self"] []
  t_close_choices : Meth K A.c "close_choices" A.close_choices.f
  F_play : Fun K "play" "Frame.play" s_Frame_play A.play.f A.play.fd
  b_play : Binds K A.play.fd ["self", "told"] []
  t_play : Meth K A.c "play" A.play.f
  F_play_fair : Fun K "play_fair" "Frame.play_fair" s_Frame_play_fair A.play_fair.f A.play_fair.fd
  b_play_fair : Binds K A.play_fair.fd ["self", "judgement"] []
  t_play_fair : Meth K A.c "play_fair" A.play_fair.f
  F_play_foul : Fun K "play_foul" "Frame.play_foul" s_Frame_play_foul A.play_foul.f A.play_foul.fd
  b_play_foul : Binds K A.play_foul.fd ["self", "judgement"] []
  t_play_foul : Meth K A.c "play_foul" A.play_foul.f
  F_pass_turn : Fun K "pass_turn" "Frame.pass_turn" s_Frame_pass_turn A.pass_turn.f A.pass_turn.fd
  b_pass_turn : Binds K A.pass_turn.fd ["self"] []
  t_pass_turn : Meth K A.c "pass_turn" A.pass_turn.f
  F_end_break : Fun K "end_break" "Frame.end_break" s_Frame_end_break A.end_break.f A.end_break.fd
  b_end_break : Binds K A.end_break.fd ["self"] []
  t_end_break : Meth K A.c "end_break" A.end_break.f
  F_can_call_miss : Fun K "can_call_miss" "Frame.can_call_miss" s_Frame_can_call_miss A.can_call_miss.f A.can_call_miss.fd
  b_can_call_miss : Binds K A.can_call_miss.fd ["self", "judgement"] []
  t_can_call_miss : Meth K A.c "can_call_miss" A.can_call_miss.f
  F_is_within_reach : Fun K "is_within_reach" "Frame.is_within_reach" s_Frame_is_within_reach A.is_within_reach.f A.is_within_reach.fd
  b_is_within_reach : Binds K A.is_within_reach.fd ["self"] []
  t_is_within_reach : Meth K A.c "is_within_reach" A.is_within_reach.f
  F_count_miss : Fun K "count_miss" "Frame.count_miss" s_Frame_count_miss A.count_miss.f A.count_miss.fd
  b_count_miss : Binds K A.count_miss.fd ["self", "is_in_sight"] []
  t_count_miss : Meth K A.c "count_miss" A.count_miss.f
  F_open_choices : Fun K "open_choices" "Frame.open_choices" s_Frame_open_choices A.open_choices.f A.open_choices.fd
  b_open_choices : Binds K A.open_choices.fd ["self", "told", "miss_is_called"] []
  t_open_choices : Meth K A.c "open_choices" A.open_choices.f
  F_settle : Fun K "settle" "Frame.settle" s_Frame_settle A.settle.f A.settle.fd
  b_settle : Binds K A.settle.fd ["self"] []
  t_settle : Meth K A.c "settle" A.settle.f
  F_win : Fun K "win" "Frame.win" s_Frame_win A.win.f A.win.fd
  b_win : Binds K A.win.fd ["self", "player", "how"] []
  t_win : Meth K A.c "win" A.win.f
  F_again : Fun K "again" "Frame.again" s_Frame_again A.again.f A.again.fd
  b_again : Binds K A.again.fd ["self"] []
  t_again : Meth K A.c "again" A.again.f
  F_back : Fun K "back" "Frame.back" s_Frame_back A.back.f A.back.fd
  b_back : Binds K A.back.fd ["self"] []
  t_back : Meth K A.c "back" A.back.f
  F_toss : Fun K "toss" "Frame.toss" s_Frame_toss A.toss.f A.toss.fd
  b_toss : Binds K A.toss.fd ["self", "who"] []
  t_toss : Meth K A.c "toss" A.toss.f
  F_give : Fun K "give" "Frame.give" s_Frame_give A.give.f A.give.fd
  b_give : Binds K A.give.fd ["self"] []
  t_give : Meth K A.c "give" A.give.f
  F_fouls_needed : Fun K "fouls_needed" "Frame.fouls_needed" s_Frame_fouls_needed A.fouls_needed.f A.fouls_needed.fd
  b_fouls_needed : Binds K A.fouls_needed.fd ["self", "player"] []
  t_fouls_needed : Meth K A.c "fouls_needed" A.fouls_needed.f
  F_as_it_stands : Fun K "as_it_stands" "Frame.as_it_stands" s_Frame_as_it_stands A.as_it_stands.f A.as_it_stands.fd
  b_as_it_stands : Binds K A.as_it_stands.fd ["self"] []
  t_as_it_stands : Meth K A.c "as_it_stands" A.as_it_stands.f
  F_outcome : Fun K "outcome" "Frame.outcome" s_Frame_outcome A.outcome.f A.outcome.fd
  b_outcome : Binds K A.outcome.fd ["self"] []
  t_outcome : Meth K A.c "outcome" A.outcome.f
structure TxReader (K : PySem.W.Frag) (mg : Str → Option Value) (A : AdReader) : Prop where
  cl : Cls K A.c
  m : mg "Reader" = some (.ref A.c)
  mak : Mk K A.c A.init.f
  na_source : NoAttr K A.c "source"
  na_at : NoAttr K A.c "at"
  F_init : Fun K "__init__" "Reader.__init__" s_Reader_init A.init.f A.init.fd
  b_init : Binds K A.init.fd ["self", "source"] []
  F_is_at_end : Fun K "is_at_end" "Reader.is_at_end" s_Reader_is_at_end A.is_at_end.f A.is_at_end.fd
  b_is_at_end : Binds K A.is_at_end.fd ["self"] []
  t_is_at_end : Meth K A.c "is_at_end" A.is_at_end.f
  F_take_numbers : Fun K "take_numbers" "Reader.take_numbers" s_Reader_take_numbers A.take_numbers.f A.take_numbers.fd
  b_take_numbers : Binds K A.take_numbers.fd ["self", "how_many"] []
  t_take_numbers : Meth K A.c "take_numbers" A.take_numbers.f
  F_take_number : Fun K "take_number" "Reader.take_number" s_Reader_take_number A.take_number.f A.take_number.fd
  b_take_number : Binds K A.take_number.fd ["self"] []
  t_take_number : Meth K A.c "take_number" A.take_number.f
  F_take_row : Fun K "take_row" "Reader.take_row" s_Reader_take_row A.take_row.f A.take_row.fd
  b_take_row : Binds K A.take_row.fd ["self"] []
  t_take_row : Meth K A.c "take_row" A.take_row.f
structure TxMatch (K : PySem.W.Frag) (mg : Str → Option Value) (A : AdMatch) : Prop where
  cl : Cls K A.c
  m : mg "Match" = some (.ref A.c)
  mak : Mk K A.c A.init.f
  na_best : NoAttr K A.c "best"
  na_won : NoAttr K A.c "won"
  na_starter : NoAttr K A.c "starter"
  na_frame : NoAttr K A.c "frame"
  na_frames_over : NoAttr K A.c "frames_over"
  F_init : Fun K "__init__" "Match.__init__" s_Match_init A.init.f A.init.fd
  b_init : Binds K A.init.fd ["self"] []
  F_begin : Fun K "begin" "Match.begin" s_Match_begin A.begin.f A.begin.fd
  b_begin : Binds K A.begin.fd ["self", "best", "first"] []
  t_begin : Meth K A.c "begin" A.begin.f
  F_stroke : Fun K "stroke" "Match.stroke" s_Match_stroke A.stroke.f A.stroke.fd
  b_stroke : Binds K A.stroke.fd ["self", "told"] []
  t_stroke : Meth K A.c "stroke" A.stroke.f
  F_refusal_of_stroke : Fun K "refusal_of_stroke" "Match.refusal_of_stroke" s_Match_refusal_of_stroke A.refusal_of_stroke.f A.refusal_of_stroke.fd
  b_refusal_of_stroke : Binds K A.refusal_of_stroke.fd ["self", "told"] []
  t_refusal_of_stroke : Meth K A.c "refusal_of_stroke" A.refusal_of_stroke.f
  F_end_frame : Fun K "end_frame" "Match.end_frame" s_Match_end_frame A.end_frame.f A.end_frame.fd
  b_end_frame : Binds K A.end_frame.fd ["self"] []
  t_end_frame : Meth K A.c "end_frame" A.end_frame.f
  F_again : Fun K "again" "Match.again" s_Match_again A.again.f A.again.fd
  b_again : Binds K A.again.fd ["self"] []
  t_again : Meth K A.c "again" A.again.f
  F_back : Fun K "back" "Match.back" s_Match_back A.back.f A.back.fd
  b_back : Binds K A.back.fd ["self"] []
  t_back : Meth K A.c "back" A.back.f
  F_toss : Fun K "toss" "Match.toss" s_Match_toss A.toss.f A.toss.fd
  b_toss : Binds K A.toss.fd ["self", "who"] []
  t_toss : Meth K A.c "toss" A.toss.f
  F_give : Fun K "give" "Match.give" s_Match_give A.give.f A.give.fd
  b_give : Binds K A.give.fd ["self"] []
  t_give : Meth K A.c "give" A.give.f
  F_now : Fun K "now" "Match.now" s_Match_now A.now.f A.now.fd
  b_now : Binds K A.now.fd ["self"] []
  t_now : Meth K A.c "now" A.now.f
  F_tell_frames : Fun K "tell_frames" "Match.tell_frames" s_Match_tell_frames A.tell_frames.f A.tell_frames.fd
  b_tell_frames : Binds K A.tell_frames.fd ["self"] []
  t_tell_frames : Meth K A.c "tell_frames" A.tell_frames.f
  F_tell_match : Fun K "tell_match" "Match.tell_match" s_Match_tell_match A.tell_match.f A.tell_match.fd
  b_tell_match : Binds K A.tell_match.fd ["self"] []
  t_tell_match : Meth K A.c "tell_match" A.tell_match.f
  F_highest_break : Fun K "highest_break" "Match.highest_break" s_Match_highest_break A.highest_break.f A.highest_break.fd
  b_highest_break : Binds K A.highest_break.fd ["self", "player"] []
  t_highest_break : Meth K A.c "highest_break" A.highest_break.f
  F_count_big_breaks : Fun K "count_big_breaks" "Match.count_big_breaks" s_Match_count_big_breaks A.count_big_breaks.f A.count_big_breaks.fd
  b_count_big_breaks : Binds K A.count_big_breaks.fd ["self", "player"] []
  t_count_big_breaks : Meth K A.c "count_big_breaks" A.count_big_breaks.f
structure TxFuncs (K : PySem.W.Frag) (mg : Str → Option Value) (A : AdFuncs) : Prop where
  F_other : Fun K "other" "other" s_other A.other.f A.other.fd
  b_other : Binds K A.other.fd ["player"] []
  m_other : mg "other" = some (.ref A.other.f)
  F_is_within : Fun K "is_within" "is_within" s_is_within A.is_within.f A.is_within.fd
  b_is_within : Binds K A.is_within.fd ["number", "highest"] []
  m_is_within : mg "is_within" = some (.ref A.is_within.f)
  F_has_known_numbers : Fun K "has_known_numbers" "has_known_numbers" s_has_known_numbers A.has_known_numbers.f A.has_known_numbers.fd
  b_has_known_numbers : Binds K A.has_known_numbers.fd ["told"] []
  m_has_known_numbers : mg "has_known_numbers" = some (.ref A.has_known_numbers.f)
  F_can_have_been : Fun K "can_have_been" "can_have_been" s_can_have_been A.can_have_been.f A.can_have_been.fd
  b_can_have_been : Binds K A.can_have_been.fd ["told", "table"] []
  m_can_have_been : mg "can_have_been" = some (.ref A.can_have_been.f)
  F_table_in_round : Fun K "table_in_round" "table_in_round" s_table_in_round A.table_in_round.f A.table_in_round.fd
  b_table_in_round : Binds K A.table_in_round.fd ["reds", "lowest"] []
  m_table_in_round : mg "table_in_round" = some (.ref A.table_in_round.f)
  F_full_table : Fun K "full_table" "full_table" s_full_table A.full_table.f A.full_table.fd
  b_full_table : Binds K A.full_table.fd [] []
  m_full_table : mg "full_table" = some (.ref A.full_table.f)
  F_black_alone : Fun K "black_alone" "black_alone" s_black_alone A.black_alone.f A.black_alone.fd
  b_black_alone : Binds K A.black_alone.fd [] []
  m_black_alone : mg "black_alone" = some (.ref A.black_alone.f)
  F_free_ball : Fun K "free_ball" "free_ball" s_free_ball A.free_ball.f A.free_ball.fd
  b_free_ball : Binds K A.free_ball.fd ["told", "table", "may_name_free"] []
  m_free_ball : mg "free_ball" = some (.ref A.free_ball.f)
  F_balls_on : Fun K "balls_on" "balls_on" s_balls_on A.balls_on.f A.balls_on.fd
  b_balls_on : Binds K A.balls_on.fd ["told", "table", "free"] []
  m_balls_on : mg "balls_on" = some (.ref A.balls_on.f)
  F_is_player : Fun K "is_player" "is_player" s_is_player A.is_player.f A.is_player.fd
  b_is_player : Binds K A.is_player.fd ["number"] []
  m_is_player : mg "is_player" = some (.ref A.is_player.f)
  F_call_begin : Fun K "call_begin" "call_begin" s_call_begin A.call_begin.f A.call_begin.fd
  b_call_begin : Binds K A.call_begin.fd ["the_match", "reader"] []
  m_call_begin : mg "call_begin" = some (.ref A.call_begin.f)
  F_call_stroke : Fun K "call_stroke" "call_stroke" s_call_stroke A.call_stroke.f A.call_stroke.fd
  b_call_stroke : Binds K A.call_stroke.fd ["the_match", "reader"] []
  m_call_stroke : mg "call_stroke" = some (.ref A.call_stroke.f)
  F_call_again : Fun K "call_again" "call_again" s_call_again A.call_again.f A.call_again.fd
  b_call_again : Binds K A.call_again.fd ["the_match", "reader"] []
  m_call_again : mg "call_again" = some (.ref A.call_again.f)
  F_call_back : Fun K "call_back" "call_back" s_call_back A.call_back.f A.call_back.fd
  b_call_back : Binds K A.call_back.fd ["the_match", "reader"] []
  m_call_back : mg "call_back" = some (.ref A.call_back.f)
  F_call_toss : Fun K "call_toss" "call_toss" s_call_toss A.call_toss.f A.call_toss.fd
  b_call_toss : Binds K A.call_toss.fd ["the_match", "reader"] []
  m_call_toss : mg "call_toss" = some (.ref A.call_toss.f)
  F_call_give : Fun K "call_give" "call_give" s_call_give A.call_give.f A.call_give.fd
  b_call_give : Binds K A.call_give.fd ["the_match", "reader"] []
  m_call_give : mg "call_give" = some (.ref A.call_give.f)
  F_call_now : Fun K "call_now" "call_now" s_call_now A.call_now.f A.call_now.fd
  b_call_now : Binds K A.call_now.fd ["the_match", "reader"] []
  m_call_now : mg "call_now" = some (.ref A.call_now.f)
  F_call_frames : Fun K "call_frames" "call_frames" s_call_frames A.call_frames.f A.call_frames.fd
  b_call_frames : Binds K A.call_frames.fd ["the_match", "reader"] []
  m_call_frames : mg "call_frames" = some (.ref A.call_frames.f)
  F_call_match : Fun K "call_match" "call_match" s_call_match A.call_match.f A.call_match.fd
  b_call_match : Binds K A.call_match.fd ["the_match", "reader"] []
  m_call_match : mg "call_match" = some (.ref A.call_match.f)
  F_answers : Fun K "answers" "answers" s_answers A.answers.f A.answers.fd
  b_answers : Binds K A.answers.fd ["calls"] []
  m_answers : mg "answers" = some (.ref A.answers.f)
structure TxConst (mg : Str → Option Value) : Prop where
  c_WHITE : ∃ t, mg "WHITE" = some (.int 0 t)
  c_RED : ∃ t, mg "RED" = some (.int 1 t)
  c_YELLOW : ∃ t, mg "YELLOW" = some (.int 2 t)
  c_BLACK : ∃ t, mg "BLACK" = some (.int 7 t)
  c_ALL_REDS : ∃ t, mg "ALL_REDS" = some (.int 15 t)
  c_NOTHING : ∃ t, mg "NOTHING" = some (.int 0 t)
  c_ANY_COLOUR : ∃ t, mg "ANY_COLOUR" = some (.int 0 t)
  c_ABOUT_NO_BALL : ∃ t, mg "ABOUT_NO_BALL" = some (.int 8 t)
  c_MISS_IN_SIGHT : ∃ t, mg "MISS_IN_SIGHT" = some (.int 2 t)
  c_ALL_COLOURS_WORTH : ∃ t, mg "ALL_COLOURS_WORTH" = some (.int 27 t)
  c_RED_AND_BLACK_WORTH : ∃ t, mg "RED_AND_BLACK_WORTH" = some (.int 8 t)
  c_LEAST_COST : ∃ t, mg "LEAST_COST" = some (.int 4 t)
  c_NOBODY : ∃ t, mg "NOBODY" = some (.int 2 t)
  c_TO_BE_TOSSED : ∃ t, mg "TO_BE_TOSSED" = some (.int 2 t)
  c_MISSES_THAT_LOSE : ∃ t, mg "MISSES_THAT_LOSE" = some (.int 3 t)
  c_MADE_NOTHING : ∃ t, mg "MADE_NOTHING" = some (.int 0 t)
  c_MADE_SOMETHING : ∃ t, mg "MADE_SOMETHING" = some (.int 1 t)
  c_FOUL : ∃ t, mg "FOUL" = some (.int 2 t)
  c_PLAYED_OUT : ∃ t, mg "PLAYED_OUT" = some (.int 0 t)
  c_GIVEN_UP : ∃ t, mg "GIVEN_UP" = some (.int 1 t)
  c_LOST_BY_MISSES : ∃ t, mg "LOST_BY_MISSES" = some (.int 2 t)
  c_BIG_BREAK : ∃ t, mg "BIG_BREAK" = some (.int 100 t)
  c_MOST_FRAMES : ∃ t, mg "MOST_FRAMES" = some (.int 35 t)
  c_UNKNOWN_NUMBER : ∃ t, mg "UNKNOWN_NUMBER" = some (.int (-1) t)
  c_NO_FRAME : ∃ t, mg "NO_FRAME" = some (.int (-2) t)
  c_TOSS_FIRST : ∃ t, mg "TOSS_FIRST" = some (.int (-3) t)
  c_CANNOT_HAVE_BEEN : ∃ t, mg "CANNOT_HAVE_BEEN" = some (.int (-4) t)
  c_NOT_NOW : ∃ t, mg "NOT_NOW" = some (.int (-5) t)
  b_len : mg "len" = none
  b_max : mg "max" = none
  b_sum : mg "sum" = none
  b_any : mg "any" = none
  b_all : mg "all" = none
  b_abs : mg "abs" = none
  b_range : mg "range" = none
structure Txt (K : PySem.W.Frag) (mg : Str → Option Value) (A : Adr) : Prop where
  Stroke : TxStroke K mg A.Stroke
  Table : TxTable K mg A.Table
  Judgement : TxJudgement K mg A.Judgement
  Frame : TxFrame K mg A.Frame
  Reader : TxReader K mg A.Reader
  Match : TxMatch K mg A.Match
  fs : TxFuncs K mg A.fs
  k : TxConst mg
  d_CALLS : KDict K mg "CALLS" [(1, A.fs.call_begin.f), (2, A.fs.call_stroke.f), (3, A.fs.call_again.f), (4, A.fs.call_back.f), (5, A.fs.call_toss.f), (6, A.fs.call_give.f), (7, A.fs.call_now.f), (8, A.fs.call_frames.f), (9, A.fs.call_match.f)]
/-! ### how the facts are made -/
theorem tx_Stroke {K : PySem.W.Frag} {h : Heap} {mg : Str → Option Value} {C f0 f1 f2 : Addr} (X : K.In h) (G : h.Ns mainGlobals mg)
    {od0 an0 od1 an1 od2 an2 : Option Addr} {sl0 sl1 sl2 : Array (Option Value)} {oc0 kV0 dc0 pm0 cd0 ct0 oc1 kV1 dc1 pm1 cd1 ct1 oc2 kV2 dc2 pm2 cd2 ct2 : Value}
    (aC : PySem.W.nsIn K mainGlobals "Stroke" = some (some (.ref C)))
    (a0 : PySem.W.findIn K (.ref C) "__init__" = some (some (.ref f0))) (i0 : PySem.W.isFn K (.ref f0) = true) (l0 : K.lookup f0 = some ⟨oc0, od0, .func (PySem.W.fnOf "__init__" "Stroke.__init__" (defArgs s_Stroke_init) (defBody s_Stroke_init) (defScope s_Stroke_init) .none kV0 dc0 pm0 an0 cd0 ct0), sl0⟩) (c0 : PySem.W.codeIn K cd0 "Stroke.__init__" = true) (k0 : PySem.W.keepIn K (.ref f0) = true)
    (a1 : PySem.W.findIn K (.ref C) "names_colour" = some (some (.ref f1))) (i1 : PySem.W.isFn K (.ref f1) = true) (l1 : K.lookup f1 = some ⟨oc1, od1, .func (PySem.W.fnOf "names_colour" "Stroke.names_colour" (defArgs s_Stroke_names_colour) (defBody s_Stroke_names_colour) (defScope s_Stroke_names_colour) .none kV1 dc1 pm1 an1 cd1 ct1), sl1⟩) (c1 : PySem.W.codeIn K cd1 "Stroke.names_colour" = true) (k1 : PySem.W.keepIn K (.ref f1) = true)
    (a2 : PySem.W.findIn K (.ref C) "reds_gone" = some (some (.ref f2))) (i2 : PySem.W.isFn K (.ref f2) = true) (l2 : K.lookup f2 = some ⟨oc2, od2, .func (PySem.W.fnOf "reds_gone" "Stroke.reds_gone" (defArgs s_Stroke_reds_gone) (defBody s_Stroke_reds_gone) (defScope s_Stroke_reds_gone) .none kV2 dc2 pm2 an2 cd2 ct2), sl2⟩) (c2 : PySem.W.codeIn K cd2 "Stroke.reds_gone" = true) (k2 : PySem.W.keepIn K (.ref f2) = true)
    (pg : PySem.W.plainGet K C Str.empty = true) (hd : PySem.W.hasDictIn K C = true) (po : PySem.W.plainOver K C = true) (sa : PySem.W.findIn K (.ref C) "__setattr__" = some (some (.builtin "object.__setattr__"))) (mk : PySem.W.makesIn K C = true) (kc : PySem.W.keepIn K (.ref C) = true)
    (n_named : PySem.W.findIn K (.ref C) "named" = some none)
    (n_hit : PySem.W.findIn K (.ref C) "hit" = some none)
    (n_conduct : PySem.W.findIn K (.ref C) "conduct" = some none)
    (n_hidden : PySem.W.findIn K (.ref C) "hidden" = some none)
    (n_miss : PySem.W.findIn K (.ref C) "miss" = some none)
    (n_potted : PySem.W.findIn K (.ref C) "potted" = some none)
    (n_off : PySem.W.findIn K (.ref C) "off" = some none)
    : ∃ A : AdStroke, TxStroke K mg A := by
  have F0 := fun_mk (st := s_Stroke_init) l0 c0 k0
  have b0 := F0.binds (ps := ["self", "numbers", "potted", "off"]) (fun _ _ _ _ _ _ us hl => match us, hl with | [_, _, _, _], _ => rfl)
  have F1 := fun_mk (st := s_Stroke_names_colour) l1 c1 k1
  have b1 := F1.binds (ps := ["self"]) (fun _ _ _ _ _ _ us hl => match us, hl with | [_], _ => rfl)
  have F2 := fun_mk (st := s_Stroke_reds_gone) l2 c2 k2
  have b2 := F2.binds (ps := ["self"]) (fun _ _ _ _ _ _ us hl => match us, hl with | [_], _ => rfl)
  exact ⟨⟨C, ⟨f0, PySem.W.fnOf "__init__" "Stroke.__init__" (defArgs s_Stroke_init) (defBody s_Stroke_init) (defScope s_Stroke_init) .none kV0 dc0 pm0 an0 cd0 ct0⟩, ⟨f1, PySem.W.fnOf "names_colour" "Stroke.names_colour" (defArgs s_Stroke_names_colour) (defBody s_Stroke_names_colour) (defScope s_Stroke_names_colour) .none kV1 dc1 pm1 an1 cd1 ct1⟩, ⟨f2, PySem.W.fnOf "reds_gone" "Stroke.reds_gone" (defArgs s_Stroke_reds_gone) (defBody s_Stroke_reds_gone) (defScope s_Stroke_reds_gone) .none kV2 dc2 pm2 an2 cd2 ct2⟩⟩, ⟨⟨pg, hd, po, sa⟩, PySem.W.mg_of X G aC, ⟨mk, a0, i0, kc⟩, n_named, n_hit, n_conduct, n_hidden, n_miss, n_potted, n_off, F0, b0, F1, b1, ⟨a1, i1, k1⟩, F2, b2, ⟨a2, i2, k2⟩⟩⟩
theorem tx_Table {K : PySem.W.Frag} {h : Heap} {mg : Str → Option Value} {C f0 f1 f2 f3 : Addr} (X : K.In h) (G : h.Ns mainGlobals mg)
    {od0 an0 od1 an1 od2 an2 od3 an3 : Option Addr} {sl0 sl1 sl2 sl3 : Array (Option Value)} {oc0 kV0 dc0 pm0 cd0 ct0 oc1 kV1 dc1 pm1 cd1 ct1 oc2 kV2 dc2 pm2 cd2 ct2 oc3 kV3 dc3 pm3 cd3 ct3 : Value}
    (aC : PySem.W.nsIn K mainGlobals "Table" = some (some (.ref C)))
    (a0 : PySem.W.findIn K (.ref C) "__init__" = some (some (.ref f0))) (i0 : PySem.W.isFn K (.ref f0) = true) (l0 : K.lookup f0 = some ⟨oc0, od0, .func (PySem.W.fnOf "__init__" "Table.__init__" (defArgs s_Table_init) (defBody s_Table_init) (defScope s_Table_init) .none kV0 dc0 pm0 an0 cd0 ct0), sl0⟩) (c0 : PySem.W.codeIn K cd0 "Table.__init__" = true) (k0 : PySem.W.keepIn K (.ref f0) = true)
    (a1 : PySem.W.findIn K (.ref C) "how_many" = some (some (.ref f1))) (i1 : PySem.W.isFn K (.ref f1) = true) (l1 : K.lookup f1 = some ⟨oc1, od1, .func (PySem.W.fnOf "how_many" "Table.how_many" (defArgs s_Table_how_many) (defBody s_Table_how_many) (defScope s_Table_how_many) .none kV1 dc1 pm1 an1 cd1 ct1), sl1⟩) (c1 : PySem.W.codeIn K cd1 "Table.how_many" = true) (k1 : PySem.W.keepIn K (.ref f1) = true)
    (a2 : PySem.W.findIn K (.ref C) "has_more_than_black" = some (some (.ref f2))) (i2 : PySem.W.isFn K (.ref f2) = true) (l2 : K.lookup f2 = some ⟨oc2, od2, .func (PySem.W.fnOf "has_more_than_black" "Table.has_more_than_black" (defArgs s_Table_has_more_than_black) (defBody s_Table_has_more_than_black) (defScope s_Table_has_more_than_black) .none kV2 dc2 pm2 an2 cd2 ct2), sl2⟩) (c2 : PySem.W.codeIn K cd2 "Table.has_more_than_black" = true) (k2 : PySem.W.keepIn K (.ref f2) = true)
    (a3 : PySem.W.findIn K (.ref C) "left" = some (some (.ref f3))) (i3 : PySem.W.isFn K (.ref f3) = true) (l3 : K.lookup f3 = some ⟨oc3, od3, .func (PySem.W.fnOf "left" "Table.left" (defArgs s_Table_left) (defBody s_Table_left) (defScope s_Table_left) .none kV3 dc3 pm3 an3 cd3 ct3), sl3⟩) (c3 : PySem.W.codeIn K cd3 "Table.left" = true) (k3 : PySem.W.keepIn K (.ref f3) = true)
    (pg : PySem.W.plainGet K C Str.empty = true) (hd : PySem.W.hasDictIn K C = true) (po : PySem.W.plainOver K C = true) (sa : PySem.W.findIn K (.ref C) "__setattr__" = some (some (.builtin "object.__setattr__"))) (mk : PySem.W.makesIn K C = true) (kc : PySem.W.keepIn K (.ref C) = true)
    (n_reds : PySem.W.findIn K (.ref C) "reds" = some none)
    (n_lowest : PySem.W.findIn K (.ref C) "lowest" = some none)
    (n_on : PySem.W.findIn K (.ref C) "on" = some none)
    : ∃ A : AdTable, TxTable K mg A := by
  have F0 := fun_mk (st := s_Table_init) l0 c0 k0
  have b0 := F0.binds (ps := ["self", "reds", "lowest", "on"]) (fun _ _ _ _ _ _ us hl => match us, hl with | [_, _, _, _], _ => rfl)
  have F1 := fun_mk (st := s_Table_how_many) l1 c1 k1
  have b1 := F1.binds (ps := ["self", "ball"]) (fun _ _ _ _ _ _ us hl => match us, hl with | [_, _], _ => rfl)
  have F2 := fun_mk (st := s_Table_has_more_than_black) l2 c2 k2
  have b2 := F2.binds (ps := ["self"]) (fun _ _ _ _ _ _ us hl => match us, hl with | [_], _ => rfl)
  have F3 := fun_mk (st := s_Table_left) l3 c3 k3
  have b3 := F3.binds (ps := ["self"]) (fun _ _ _ _ _ _ us hl => match us, hl with | [_], _ => rfl)
  exact ⟨⟨C, ⟨f0, PySem.W.fnOf "__init__" "Table.__init__" (defArgs s_Table_init) (defBody s_Table_init) (defScope s_Table_init) .none kV0 dc0 pm0 an0 cd0 ct0⟩, ⟨f1, PySem.W.fnOf "how_many" "Table.how_many" (defArgs s_Table_how_many) (defBody s_Table_how_many) (defScope s_Table_how_many) .none kV1 dc1 pm1 an1 cd1 ct1⟩, ⟨f2, PySem.W.fnOf "has_more_than_black" "Table.has_more_than_black" (defArgs s_Table_has_more_than_black) (defBody s_Table_has_more_than_black) (defScope s_Table_has_more_than_black) .none kV2 dc2 pm2 an2 cd2 ct2⟩, ⟨f3, PySem.W.fnOf "left" "Table.left" (defArgs s_Table_left) (defBody s_Table_left) (defScope s_Table_left) .none kV3 dc3 pm3 an3 cd3 ct3⟩⟩, ⟨⟨pg, hd, po, sa⟩, PySem.W.mg_of X G aC, ⟨mk, a0, i0, kc⟩, n_reds, n_lowest, n_on, F0, b0, F1, b1, ⟨a1, i1, k1⟩, F2, b2, ⟨a2, i2, k2⟩, F3, b3, ⟨a3, i3, k3⟩⟩⟩
theorem tx_Judgement {K : PySem.W.Frag} {h : Heap} {mg : Str → Option Value} {C f0 f1 f2 f3 f4 f5 f6 f7 f8 : Addr} (X : K.In h) (G : h.Ns mainGlobals mg)
    {od0 an0 od1 an1 od2 an2 od3 an3 od4 an4 od5 an5 od6 an6 od7 an7 od8 an8 : Option Addr} {sl0 sl1 sl2 sl3 sl4 sl5 sl6 sl7 sl8 : Array (Option Value)} {oc0 kV0 dc0 pm0 cd0 ct0 oc1 kV1 dc1 pm1 cd1 ct1 oc2 kV2 dc2 pm2 cd2 ct2 oc3 kV3 dc3 pm3 cd3 ct3 oc4 kV4 dc4 pm4 cd4 ct4 oc5 kV5 dc5 pm5 cd5 ct5 oc6 kV6 dc6 pm6 cd6 ct6 oc7 kV7 dc7 pm7 cd7 ct7 oc8 kV8 dc8 pm8 cd8 ct8 : Value}
    (aC : PySem.W.nsIn K mainGlobals "Judgement" = some (some (.ref C)))
    (a0 : PySem.W.findIn K (.ref C) "__init__" = some (some (.ref f0))) (i0 : PySem.W.isFn K (.ref f0) = true) (l0 : K.lookup f0 = some ⟨oc0, od0, .func (PySem.W.fnOf "__init__" "Judgement.__init__" (defArgs s_Judgement_init) (defBody s_Judgement_init) (defScope s_Judgement_init) .none kV0 dc0 pm0 an0 cd0 ct0), sl0⟩) (c0 : PySem.W.codeIn K cd0 "Judgement.__init__" = true) (k0 : PySem.W.keepIn K (.ref f0) = true)
    (a1 : PySem.W.findIn K (.ref C) "is_rightly_hit" = some (some (.ref f1))) (i1 : PySem.W.isFn K (.ref f1) = true) (l1 : K.lookup f1 = some ⟨oc1, od1, .func (PySem.W.fnOf "is_rightly_hit" "Judgement.is_rightly_hit" (defArgs s_Judgement_is_rightly_hit) (defBody s_Judgement_is_rightly_hit) (defScope s_Judgement_is_rightly_hit) .none kV1 dc1 pm1 an1 cd1 ct1), sl1⟩) (c1 : PySem.W.codeIn K cd1 "Judgement.is_rightly_hit" = true) (k1 : PySem.W.keepIn K (.ref f1) = true)
    (a2 : PySem.W.findIn K (.ref C) "wrongly_potted" = some (some (.ref f2))) (i2 : PySem.W.isFn K (.ref f2) = true) (l2 : K.lookup f2 = some ⟨oc2, od2, .func (PySem.W.fnOf "wrongly_potted" "Judgement.wrongly_potted" (defArgs s_Judgement_wrongly_potted) (defBody s_Judgement_wrongly_potted) (defScope s_Judgement_wrongly_potted) .none kV2 dc2 pm2 an2 cd2 ct2), sl2⟩) (c2 : PySem.W.codeIn K cd2 "Judgement.wrongly_potted" = true) (k2 : PySem.W.keepIn K (.ref f2) = true)
    (a3 : PySem.W.findIn K (.ref C) "is_foul" = some (some (.ref f3))) (i3 : PySem.W.isFn K (.ref f3) = true) (l3 : K.lookup f3 = some ⟨oc3, od3, .func (PySem.W.fnOf "is_foul" "Judgement.is_foul" (defArgs s_Judgement_is_foul) (defBody s_Judgement_is_foul) (defScope s_Judgement_is_foul) .none kV3 dc3 pm3 an3 cd3 ct3), sl3⟩) (c3 : PySem.W.codeIn K cd3 "Judgement.is_foul" = true) (k3 : PySem.W.keepIn K (.ref f3) = true)
    (a4 : PySem.W.findIn K (.ref C) "worth_of_on" = some (some (.ref f4))) (i4 : PySem.W.isFn K (.ref f4) = true) (l4 : K.lookup f4 = some ⟨oc4, od4, .func (PySem.W.fnOf "worth_of_on" "Judgement.worth_of_on" (defArgs s_Judgement_worth_of_on) (defBody s_Judgement_worth_of_on) (defScope s_Judgement_worth_of_on) .none kV4 dc4 pm4 an4 cd4 ct4), sl4⟩) (c4 : PySem.W.codeIn K cd4 "Judgement.worth_of_on" = true) (k4 : PySem.W.keepIn K (.ref f4) = true)
    (a5 : PySem.W.findIn K (.ref C) "cost" = some (some (.ref f5))) (i5 : PySem.W.isFn K (.ref f5) = true) (l5 : K.lookup f5 = some ⟨oc5, od5, .func (PySem.W.fnOf "cost" "Judgement.cost" (defArgs s_Judgement_cost) (defBody s_Judgement_cost) (defScope s_Judgement_cost) .none kV5 dc5 pm5 an5 cd5 ct5), sl5⟩) (c5 : PySem.W.codeIn K cd5 "Judgement.cost" = true) (k5 : PySem.W.keepIn K (.ref f5) = true)
    (a6 : PySem.W.findIn K (.ref C) "made" = some (some (.ref f6))) (i6 : PySem.W.isFn K (.ref f6) = true) (l6 : K.lookup f6 = some ⟨oc6, od6, .func (PySem.W.fnOf "made" "Judgement.made" (defArgs s_Judgement_made) (defBody s_Judgement_made) (defScope s_Judgement_made) .none kV6 dc6 pm6 an6 cd6 ct6), sl6⟩) (c6 : PySem.W.codeIn K cd6 "Judgement.made" = true) (k6 : PySem.W.keepIn K (.ref f6) = true)
    (a7 : PySem.W.findIn K (.ref C) "table_behind_foul" = some (some (.ref f7))) (i7 : PySem.W.isFn K (.ref f7) = true) (l7 : K.lookup f7 = some ⟨oc7, od7, .func (PySem.W.fnOf "table_behind_foul" "Judgement.table_behind_foul" (defArgs s_Judgement_table_behind_foul) (defBody s_Judgement_table_behind_foul) (defScope s_Judgement_table_behind_foul) .none kV7 dc7 pm7 an7 cd7 ct7), sl7⟩) (c7 : PySem.W.codeIn K cd7 "Judgement.table_behind_foul" = true) (k7 : PySem.W.keepIn K (.ref f7) = true)
    (a8 : PySem.W.findIn K (.ref C) "table_behind_fair" = some (some (.ref f8))) (i8 : PySem.W.isFn K (.ref f8) = true) (l8 : K.lookup f8 = some ⟨oc8, od8, .func (PySem.W.fnOf "table_behind_fair" "Judgement.table_behind_fair" (defArgs s_Judgement_table_behind_fair) (defBody s_Judgement_table_behind_fair) (defScope s_Judgement_table_behind_fair) .none kV8 dc8 pm8 an8 cd8 ct8), sl8⟩) (c8 : PySem.W.codeIn K cd8 "Judgement.table_behind_fair" = true) (k8 : PySem.W.keepIn K (.ref f8) = true)
    (pg : PySem.W.plainGet K C Str.empty = true) (hd : PySem.W.hasDictIn K C = true) (po : PySem.W.plainOver K C = true) (sa : PySem.W.findIn K (.ref C) "__setattr__" = some (some (.builtin "object.__setattr__"))) (mk : PySem.W.makesIn K C = true) (kc : PySem.W.keepIn K (.ref C) = true)
    (n_told : PySem.W.findIn K (.ref C) "told" = some none)
    (n_table : PySem.W.findIn K (.ref C) "table" = some none)
    (n_free : PySem.W.findIn K (.ref C) "free" = some none)
    (n_all_on : PySem.W.findIn K (.ref C) "all_on" = some none)
    : ∃ A : AdJudgement, TxJudgement K mg A := by
  have F0 := fun_mk (st := s_Judgement_init) l0 c0 k0
  have b0 := F0.binds (ps := ["self", "told", "table", "may_name_free"]) (fun _ _ _ _ _ _ us hl => match us, hl with | [_, _, _, _], _ => rfl)
  have F1 := fun_mk (st := s_Judgement_is_rightly_hit) l1 c1 k1
  have b1 := F1.binds (ps := ["self"]) (fun _ _ _ _ _ _ us hl => match us, hl with | [_], _ => rfl)
  have F2 := fun_mk (st := s_Judgement_wrongly_potted) l2 c2 k2
  have b2 := F2.binds (ps := ["self"]) (fun _ _ _ _ _ _ us hl => match us, hl with | [_], _ => rfl)
  have F3 := fun_mk (st := s_Judgement_is_foul) l3 c3 k3
  have b3 := F3.binds (ps := ["self"]) (fun _ _ _ _ _ _ us hl => match us, hl with | [_], _ => rfl)
  have F4 := fun_mk (st := s_Judgement_worth_of_on) l4 c4 k4
  have b4 := F4.binds (ps := ["self"]) (fun _ _ _ _ _ _ us hl => match us, hl with | [_], _ => rfl)
  have F5 := fun_mk (st := s_Judgement_cost) l5 c5 k5
  have b5 := F5.binds (ps := ["self"]) (fun _ _ _ _ _ _ us hl => match us, hl with | [_], _ => rfl)
  have F6 := fun_mk (st := s_Judgement_made) l6 c6 k6
  have b6 := F6.binds (ps := ["self"]) (fun _ _ _ _ _ _ us hl => match us, hl with | [_], _ => rfl)
  have F7 := fun_mk (st := s_Judgement_table_behind_foul) l7 c7 k7
  have b7 := F7.binds (ps := ["self"]) (fun _ _ _ _ _ _ us hl => match us, hl with | [_], _ => rfl)
  have F8 := fun_mk (st := s_Judgement_table_behind_fair) l8 c8 k8
  have b8 := F8.binds (ps := ["self"]) (fun _ _ _ _ _ _ us hl => match us, hl with | [_], _ => rfl)
  exact ⟨⟨C, ⟨f0, PySem.W.fnOf "__init__" "Judgement.__init__" (defArgs s_Judgement_init) (defBody s_Judgement_init) (defScope s_Judgement_init) .none kV0 dc0 pm0 an0 cd0 ct0⟩, ⟨f1, PySem.W.fnOf "is_rightly_hit" "Judgement.is_rightly_hit" (defArgs s_Judgement_is_rightly_hit) (defBody s_Judgement_is_rightly_hit) (defScope s_Judgement_is_rightly_hit) .none kV1 dc1 pm1 an1 cd1 ct1⟩, ⟨f2, PySem.W.fnOf "wrongly_potted" "Judgement.wrongly_potted" (defArgs s_Judgement_wrongly_potted) (defBody s_Judgement_wrongly_potted) (defScope s_Judgement_wrongly_potted) .none kV2 dc2 pm2 an2 cd2 ct2⟩, ⟨f3, PySem.W.fnOf "is_foul" "Judgement.is_foul" (defArgs s_Judgement_is_foul) (defBody s_Judgement_is_foul) (defScope s_Judgement_is_foul) .none kV3 dc3 pm3 an3 cd3 ct3⟩, ⟨f4, PySem.W.fnOf "worth_of_on" "Judgement.worth_of_on" (defArgs s_Judgement_worth_of_on) (defBody s_Judgement_worth_of_on) (defScope s_Judgement_worth_of_on) .none kV4 dc4 pm4 an4 cd4 ct4⟩, ⟨f5, PySem.W.fnOf "cost" "Judgement.cost" (defArgs s_Judgement_cost) (defBody s_Judgement_cost) (defScope s_Judgement_cost) .none kV5 dc5 pm5 an5 cd5 ct5⟩, ⟨f6, PySem.W.fnOf "made" "Judgement.made" (defArgs s_Judgement_made) (defBody s_Judgement_made) (defScope s_Judgement_made) .none kV6 dc6 pm6 an6 cd6 ct6⟩, ⟨f7, PySem.W.fnOf "table_behind_foul" "Judgement.table_behind_foul" (defArgs s_Judgement_table_behind_foul) (defBody s_Judgement_table_behind_foul) (defScope s_Judgement_table_behind_foul) .none kV7 dc7 pm7 an7 cd7 ct7⟩, ⟨f8, PySem.W.fnOf "table_behind_fair" "Judgement.table_behind_fair" (defArgs s_Judgement_table_behind_fair) (defBody s_Judgement_table_behind_fair) (defScope s_Judgement_table_behind_fair) .none kV8 dc8 pm8 an8 cd8 ct8⟩⟩, ⟨⟨pg, hd, po, sa⟩, PySem.W.mg_of X G aC, ⟨mk, a0, i0, kc⟩, n_told, n_table, n_free, n_all_on, F0, b0, F1, b1, ⟨a1, i1, k1⟩, F2, b2, ⟨a2, i2, k2⟩, F3, b3, ⟨a3, i3, k3⟩, F4, b4, ⟨a4, i4, k4⟩, F5, b5, ⟨a5, i5, k5⟩, F6, b6, ⟨a6, i6, k6⟩, F7, b7, ⟨a7, i7, k7⟩, F8, b8, ⟨a8, i8, k8⟩⟩⟩
theorem tx_Frame {K : PySem.W.Frag} {h : Heap} {mg : Str → Option Value} {C f0 f1 f2 f3 f4 f5 f6 f7 f8 f9 f10 f11 f12 f13 f14 f15 f16 f17 f18 f19 : Addr} (X : K.In h) (G : h.Ns mainGlobals mg)
    {od0 an0 od1 an1 od2 an2 od3 an3 od4 an4 od5 an5 od6 an6 od7 an7 od8 an8 od9 an9 od10 an10 od11 an11 od12 an12 od13 an13 od14 an14 od15 an15 od16 an16 od17 an17 od18 an18 od19 an19 : Option Addr} {sl0 sl1 sl2 sl3 sl4 sl5 sl6 sl7 sl8 sl9 sl10 sl11 sl12 sl13 sl14 sl15 sl16 sl17 sl18 sl19 : Array (Option Value)} {oc0 kV0 dc0 pm0 cd0 ct0 oc1 kV1 dc1 pm1 cd1 ct1 oc2 kV2 dc2 pm2 cd2 ct2 oc3 kV3 dc3 pm3 cd3 ct3 oc4 kV4 dc4 pm4 cd4 ct4 oc5 kV5 dc5 pm5 cd5 ct5 oc6 kV6 dc6 pm6 cd6 ct6 oc7 kV7 dc7 pm7 cd7 ct7 oc8 kV8 dc8 pm8 cd8 ct8 oc9 kV9 dc9 pm9 cd9 ct9 oc10 kV10 dc10 pm10 cd10 ct10 oc11 kV11 dc11 pm11 cd11 ct11 oc12 kV12 dc12 pm12 cd12 ct12 oc13 kV13 dc13 pm13 cd13 ct13 oc14 kV14 dc14 pm14 cd14 ct14 oc15 kV15 dc15 pm15 cd15 ct15 oc16 kV16 dc16 pm16 cd16 ct16 oc17 kV17 dc17 pm17 cd17 ct17 oc18 kV18 dc18 pm18 cd18 ct18 oc19 kV19 dc19 pm19 cd19 ct19 : Value}
    (aC : PySem.W.nsIn K mainGlobals "Frame" = some (some (.ref C)))
    (a0 : PySem.W.findIn K (.ref C) "__init__" = some (some (.ref f0))) (i0 : PySem.W.isFn K (.ref f0) = true) (l0 : K.lookup f0 = some ⟨oc0, od0, .func (PySem.W.fnOf "__init__" "Frame.__init__" (defArgs s_Frame_init) (defBody s_Frame_init) (defScope s_Frame_init) .none kV0 dc0 pm0 an0 cd0 ct0), sl0⟩) (c0 : PySem.W.codeIn K cd0 "Frame.__init__" = true) (k0 : PySem.W.keepIn K (.ref f0) = true)
    (a1 : PySem.W.findIn K (.ref C) "close_choices" = some (some (.ref f1))) (i1 : PySem.W.isFn K (.ref f1) = true) (l1 : K.lookup f1 = some ⟨oc1, od1, .func (PySem.W.fnOf "close_choices" "Frame.close_choices" (defArgs s_Frame_close_choices) (defBody s_Frame_close_choices) (defScope s_Frame_close_choices) .none kV1 dc1 pm1 an1 cd1 ct1), sl1⟩) (c1 : PySem.W.codeIn K cd1 "Frame.close_choices" = true) (k1 : PySem.W.keepIn K (.ref f1) = true)
    (a2 : PySem.W.findIn K (.ref C) "play" = some (some (.ref f2))) (i2 : PySem.W.isFn K (.ref f2) = true) (l2 : K.lookup f2 = some ⟨oc2, od2, .func (PySem.W.fnOf "play" "Frame.play" (defArgs s_Frame_play) (defBody s_Frame_play) (defScope s_Frame_play) .none kV2 dc2 pm2 an2 cd2 ct2), sl2⟩) (c2 : PySem.W.codeIn K cd2 "Frame.play" = true) (k2 : PySem.W.keepIn K (.ref f2) = true)
    (a3 : PySem.W.findIn K (.ref C) "play_fair" = some (some (.ref f3))) (i3 : PySem.W.isFn K (.ref f3) = true) (l3 : K.lookup f3 = some ⟨oc3, od3, .func (PySem.W.fnOf "play_fair" "Frame.play_fair" (defArgs s_Frame_play_fair) (defBody s_Frame_play_fair) (defScope s_Frame_play_fair) .none kV3 dc3 pm3 an3 cd3 ct3), sl3⟩) (c3 : PySem.W.codeIn K cd3 "Frame.play_fair" = true) (k3 : PySem.W.keepIn K (.ref f3) = true)
    (a4 : PySem.W.findIn K (.ref C) "play_foul" = some (some (.ref f4))) (i4 : PySem.W.isFn K (.ref f4) = true) (l4 : K.lookup f4 = some ⟨oc4, od4, .func (PySem.W.fnOf "play_foul" "Frame.play_foul" (defArgs s_Frame_play_foul) (defBody s_Frame_play_foul) (defScope s_Frame_play_foul) .none kV4 dc4 pm4 an4 cd4 ct4), sl4⟩) (c4 : PySem.W.codeIn K cd4 "Frame.play_foul" = true) (k4 : PySem.W.keepIn K (.ref f4) = true)
    (a5 : PySem.W.findIn K (.ref C) "pass_turn" = some (some (.ref f5))) (i5 : PySem.W.isFn K (.ref f5) = true) (l5 : K.lookup f5 = some ⟨oc5, od5, .func (PySem.W.fnOf "pass_turn" "Frame.pass_turn" (defArgs s_Frame_pass_turn) (defBody s_Frame_pass_turn) (defScope s_Frame_pass_turn) .none kV5 dc5 pm5 an5 cd5 ct5), sl5⟩) (c5 : PySem.W.codeIn K cd5 "Frame.pass_turn" = true) (k5 : PySem.W.keepIn K (.ref f5) = true)
    (a6 : PySem.W.findIn K (.ref C) "end_break" = some (some (.ref f6))) (i6 : PySem.W.isFn K (.ref f6) = true) (l6 : K.lookup f6 = some ⟨oc6, od6, .func (PySem.W.fnOf "end_break" "Frame.end_break" (defArgs s_Frame_end_break) (defBody s_Frame_end_break) (defScope s_Frame_end_break) .none kV6 dc6 pm6 an6 cd6 ct6), sl6⟩) (c6 : PySem.W.codeIn K cd6 "Frame.end_break" = true) (k6 : PySem.W.keepIn K (.ref f6) = true)
    (a7 : PySem.W.findIn K (.ref C) "can_call_miss" = some (some (.ref f7))) (i7 : PySem.W.isFn K (.ref f7) = true) (l7 : K.lookup f7 = some ⟨oc7, od7, .func (PySem.W.fnOf "can_call_miss" "Frame.can_call_miss" (defArgs s_Frame_can_call_miss) (defBody s_Frame_can_call_miss) (defScope s_Frame_can_call_miss) .none kV7 dc7 pm7 an7 cd7 ct7), sl7⟩) (c7 : PySem.W.codeIn K cd7 "Frame.can_call_miss" = true) (k7 : PySem.W.keepIn K (.ref f7) = true)
    (a8 : PySem.W.findIn K (.ref C) "is_within_reach" = some (some (.ref f8))) (i8 : PySem.W.isFn K (.ref f8) = true) (l8 : K.lookup f8 = some ⟨oc8, od8, .func (PySem.W.fnOf "is_within_reach" "Frame.is_within_reach" (defArgs s_Frame_is_within_reach) (defBody s_Frame_is_within_reach) (defScope s_Frame_is_within_reach) .none kV8 dc8 pm8 an8 cd8 ct8), sl8⟩) (c8 : PySem.W.codeIn K cd8 "Frame.is_within_reach" = true) (k8 : PySem.W.keepIn K (.ref f8) = true)
    (a9 : PySem.W.findIn K (.ref C) "count_miss" = some (some (.ref f9))) (i9 : PySem.W.isFn K (.ref f9) = true) (l9 : K.lookup f9 = some ⟨oc9, od9, .func (PySem.W.fnOf "count_miss" "Frame.count_miss" (defArgs s_Frame_count_miss) (defBody s_Frame_count_miss) (defScope s_Frame_count_miss) .none kV9 dc9 pm9 an9 cd9 ct9), sl9⟩) (c9 : PySem.W.codeIn K cd9 "Frame.count_miss" = true) (k9 : PySem.W.keepIn K (.ref f9) = true)
    (a10 : PySem.W.findIn K (.ref C) "open_choices" = some (some (.ref f10))) (i10 : PySem.W.isFn K (.ref f10) = true) (l10 : K.lookup f10 = some ⟨oc10, od10, .func (PySem.W.fnOf "open_choices" "Frame.open_choices" (defArgs s_Frame_open_choices) (defBody s_Frame_open_choices) (defScope s_Frame_open_choices) .none kV10 dc10 pm10 an10 cd10 ct10), sl10⟩) (c10 : PySem.W.codeIn K cd10 "Frame.open_choices" = true) (k10 : PySem.W.keepIn K (.ref f10) = true)
    (a11 : PySem.W.findIn K (.ref C) "settle" = some (some (.ref f11))) (i11 : PySem.W.isFn K (.ref f11) = true) (l11 : K.lookup f11 = some ⟨oc11, od11, .func (PySem.W.fnOf "settle" "Frame.settle" (defArgs s_Frame_settle) (defBody s_Frame_settle) (defScope s_Frame_settle) .none kV11 dc11 pm11 an11 cd11 ct11), sl11⟩) (c11 : PySem.W.codeIn K cd11 "Frame.settle" = true) (k11 : PySem.W.keepIn K (.ref f11) = true)
    (a12 : PySem.W.findIn K (.ref C) "win" = some (some (.ref f12))) (i12 : PySem.W.isFn K (.ref f12) = true) (l12 : K.lookup f12 = some ⟨oc12, od12, .func (PySem.W.fnOf "win" "Frame.win" (defArgs s_Frame_win) (defBody s_Frame_win) (defScope s_Frame_win) .none kV12 dc12 pm12 an12 cd12 ct12), sl12⟩) (c12 : PySem.W.codeIn K cd12 "Frame.win" = true) (k12 : PySem.W.keepIn K (.ref f12) = true)
    (a13 : PySem.W.findIn K (.ref C) "again" = some (some (.ref f13))) (i13 : PySem.W.isFn K (.ref f13) = true) (l13 : K.lookup f13 = some ⟨oc13, od13, .func (PySem.W.fnOf "again" "Frame.again" (defArgs s_Frame_again) (defBody s_Frame_again) (defScope s_Frame_again) .none kV13 dc13 pm13 an13 cd13 ct13), sl13⟩) (c13 : PySem.W.codeIn K cd13 "Frame.again" = true) (k13 : PySem.W.keepIn K (.ref f13) = true)
    (a14 : PySem.W.findIn K (.ref C) "back" = some (some (.ref f14))) (i14 : PySem.W.isFn K (.ref f14) = true) (l14 : K.lookup f14 = some ⟨oc14, od14, .func (PySem.W.fnOf "back" "Frame.back" (defArgs s_Frame_back) (defBody s_Frame_back) (defScope s_Frame_back) .none kV14 dc14 pm14 an14 cd14 ct14), sl14⟩) (c14 : PySem.W.codeIn K cd14 "Frame.back" = true) (k14 : PySem.W.keepIn K (.ref f14) = true)
    (a15 : PySem.W.findIn K (.ref C) "toss" = some (some (.ref f15))) (i15 : PySem.W.isFn K (.ref f15) = true) (l15 : K.lookup f15 = some ⟨oc15, od15, .func (PySem.W.fnOf "toss" "Frame.toss" (defArgs s_Frame_toss) (defBody s_Frame_toss) (defScope s_Frame_toss) .none kV15 dc15 pm15 an15 cd15 ct15), sl15⟩) (c15 : PySem.W.codeIn K cd15 "Frame.toss" = true) (k15 : PySem.W.keepIn K (.ref f15) = true)
    (a16 : PySem.W.findIn K (.ref C) "give" = some (some (.ref f16))) (i16 : PySem.W.isFn K (.ref f16) = true) (l16 : K.lookup f16 = some ⟨oc16, od16, .func (PySem.W.fnOf "give" "Frame.give" (defArgs s_Frame_give) (defBody s_Frame_give) (defScope s_Frame_give) .none kV16 dc16 pm16 an16 cd16 ct16), sl16⟩) (c16 : PySem.W.codeIn K cd16 "Frame.give" = true) (k16 : PySem.W.keepIn K (.ref f16) = true)
    (a17 : PySem.W.findIn K (.ref C) "fouls_needed" = some (some (.ref f17))) (i17 : PySem.W.isFn K (.ref f17) = true) (l17 : K.lookup f17 = some ⟨oc17, od17, .func (PySem.W.fnOf "fouls_needed" "Frame.fouls_needed" (defArgs s_Frame_fouls_needed) (defBody s_Frame_fouls_needed) (defScope s_Frame_fouls_needed) .none kV17 dc17 pm17 an17 cd17 ct17), sl17⟩) (c17 : PySem.W.codeIn K cd17 "Frame.fouls_needed" = true) (k17 : PySem.W.keepIn K (.ref f17) = true)
    (a18 : PySem.W.findIn K (.ref C) "as_it_stands" = some (some (.ref f18))) (i18 : PySem.W.isFn K (.ref f18) = true) (l18 : K.lookup f18 = some ⟨oc18, od18, .func (PySem.W.fnOf "as_it_stands" "Frame.as_it_stands" (defArgs s_Frame_as_it_stands) (defBody s_Frame_as_it_stands) (defScope s_Frame_as_it_stands) .none kV18 dc18 pm18 an18 cd18 ct18), sl18⟩) (c18 : PySem.W.codeIn K cd18 "Frame.as_it_stands" = true) (k18 : PySem.W.keepIn K (.ref f18) = true)
    (a19 : PySem.W.findIn K (.ref C) "outcome" = some (some (.ref f19))) (i19 : PySem.W.isFn K (.ref f19) = true) (l19 : K.lookup f19 = some ⟨oc19, od19, .func (PySem.W.fnOf "outcome" "Frame.outcome" (defArgs s_Frame_outcome) (defBody s_Frame_outcome) (defScope s_Frame_outcome) .none kV19 dc19 pm19 an19 cd19 ct19), sl19⟩) (c19 : PySem.W.codeIn K cd19 "Frame.outcome" = true) (k19 : PySem.W.keepIn K (.ref f19) = true)
    (pg : PySem.W.plainGet K C Str.empty = true) (hd : PySem.W.hasDictIn K C = true) (po : PySem.W.plainOver K C = true) (sa : PySem.W.findIn K (.ref C) "__setattr__" = some (some (.builtin "object.__setattr__"))) (mk : PySem.W.makesIn K C = true) (kc : PySem.W.keepIn K (.ref C) = true)
    (n_points : PySem.W.findIn K (.ref C) "points" = some none)
    (n_turn : PySem.W.findIn K (.ref C) "turn" = some none)
    (n_table : PySem.W.findIn K (.ref C) "table" = some none)
    (n_winner : PySem.W.findIn K (.ref C) "winner" = some none)
    (n_how : PySem.W.findIn K (.ref C) "how" = some none)
    (n_break_so_far : PySem.W.findIn K (.ref C) "break_so_far" = some none)
    (n_highest_breaks : PySem.W.findIn K (.ref C) "highest_breaks" = some none)
    (n_big_breaks : PySem.W.findIn K (.ref C) "big_breaks" = some none)
    (n_misses : PySem.W.findIn K (.ref C) "misses" = some none)
    (n_table_if_back : PySem.W.findIn K (.ref C) "table_if_back" = some none)
    (n_misses_if_back : PySem.W.findIn K (.ref C) "misses_if_back" = some none)
    (n_may_name_free : PySem.W.findIn K (.ref C) "may_name_free" = some none)
    (n_may_again : PySem.W.findIn K (.ref C) "may_again" = some none)
    (n_may_back : PySem.W.findIn K (.ref C) "may_back" = some none)
    : ∃ A : AdFrame, TxFrame K mg A := by
  have F0 := fun_mk (st := s_Frame_init) l0 c0 k0
  have b0 := F0.binds (ps := ["self", "first"]) (fun _ _ _ _ _ _ us hl => match us, hl with | [_, _], _ => rfl)
  have F1 := fun_mk (st := s_Frame_close_choices) l1 c1 k1
  have b1 := F1.binds (ps := ["self"]) (fun _ _ _ _ _ _ us hl => match us, hl with | [_], _ => rfl)
  have F2 := fun_mk (st := s_Frame_play) l2 c2 k2
  have b2 := F2.binds (ps := ["self", "told"]) (fun _ _ _ _ _ _ us hl => match us, hl with | [_, _], _ => rfl)
  have F3 := fun_mk (st := s_Frame_play_fair) l3 c3 k3
  have b3 := F3.binds (ps := ["self", "judgement"]) (fun _ _ _ _ _ _ us hl => match us, hl with | [_, _], _ => rfl)
  have F4 := fun_mk (st := s_Frame_play_foul) l4 c4 k4
  have b4 := F4.binds (ps := ["self", "judgement"]) (fun _ _ _ _ _ _ us hl => match us, hl with | [_, _], _ => rfl)
  have F5 := fun_mk (st := s_Frame_pass_turn) l5 c5 k5
  have b5 := F5.binds (ps := ["self"]) (fun _ _ _ _ _ _ us hl => match us, hl with | [_], _ => rfl)
  have F6 := fun_mk (st := s_Frame_end_break) l6 c6 k6
  have b6 := F6.binds (ps := ["self"]) (fun _ _ _ _ _ _ us hl => match us, hl with | [_], _ => rfl)
  have F7 := fun_mk (st := s_Frame_can_call_miss) l7 c7 k7
  have b7 := F7.binds (ps := ["self", "judgement"]) (fun _ _ _ _ _ _ us hl => match us, hl with | [_, _], _ => rfl)
  have F8 := fun_mk (st := s_Frame_is_within_reach) l8 c8 k8
  have b8 := F8.binds (ps := ["self"]) (fun _ _ _ _ _ _ us hl => match us, hl with | [_], _ => rfl)
  have F9 := fun_mk (st := s_Frame_count_miss) l9 c9 k9
  have b9 := F9.binds (ps := ["self", "is_in_sight"]) (fun _ _ _ _ _ _ us hl => match us, hl with | [_, _], _ => rfl)
  have F10 := fun_mk (st := s_Frame_open_choices) l10 c10 k10
  have b10 := F10.binds (ps := ["self", "told", "miss_is_called"]) (fun _ _ _ _ _ _ us hl => match us, hl with | [_, _, _], _ => rfl)
  have F11 := fun_mk (st := s_Frame_settle) l11 c11 k11
  have b11 := F11.binds (ps := ["self"]) (fun _ _ _ _ _ _ us hl => match us, hl with | [_], _ => rfl)
  have F12 := fun_mk (st := s_Frame_win) l12 c12 k12
  have b12 := F12.binds (ps := ["self", "player", "how"]) (fun _ _ _ _ _ _ us hl => match us, hl with | [_, _, _], _ => rfl)
  have F13 := fun_mk (st := s_Frame_again) l13 c13 k13
  have b13 := F13.binds (ps := ["self"]) (fun _ _ _ _ _ _ us hl => match us, hl with | [_], _ => rfl)
  have F14 := fun_mk (st := s_Frame_back) l14 c14 k14
  have b14 := F14.binds (ps := ["self"]) (fun _ _ _ _ _ _ us hl => match us, hl with | [_], _ => rfl)
  have F15 := fun_mk (st := s_Frame_toss) l15 c15 k15
  have b15 := F15.binds (ps := ["self", "who"]) (fun _ _ _ _ _ _ us hl => match us, hl with | [_, _], _ => rfl)
  have F16 := fun_mk (st := s_Frame_give) l16 c16 k16
  have b16 := F16.binds (ps := ["self"]) (fun _ _ _ _ _ _ us hl => match us, hl with | [_], _ => rfl)
  have F17 := fun_mk (st := s_Frame_fouls_needed) l17 c17 k17
  have b17 := F17.binds (ps := ["self", "player"]) (fun _ _ _ _ _ _ us hl => match us, hl with | [_, _], _ => rfl)
  have F18 := fun_mk (st := s_Frame_as_it_stands) l18 c18 k18
  have b18 := F18.binds (ps := ["self"]) (fun _ _ _ _ _ _ us hl => match us, hl with | [_], _ => rfl)
  have F19 := fun_mk (st := s_Frame_outcome) l19 c19 k19
  have b19 := F19.binds (ps := ["self"]) (fun _ _ _ _ _ _ us hl => match us, hl with | [_], _ => rfl)
  exact ⟨⟨C, ⟨f0, PySem.W.fnOf "__init__" "Frame.__init__" (defArgs s_Frame_init) (defBody s_Frame_init) (defScope s_Frame_init) .none kV0 dc0 pm0 an0 cd0 ct0⟩, ⟨f1, PySem.W.fnOf "close_choices" "Frame.close_choices" (defArgs s_Frame_close_choices) (defBody s_Frame_close_choices) (defScope s_Frame_close_choices) .none kV1 dc1 pm1 an1 cd1 ct1⟩, ⟨f2, PySem.W.fnOf "play" "Frame.play" (defArgs s_Frame_play) (defBody s_Frame_play) (defScope s_Frame_play) .none kV2 dc2 pm2 an2 cd2 ct2⟩, ⟨f3, PySem.W.fnOf "play_fair" "Frame.play_fair" (defArgs s_Frame_play_fair) (defBody s_Frame_play_fair) (defScope s_Frame_play_fair) .none kV3 dc3 pm3 an3 cd3 ct3⟩, ⟨f4, PySem.W.fnOf "play_foul" "Frame.play_foul" (defArgs s_Frame_play_foul) (defBody s_Frame_play_foul) (defScope s_Frame_play_foul) .none kV4 dc4 pm4 an4 cd4 ct4⟩, ⟨f5, PySem.W.fnOf "pass_turn" "Frame.pass_turn" (defArgs s_Frame_pass_turn) (defBody s_Frame_pass_turn) (defScope s_Frame_pass_turn) .none kV5 dc5 pm5 an5 cd5 ct5⟩, ⟨f6, PySem.W.fnOf "end_break" "Frame.end_break" (defArgs s_Frame_end_break) (defBody s_Frame_end_break) (defScope s_Frame_end_break) .none kV6 dc6 pm6 an6 cd6 ct6⟩, ⟨f7, PySem.W.fnOf "can_call_miss" "Frame.can_call_miss" (defArgs s_Frame_can_call_miss) (defBody s_Frame_can_call_miss) (defScope s_Frame_can_call_miss) .none kV7 dc7 pm7 an7 cd7 ct7⟩, ⟨f8, PySem.W.fnOf "is_within_reach" "Frame.is_within_reach" (defArgs s_Frame_is_within_reach) (defBody s_Frame_is_within_reach) (defScope s_Frame_is_within_reach) .none kV8 dc8 pm8 an8 cd8 ct8⟩, ⟨f9, PySem.W.fnOf "count_miss" "Frame.count_miss" (defArgs s_Frame_count_miss) (defBody s_Frame_count_miss) (defScope s_Frame_count_miss) .none kV9 dc9 pm9 an9 cd9 ct9⟩, ⟨f10, PySem.W.fnOf "open_choices" "Frame.open_choices" (defArgs s_Frame_open_choices) (defBody s_Frame_open_choices) (defScope s_Frame_open_choices) .none kV10 dc10 pm10 an10 cd10 ct10⟩, ⟨f11, PySem.W.fnOf "settle" "Frame.settle" (defArgs s_Frame_settle) (defBody s_Frame_settle) (defScope s_Frame_settle) .none kV11 dc11 pm11 an11 cd11 ct11⟩, ⟨f12, PySem.W.fnOf "win" "Frame.win" (defArgs s_Frame_win) (defBody s_Frame_win) (defScope s_Frame_win) .none kV12 dc12 pm12 an12 cd12 ct12⟩, ⟨f13, PySem.W.fnOf "again" "Frame.again" (defArgs s_Frame_again) (defBody s_Frame_again) (defScope s_Frame_again) .none kV13 dc13 pm13 an13 cd13 ct13⟩, ⟨f14, PySem.W.fnOf "back" "Frame.back" (defArgs s_Frame_back) (defBody s_Frame_back) (defScope s_Frame_back) .none kV14 dc14 pm14 an14 cd14 ct14⟩, ⟨f15, PySem.W.fnOf "toss" "Frame.toss" (defArgs s_Frame_toss) (defBody s_Frame_toss) (defScope s_Frame_toss) .none kV15 dc15 pm15 an15 cd15 ct15⟩, ⟨f16, PySem.W.fnOf "give" "Frame.give" (defArgs s_Frame_give) (defBody s_Frame_give) (defScope s_Frame_give) .none kV16 dc16 pm16 an16 cd16 ct16⟩, ⟨f17, PySem.W.fnOf "fouls_needed" "Frame.fouls_needed" (defArgs s_Frame_fouls_needed) (defBody s_Frame_fouls_needed) (defScope s_Frame_fouls_needed) .none kV17 dc17 pm17 an17 cd17 ct17⟩, ⟨f18, PySem.W.fnOf "as_it_stands" "Frame.as_it_stands" (defArgs s_Frame_as_it_stands) (defBody s_Frame_as_it_stands) (defScope s_Frame_as_it_stands) .none kV18 dc18 pm18 an18 cd18 ct18⟩, ⟨f19, PySem.W.fnOf "outcome" "Frame.outcome" (defArgs s_Frame_outcome) (defBody s_Frame_outcome) (defScope s_Frame_outcome) .none kV19 dc19 pm19 an19 cd19 ct19⟩⟩, ⟨⟨pg, hd, po, sa⟩, PySem.W.mg_of X G aC, ⟨mk, a0, i0, kc⟩, n_points, n_turn, n_table, n_winner, n_how, n_break_so_far, n_highest_breaks, n_big_breaks, n_misses, n_table_if_back, n_misses_if_back, n_may_name_free, n_may_again, n_may_back, F0, b0, F1, b1, ⟨a1, i1, k1⟩, F2, b2, ⟨a2, i2, k2⟩, F3, b3, ⟨a3, i3, k3⟩, F4, b4, ⟨a4, i4, k4⟩, F5, b5, ⟨a5, i5, k5⟩, F6, b6, ⟨a6, i6, k6⟩, F7, b7, ⟨a7, i7, k7⟩, F8, b8, ⟨a8, i8, k8⟩, F9, b9, ⟨a9, i9, k9⟩, F10, b10, ⟨a10, i10, k10⟩, F11, b11, ⟨a11, i11, k11⟩, F12, b12, ⟨a12, i12, k12⟩, F13, b13, ⟨a13, i13, k13⟩, F14, b14, ⟨a14, i14, k14⟩, F15, b15, ⟨a15, i15, k15⟩, F16, b16, ⟨a16, i16, k16⟩, F17, b17, ⟨a17, i17, k17⟩, F18, b18, ⟨a18, i18, k18⟩, F19, b19, ⟨a19, i19, k19⟩⟩⟩
theorem tx_Reader {K : PySem.W.Frag} {h : Heap} {mg : Str → Option Value} {C f0 f1 f2 f3 f4 : Addr} (X : K.In h) (G : h.Ns mainGlobals mg)
    {od0 an0 od1 an1 od2 an2 od3 an3 od4 an4 : Option Addr} {sl0 sl1 sl2 sl3 sl4 : Array (Option Value)} {oc0 kV0 dc0 pm0 cd0 ct0 oc1 kV1 dc1 pm1 cd1 ct1 oc2 kV2 dc2 pm2 cd2 ct2 oc3 kV3 dc3 pm3 cd3 ct3 oc4 kV4 dc4 pm4 cd4 ct4 : Value}
    (aC : PySem.W.nsIn K mainGlobals "Reader" = some (some (.ref C)))
    (a0 : PySem.W.findIn K (.ref C) "__init__" = some (some (.ref f0))) (i0 : PySem.W.isFn K (.ref f0) = true) (l0 : K.lookup f0 = some ⟨oc0, od0, .func (PySem.W.fnOf "__init__" "Reader.__init__" (defArgs s_Reader_init) (defBody s_Reader_init) (defScope s_Reader_init) .none kV0 dc0 pm0 an0 cd0 ct0), sl0⟩) (c0 : PySem.W.codeIn K cd0 "Reader.__init__" = true) (k0 : PySem.W.keepIn K (.ref f0) = true)
    (a1 : PySem.W.findIn K (.ref C) "is_at_end" = some (some (.ref f1))) (i1 : PySem.W.isFn K (.ref f1) = true) (l1 : K.lookup f1 = some ⟨oc1, od1, .func (PySem.W.fnOf "is_at_end" "Reader.is_at_end" (defArgs s_Reader_is_at_end) (defBody s_Reader_is_at_end) (defScope s_Reader_is_at_end) .none kV1 dc1 pm1 an1 cd1 ct1), sl1⟩) (c1 : PySem.W.codeIn K cd1 "Reader.is_at_end" = true) (k1 : PySem.W.keepIn K (.ref f1) = true)
    (a2 : PySem.W.findIn K (.ref C) "take_numbers" = some (some (.ref f2))) (i2 : PySem.W.isFn K (.ref f2) = true) (l2 : K.lookup f2 = some ⟨oc2, od2, .func (PySem.W.fnOf "take_numbers" "Reader.take_numbers" (defArgs s_Reader_take_numbers) (defBody s_Reader_take_numbers) (defScope s_Reader_take_numbers) .none kV2 dc2 pm2 an2 cd2 ct2), sl2⟩) (c2 : PySem.W.codeIn K cd2 "Reader.take_numbers" = true) (k2 : PySem.W.keepIn K (.ref f2) = true)
    (a3 : PySem.W.findIn K (.ref C) "take_number" = some (some (.ref f3))) (i3 : PySem.W.isFn K (.ref f3) = true) (l3 : K.lookup f3 = some ⟨oc3, od3, .func (PySem.W.fnOf "take_number" "Reader.take_number" (defArgs s_Reader_take_number) (defBody s_Reader_take_number) (defScope s_Reader_take_number) .none kV3 dc3 pm3 an3 cd3 ct3), sl3⟩) (c3 : PySem.W.codeIn K cd3 "Reader.take_number" = true) (k3 : PySem.W.keepIn K (.ref f3) = true)
    (a4 : PySem.W.findIn K (.ref C) "take_row" = some (some (.ref f4))) (i4 : PySem.W.isFn K (.ref f4) = true) (l4 : K.lookup f4 = some ⟨oc4, od4, .func (PySem.W.fnOf "take_row" "Reader.take_row" (defArgs s_Reader_take_row) (defBody s_Reader_take_row) (defScope s_Reader_take_row) .none kV4 dc4 pm4 an4 cd4 ct4), sl4⟩) (c4 : PySem.W.codeIn K cd4 "Reader.take_row" = true) (k4 : PySem.W.keepIn K (.ref f4) = true)
    (pg : PySem.W.plainGet K C Str.empty = true) (hd : PySem.W.hasDictIn K C = true) (po : PySem.W.plainOver K C = true) (sa : PySem.W.findIn K (.ref C) "__setattr__" = some (some (.builtin "object.__setattr__"))) (mk : PySem.W.makesIn K C = true) (kc : PySem.W.keepIn K (.ref C) = true)
    (n_source : PySem.W.findIn K (.ref C) "source" = some none)
    (n_at : PySem.W.findIn K (.ref C) "at" = some none)
    : ∃ A : AdReader, TxReader K mg A := by
  have F0 := fun_mk (st := s_Reader_init) l0 c0 k0
  have b0 := F0.binds (ps := ["self", "source"]) (fun _ _ _ _ _ _ us hl => match us, hl with | [_, _], _ => rfl)
  have F1 := fun_mk (st := s_Reader_is_at_end) l1 c1 k1
  have b1 := F1.binds (ps := ["self"]) (fun _ _ _ _ _ _ us hl => match us, hl with | [_], _ => rfl)
  have F2 := fun_mk (st := s_Reader_take_numbers) l2 c2 k2
  have b2 := F2.binds (ps := ["self", "how_many"]) (fun _ _ _ _ _ _ us hl => match us, hl with | [_, _], _ => rfl)
  have F3 := fun_mk (st := s_Reader_take_number) l3 c3 k3
  have b3 := F3.binds (ps := ["self"]) (fun _ _ _ _ _ _ us hl => match us, hl with | [_], _ => rfl)
  have F4 := fun_mk (st := s_Reader_take_row) l4 c4 k4
  have b4 := F4.binds (ps := ["self"]) (fun _ _ _ _ _ _ us hl => match us, hl with | [_], _ => rfl)
  exact ⟨⟨C, ⟨f0, PySem.W.fnOf "__init__" "Reader.__init__" (defArgs s_Reader_init) (defBody s_Reader_init) (defScope s_Reader_init) .none kV0 dc0 pm0 an0 cd0 ct0⟩, ⟨f1, PySem.W.fnOf "is_at_end" "Reader.is_at_end" (defArgs s_Reader_is_at_end) (defBody s_Reader_is_at_end) (defScope s_Reader_is_at_end) .none kV1 dc1 pm1 an1 cd1 ct1⟩, ⟨f2, PySem.W.fnOf "take_numbers" "Reader.take_numbers" (defArgs s_Reader_take_numbers) (defBody s_Reader_take_numbers) (defScope s_Reader_take_numbers) .none kV2 dc2 pm2 an2 cd2 ct2⟩, ⟨f3, PySem.W.fnOf "take_number" "Reader.take_number" (defArgs s_Reader_take_number) (defBody s_Reader_take_number) (defScope s_Reader_take_number) .none kV3 dc3 pm3 an3 cd3 ct3⟩, ⟨f4, PySem.W.fnOf "take_row" "Reader.take_row" (defArgs s_Reader_take_row) (defBody s_Reader_take_row) (defScope s_Reader_take_row) .none kV4 dc4 pm4 an4 cd4 ct4⟩⟩, ⟨⟨pg, hd, po, sa⟩, PySem.W.mg_of X G aC, ⟨mk, a0, i0, kc⟩, n_source, n_at, F0, b0, F1, b1, ⟨a1, i1, k1⟩, F2, b2, ⟨a2, i2, k2⟩, F3, b3, ⟨a3, i3, k3⟩, F4, b4, ⟨a4, i4, k4⟩⟩⟩
theorem tx_Match {K : PySem.W.Frag} {h : Heap} {mg : Str → Option Value} {C f0 f1 f2 f3 f4 f5 f6 f7 f8 f9 f10 f11 f12 f13 : Addr} (X : K.In h) (G : h.Ns mainGlobals mg)
    {od0 an0 od1 an1 od2 an2 od3 an3 od4 an4 od5 an5 od6 an6 od7 an7 od8 an8 od9 an9 od10 an10 od11 an11 od12 an12 od13 an13 : Option Addr} {sl0 sl1 sl2 sl3 sl4 sl5 sl6 sl7 sl8 sl9 sl10 sl11 sl12 sl13 : Array (Option Value)} {oc0 kV0 dc0 pm0 cd0 ct0 oc1 kV1 dc1 pm1 cd1 ct1 oc2 kV2 dc2 pm2 cd2 ct2 oc3 kV3 dc3 pm3 cd3 ct3 oc4 kV4 dc4 pm4 cd4 ct4 oc5 kV5 dc5 pm5 cd5 ct5 oc6 kV6 dc6 pm6 cd6 ct6 oc7 kV7 dc7 pm7 cd7 ct7 oc8 kV8 dc8 pm8 cd8 ct8 oc9 kV9 dc9 pm9 cd9 ct9 oc10 kV10 dc10 pm10 cd10 ct10 oc11 kV11 dc11 pm11 cd11 ct11 oc12 kV12 dc12 pm12 cd12 ct12 oc13 kV13 dc13 pm13 cd13 ct13 : Value}
    (aC : PySem.W.nsIn K mainGlobals "Match" = some (some (.ref C)))
    (a0 : PySem.W.findIn K (.ref C) "__init__" = some (some (.ref f0))) (i0 : PySem.W.isFn K (.ref f0) = true) (l0 : K.lookup f0 = some ⟨oc0, od0, .func (PySem.W.fnOf "__init__" "Match.__init__" (defArgs s_Match_init) (defBody s_Match_init) (defScope s_Match_init) .none kV0 dc0 pm0 an0 cd0 ct0), sl0⟩) (c0 : PySem.W.codeIn K cd0 "Match.__init__" = true) (k0 : PySem.W.keepIn K (.ref f0) = true)
    (a1 : PySem.W.findIn K (.ref C) "begin" = some (some (.ref f1))) (i1 : PySem.W.isFn K (.ref f1) = true) (l1 : K.lookup f1 = some ⟨oc1, od1, .func (PySem.W.fnOf "begin" "Match.begin" (defArgs s_Match_begin) (defBody s_Match_begin) (defScope s_Match_begin) .none kV1 dc1 pm1 an1 cd1 ct1), sl1⟩) (c1 : PySem.W.codeIn K cd1 "Match.begin" = true) (k1 : PySem.W.keepIn K (.ref f1) = true)
    (a2 : PySem.W.findIn K (.ref C) "stroke" = some (some (.ref f2))) (i2 : PySem.W.isFn K (.ref f2) = true) (l2 : K.lookup f2 = some ⟨oc2, od2, .func (PySem.W.fnOf "stroke" "Match.stroke" (defArgs s_Match_stroke) (defBody s_Match_stroke) (defScope s_Match_stroke) .none kV2 dc2 pm2 an2 cd2 ct2), sl2⟩) (c2 : PySem.W.codeIn K cd2 "Match.stroke" = true) (k2 : PySem.W.keepIn K (.ref f2) = true)
    (a3 : PySem.W.findIn K (.ref C) "refusal_of_stroke" = some (some (.ref f3))) (i3 : PySem.W.isFn K (.ref f3) = true) (l3 : K.lookup f3 = some ⟨oc3, od3, .func (PySem.W.fnOf "refusal_of_stroke" "Match.refusal_of_stroke" (defArgs s_Match_refusal_of_stroke) (defBody s_Match_refusal_of_stroke) (defScope s_Match_refusal_of_stroke) .none kV3 dc3 pm3 an3 cd3 ct3), sl3⟩) (c3 : PySem.W.codeIn K cd3 "Match.refusal_of_stroke" = true) (k3 : PySem.W.keepIn K (.ref f3) = true)
    (a4 : PySem.W.findIn K (.ref C) "end_frame" = some (some (.ref f4))) (i4 : PySem.W.isFn K (.ref f4) = true) (l4 : K.lookup f4 = some ⟨oc4, od4, .func (PySem.W.fnOf "end_frame" "Match.end_frame" (defArgs s_Match_end_frame) (defBody s_Match_end_frame) (defScope s_Match_end_frame) .none kV4 dc4 pm4 an4 cd4 ct4), sl4⟩) (c4 : PySem.W.codeIn K cd4 "Match.end_frame" = true) (k4 : PySem.W.keepIn K (.ref f4) = true)
    (a5 : PySem.W.findIn K (.ref C) "again" = some (some (.ref f5))) (i5 : PySem.W.isFn K (.ref f5) = true) (l5 : K.lookup f5 = some ⟨oc5, od5, .func (PySem.W.fnOf "again" "Match.again" (defArgs s_Match_again) (defBody s_Match_again) (defScope s_Match_again) .none kV5 dc5 pm5 an5 cd5 ct5), sl5⟩) (c5 : PySem.W.codeIn K cd5 "Match.again" = true) (k5 : PySem.W.keepIn K (.ref f5) = true)
    (a6 : PySem.W.findIn K (.ref C) "back" = some (some (.ref f6))) (i6 : PySem.W.isFn K (.ref f6) = true) (l6 : K.lookup f6 = some ⟨oc6, od6, .func (PySem.W.fnOf "back" "Match.back" (defArgs s_Match_back) (defBody s_Match_back) (defScope s_Match_back) .none kV6 dc6 pm6 an6 cd6 ct6), sl6⟩) (c6 : PySem.W.codeIn K cd6 "Match.back" = true) (k6 : PySem.W.keepIn K (.ref f6) = true)
    (a7 : PySem.W.findIn K (.ref C) "toss" = some (some (.ref f7))) (i7 : PySem.W.isFn K (.ref f7) = true) (l7 : K.lookup f7 = some ⟨oc7, od7, .func (PySem.W.fnOf "toss" "Match.toss" (defArgs s_Match_toss) (defBody s_Match_toss) (defScope s_Match_toss) .none kV7 dc7 pm7 an7 cd7 ct7), sl7⟩) (c7 : PySem.W.codeIn K cd7 "Match.toss" = true) (k7 : PySem.W.keepIn K (.ref f7) = true)
    (a8 : PySem.W.findIn K (.ref C) "give" = some (some (.ref f8))) (i8 : PySem.W.isFn K (.ref f8) = true) (l8 : K.lookup f8 = some ⟨oc8, od8, .func (PySem.W.fnOf "give" "Match.give" (defArgs s_Match_give) (defBody s_Match_give) (defScope s_Match_give) .none kV8 dc8 pm8 an8 cd8 ct8), sl8⟩) (c8 : PySem.W.codeIn K cd8 "Match.give" = true) (k8 : PySem.W.keepIn K (.ref f8) = true)
    (a9 : PySem.W.findIn K (.ref C) "now" = some (some (.ref f9))) (i9 : PySem.W.isFn K (.ref f9) = true) (l9 : K.lookup f9 = some ⟨oc9, od9, .func (PySem.W.fnOf "now" "Match.now" (defArgs s_Match_now) (defBody s_Match_now) (defScope s_Match_now) .none kV9 dc9 pm9 an9 cd9 ct9), sl9⟩) (c9 : PySem.W.codeIn K cd9 "Match.now" = true) (k9 : PySem.W.keepIn K (.ref f9) = true)
    (a10 : PySem.W.findIn K (.ref C) "tell_frames" = some (some (.ref f10))) (i10 : PySem.W.isFn K (.ref f10) = true) (l10 : K.lookup f10 = some ⟨oc10, od10, .func (PySem.W.fnOf "tell_frames" "Match.tell_frames" (defArgs s_Match_tell_frames) (defBody s_Match_tell_frames) (defScope s_Match_tell_frames) .none kV10 dc10 pm10 an10 cd10 ct10), sl10⟩) (c10 : PySem.W.codeIn K cd10 "Match.tell_frames" = true) (k10 : PySem.W.keepIn K (.ref f10) = true)
    (a11 : PySem.W.findIn K (.ref C) "tell_match" = some (some (.ref f11))) (i11 : PySem.W.isFn K (.ref f11) = true) (l11 : K.lookup f11 = some ⟨oc11, od11, .func (PySem.W.fnOf "tell_match" "Match.tell_match" (defArgs s_Match_tell_match) (defBody s_Match_tell_match) (defScope s_Match_tell_match) .none kV11 dc11 pm11 an11 cd11 ct11), sl11⟩) (c11 : PySem.W.codeIn K cd11 "Match.tell_match" = true) (k11 : PySem.W.keepIn K (.ref f11) = true)
    (a12 : PySem.W.findIn K (.ref C) "highest_break" = some (some (.ref f12))) (i12 : PySem.W.isFn K (.ref f12) = true) (l12 : K.lookup f12 = some ⟨oc12, od12, .func (PySem.W.fnOf "highest_break" "Match.highest_break" (defArgs s_Match_highest_break) (defBody s_Match_highest_break) (defScope s_Match_highest_break) .none kV12 dc12 pm12 an12 cd12 ct12), sl12⟩) (c12 : PySem.W.codeIn K cd12 "Match.highest_break" = true) (k12 : PySem.W.keepIn K (.ref f12) = true)
    (a13 : PySem.W.findIn K (.ref C) "count_big_breaks" = some (some (.ref f13))) (i13 : PySem.W.isFn K (.ref f13) = true) (l13 : K.lookup f13 = some ⟨oc13, od13, .func (PySem.W.fnOf "count_big_breaks" "Match.count_big_breaks" (defArgs s_Match_count_big_breaks) (defBody s_Match_count_big_breaks) (defScope s_Match_count_big_breaks) .none kV13 dc13 pm13 an13 cd13 ct13), sl13⟩) (c13 : PySem.W.codeIn K cd13 "Match.count_big_breaks" = true) (k13 : PySem.W.keepIn K (.ref f13) = true)
    (pg : PySem.W.plainGet K C Str.empty = true) (hd : PySem.W.hasDictIn K C = true) (po : PySem.W.plainOver K C = true) (sa : PySem.W.findIn K (.ref C) "__setattr__" = some (some (.builtin "object.__setattr__"))) (mk : PySem.W.makesIn K C = true) (kc : PySem.W.keepIn K (.ref C) = true)
    (n_best : PySem.W.findIn K (.ref C) "best" = some none)
    (n_won : PySem.W.findIn K (.ref C) "won" = some none)
    (n_starter : PySem.W.findIn K (.ref C) "starter" = some none)
    (n_frame : PySem.W.findIn K (.ref C) "frame" = some none)
    (n_frames_over : PySem.W.findIn K (.ref C) "frames_over" = some none)
    : ∃ A : AdMatch, TxMatch K mg A := by
  have F0 := fun_mk (st := s_Match_init) l0 c0 k0
  have b0 := F0.binds (ps := ["self"]) (fun _ _ _ _ _ _ us hl => match us, hl with | [_], _ => rfl)
  have F1 := fun_mk (st := s_Match_begin) l1 c1 k1
  have b1 := F1.binds (ps := ["self", "best", "first"]) (fun _ _ _ _ _ _ us hl => match us, hl with | [_, _, _], _ => rfl)
  have F2 := fun_mk (st := s_Match_stroke) l2 c2 k2
  have b2 := F2.binds (ps := ["self", "told"]) (fun _ _ _ _ _ _ us hl => match us, hl with | [_, _], _ => rfl)
  have F3 := fun_mk (st := s_Match_refusal_of_stroke) l3 c3 k3
  have b3 := F3.binds (ps := ["self", "told"]) (fun _ _ _ _ _ _ us hl => match us, hl with | [_, _], _ => rfl)
  have F4 := fun_mk (st := s_Match_end_frame) l4 c4 k4
  have b4 := F4.binds (ps := ["self"]) (fun _ _ _ _ _ _ us hl => match us, hl with | [_], _ => rfl)
  have F5 := fun_mk (st := s_Match_again) l5 c5 k5
  have b5 := F5.binds (ps := ["self"]) (fun _ _ _ _ _ _ us hl => match us, hl with | [_], _ => rfl)
  have F6 := fun_mk (st := s_Match_back) l6 c6 k6
  have b6 := F6.binds (ps := ["self"]) (fun _ _ _ _ _ _ us hl => match us, hl with | [_], _ => rfl)
  have F7 := fun_mk (st := s_Match_toss) l7 c7 k7
  have b7 := F7.binds (ps := ["self", "who"]) (fun _ _ _ _ _ _ us hl => match us, hl with | [_, _], _ => rfl)
  have F8 := fun_mk (st := s_Match_give) l8 c8 k8
  have b8 := F8.binds (ps := ["self"]) (fun _ _ _ _ _ _ us hl => match us, hl with | [_], _ => rfl)
  have F9 := fun_mk (st := s_Match_now) l9 c9 k9
  have b9 := F9.binds (ps := ["self"]) (fun _ _ _ _ _ _ us hl => match us, hl with | [_], _ => rfl)
  have F10 := fun_mk (st := s_Match_tell_frames) l10 c10 k10
  have b10 := F10.binds (ps := ["self"]) (fun _ _ _ _ _ _ us hl => match us, hl with | [_], _ => rfl)
  have F11 := fun_mk (st := s_Match_tell_match) l11 c11 k11
  have b11 := F11.binds (ps := ["self"]) (fun _ _ _ _ _ _ us hl => match us, hl with | [_], _ => rfl)
  have F12 := fun_mk (st := s_Match_highest_break) l12 c12 k12
  have b12 := F12.binds (ps := ["self", "player"]) (fun _ _ _ _ _ _ us hl => match us, hl with | [_, _], _ => rfl)
  have F13 := fun_mk (st := s_Match_count_big_breaks) l13 c13 k13
  have b13 := F13.binds (ps := ["self", "player"]) (fun _ _ _ _ _ _ us hl => match us, hl with | [_, _], _ => rfl)
  exact ⟨⟨C, ⟨f0, PySem.W.fnOf "__init__" "Match.__init__" (defArgs s_Match_init) (defBody s_Match_init) (defScope s_Match_init) .none kV0 dc0 pm0 an0 cd0 ct0⟩, ⟨f1, PySem.W.fnOf "begin" "Match.begin" (defArgs s_Match_begin) (defBody s_Match_begin) (defScope s_Match_begin) .none kV1 dc1 pm1 an1 cd1 ct1⟩, ⟨f2, PySem.W.fnOf "stroke" "Match.stroke" (defArgs s_Match_stroke) (defBody s_Match_stroke) (defScope s_Match_stroke) .none kV2 dc2 pm2 an2 cd2 ct2⟩, ⟨f3, PySem.W.fnOf "refusal_of_stroke" "Match.refusal_of_stroke" (defArgs s_Match_refusal_of_stroke) (defBody s_Match_refusal_of_stroke) (defScope s_Match_refusal_of_stroke) .none kV3 dc3 pm3 an3 cd3 ct3⟩, ⟨f4, PySem.W.fnOf "end_frame" "Match.end_frame" (defArgs s_Match_end_frame) (defBody s_Match_end_frame) (defScope s_Match_end_frame) .none kV4 dc4 pm4 an4 cd4 ct4⟩, ⟨f5, PySem.W.fnOf "again" "Match.again" (defArgs s_Match_again) (defBody s_Match_again) (defScope s_Match_again) .none kV5 dc5 pm5 an5 cd5 ct5⟩, ⟨f6, PySem.W.fnOf "back" "Match.back" (defArgs s_Match_back) (defBody s_Match_back) (defScope s_Match_back) .none kV6 dc6 pm6 an6 cd6 ct6⟩, ⟨f7, PySem.W.fnOf "toss" "Match.toss" (defArgs s_Match_toss) (defBody s_Match_toss) (defScope s_Match_toss) .none kV7 dc7 pm7 an7 cd7 ct7⟩, ⟨f8, PySem.W.fnOf "give" "Match.give" (defArgs s_Match_give) (defBody s_Match_give) (defScope s_Match_give) .none kV8 dc8 pm8 an8 cd8 ct8⟩, ⟨f9, PySem.W.fnOf "now" "Match.now" (defArgs s_Match_now) (defBody s_Match_now) (defScope s_Match_now) .none kV9 dc9 pm9 an9 cd9 ct9⟩, ⟨f10, PySem.W.fnOf "tell_frames" "Match.tell_frames" (defArgs s_Match_tell_frames) (defBody s_Match_tell_frames) (defScope s_Match_tell_frames) .none kV10 dc10 pm10 an10 cd10 ct10⟩, ⟨f11, PySem.W.fnOf "tell_match" "Match.tell_match" (defArgs s_Match_tell_match) (defBody s_Match_tell_match) (defScope s_Match_tell_match) .none kV11 dc11 pm11 an11 cd11 ct11⟩, ⟨f12, PySem.W.fnOf "highest_break" "Match.highest_break" (defArgs s_Match_highest_break) (defBody s_Match_highest_break) (defScope s_Match_highest_break) .none kV12 dc12 pm12 an12 cd12 ct12⟩, ⟨f13, PySem.W.fnOf "count_big_breaks" "Match.count_big_breaks" (defArgs s_Match_count_big_breaks) (defBody s_Match_count_big_breaks) (defScope s_Match_count_big_breaks) .none kV13 dc13 pm13 an13 cd13 ct13⟩⟩, ⟨⟨pg, hd, po, sa⟩, PySem.W.mg_of X G aC, ⟨mk, a0, i0, kc⟩, n_best, n_won, n_starter, n_frame, n_frames_over, F0, b0, F1, b1, ⟨a1, i1, k1⟩, F2, b2, ⟨a2, i2, k2⟩, F3, b3, ⟨a3, i3, k3⟩, F4, b4, ⟨a4, i4, k4⟩, F5, b5, ⟨a5, i5, k5⟩, F6, b6, ⟨a6, i6, k6⟩, F7, b7, ⟨a7, i7, k7⟩, F8, b8, ⟨a8, i8, k8⟩, F9, b9, ⟨a9, i9, k9⟩, F10, b10, ⟨a10, i10, k10⟩, F11, b11, ⟨a11, i11, k11⟩, F12, b12, ⟨a12, i12, k12⟩, F13, b13, ⟨a13, i13, k13⟩⟩⟩
theorem tx_Funcs {K : PySem.W.Frag} {h : Heap} {mg : Str → Option Value} {f0 f1 f2 f3 f4 f5 f6 f7 f8 f9 f10 f11 f12 f13 f14 f15 f16 f17 f18 f19 : Addr} (X : K.In h) (G : h.Ns mainGlobals mg)
    {od0 an0 od1 an1 od2 an2 od3 an3 od4 an4 od5 an5 od6 an6 od7 an7 od8 an8 od9 an9 od10 an10 od11 an11 od12 an12 od13 an13 od14 an14 od15 an15 od16 an16 od17 an17 od18 an18 od19 an19 : Option Addr} {sl0 sl1 sl2 sl3 sl4 sl5 sl6 sl7 sl8 sl9 sl10 sl11 sl12 sl13 sl14 sl15 sl16 sl17 sl18 sl19 : Array (Option Value)} {oc0 kV0 dc0 pm0 cd0 ct0 oc1 kV1 dc1 pm1 cd1 ct1 oc2 kV2 dc2 pm2 cd2 ct2 oc3 kV3 dc3 pm3 cd3 ct3 oc4 kV4 dc4 pm4 cd4 ct4 oc5 kV5 dc5 pm5 cd5 ct5 oc6 kV6 dc6 pm6 cd6 ct6 oc7 kV7 dc7 pm7 cd7 ct7 oc8 kV8 dc8 pm8 cd8 ct8 oc9 kV9 dc9 pm9 cd9 ct9 oc10 kV10 dc10 pm10 cd10 ct10 oc11 kV11 dc11 pm11 cd11 ct11 oc12 kV12 dc12 pm12 cd12 ct12 oc13 kV13 dc13 pm13 cd13 ct13 oc14 kV14 dc14 pm14 cd14 ct14 oc15 kV15 dc15 pm15 cd15 ct15 oc16 kV16 dc16 pm16 cd16 ct16 oc17 kV17 dc17 pm17 cd17 ct17 oc18 kV18 dc18 pm18 cd18 ct18 oc19 kV19 dc19 pm19 cd19 ct19 : Value}
    (a0 : PySem.W.nsIn K mainGlobals "other" = some (some (.ref f0))) (l0 : K.lookup f0 = some ⟨oc0, od0, .func (PySem.W.fnOf "other" "other" (defArgs s_other) (defBody s_other) (defScope s_other) .none kV0 dc0 pm0 an0 cd0 ct0), sl0⟩) (c0 : PySem.W.codeIn K cd0 "other" = true) (k0 : PySem.W.keepIn K (.ref f0) = true)
    (a1 : PySem.W.nsIn K mainGlobals "is_within" = some (some (.ref f1))) (l1 : K.lookup f1 = some ⟨oc1, od1, .func (PySem.W.fnOf "is_within" "is_within" (defArgs s_is_within) (defBody s_is_within) (defScope s_is_within) .none kV1 dc1 pm1 an1 cd1 ct1), sl1⟩) (c1 : PySem.W.codeIn K cd1 "is_within" = true) (k1 : PySem.W.keepIn K (.ref f1) = true)
    (a2 : PySem.W.nsIn K mainGlobals "has_known_numbers" = some (some (.ref f2))) (l2 : K.lookup f2 = some ⟨oc2, od2, .func (PySem.W.fnOf "has_known_numbers" "has_known_numbers" (defArgs s_has_known_numbers) (defBody s_has_known_numbers) (defScope s_has_known_numbers) .none kV2 dc2 pm2 an2 cd2 ct2), sl2⟩) (c2 : PySem.W.codeIn K cd2 "has_known_numbers" = true) (k2 : PySem.W.keepIn K (.ref f2) = true)
    (a3 : PySem.W.nsIn K mainGlobals "can_have_been" = some (some (.ref f3))) (l3 : K.lookup f3 = some ⟨oc3, od3, .func (PySem.W.fnOf "can_have_been" "can_have_been" (defArgs s_can_have_been) (defBody s_can_have_been) (defScope s_can_have_been) .none kV3 dc3 pm3 an3 cd3 ct3), sl3⟩) (c3 : PySem.W.codeIn K cd3 "can_have_been" = true) (k3 : PySem.W.keepIn K (.ref f3) = true)
    (a4 : PySem.W.nsIn K mainGlobals "table_in_round" = some (some (.ref f4))) (l4 : K.lookup f4 = some ⟨oc4, od4, .func (PySem.W.fnOf "table_in_round" "table_in_round" (defArgs s_table_in_round) (defBody s_table_in_round) (defScope s_table_in_round) .none kV4 dc4 pm4 an4 cd4 ct4), sl4⟩) (c4 : PySem.W.codeIn K cd4 "table_in_round" = true) (k4 : PySem.W.keepIn K (.ref f4) = true)
    (a5 : PySem.W.nsIn K mainGlobals "full_table" = some (some (.ref f5))) (l5 : K.lookup f5 = some ⟨oc5, od5, .func (PySem.W.fnOf "full_table" "full_table" (defArgs s_full_table) (defBody s_full_table) (defScope s_full_table) .none kV5 dc5 pm5 an5 cd5 ct5), sl5⟩) (c5 : PySem.W.codeIn K cd5 "full_table" = true) (k5 : PySem.W.keepIn K (.ref f5) = true)
    (a6 : PySem.W.nsIn K mainGlobals "black_alone" = some (some (.ref f6))) (l6 : K.lookup f6 = some ⟨oc6, od6, .func (PySem.W.fnOf "black_alone" "black_alone" (defArgs s_black_alone) (defBody s_black_alone) (defScope s_black_alone) .none kV6 dc6 pm6 an6 cd6 ct6), sl6⟩) (c6 : PySem.W.codeIn K cd6 "black_alone" = true) (k6 : PySem.W.keepIn K (.ref f6) = true)
    (a7 : PySem.W.nsIn K mainGlobals "free_ball" = some (some (.ref f7))) (l7 : K.lookup f7 = some ⟨oc7, od7, .func (PySem.W.fnOf "free_ball" "free_ball" (defArgs s_free_ball) (defBody s_free_ball) (defScope s_free_ball) .none kV7 dc7 pm7 an7 cd7 ct7), sl7⟩) (c7 : PySem.W.codeIn K cd7 "free_ball" = true) (k7 : PySem.W.keepIn K (.ref f7) = true)
    (a8 : PySem.W.nsIn K mainGlobals "balls_on" = some (some (.ref f8))) (l8 : K.lookup f8 = some ⟨oc8, od8, .func (PySem.W.fnOf "balls_on" "balls_on" (defArgs s_balls_on) (defBody s_balls_on) (defScope s_balls_on) .none kV8 dc8 pm8 an8 cd8 ct8), sl8⟩) (c8 : PySem.W.codeIn K cd8 "balls_on" = true) (k8 : PySem.W.keepIn K (.ref f8) = true)
    (a9 : PySem.W.nsIn K mainGlobals "is_player" = some (some (.ref f9))) (l9 : K.lookup f9 = some ⟨oc9, od9, .func (PySem.W.fnOf "is_player" "is_player" (defArgs s_is_player) (defBody s_is_player) (defScope s_is_player) .none kV9 dc9 pm9 an9 cd9 ct9), sl9⟩) (c9 : PySem.W.codeIn K cd9 "is_player" = true) (k9 : PySem.W.keepIn K (.ref f9) = true)
    (a10 : PySem.W.nsIn K mainGlobals "call_begin" = some (some (.ref f10))) (l10 : K.lookup f10 = some ⟨oc10, od10, .func (PySem.W.fnOf "call_begin" "call_begin" (defArgs s_call_begin) (defBody s_call_begin) (defScope s_call_begin) .none kV10 dc10 pm10 an10 cd10 ct10), sl10⟩) (c10 : PySem.W.codeIn K cd10 "call_begin" = true) (k10 : PySem.W.keepIn K (.ref f10) = true)
    (a11 : PySem.W.nsIn K mainGlobals "call_stroke" = some (some (.ref f11))) (l11 : K.lookup f11 = some ⟨oc11, od11, .func (PySem.W.fnOf "call_stroke" "call_stroke" (defArgs s_call_stroke) (defBody s_call_stroke) (defScope s_call_stroke) .none kV11 dc11 pm11 an11 cd11 ct11), sl11⟩) (c11 : PySem.W.codeIn K cd11 "call_stroke" = true) (k11 : PySem.W.keepIn K (.ref f11) = true)
    (a12 : PySem.W.nsIn K mainGlobals "call_again" = some (some (.ref f12))) (l12 : K.lookup f12 = some ⟨oc12, od12, .func (PySem.W.fnOf "call_again" "call_again" (defArgs s_call_again) (defBody s_call_again) (defScope s_call_again) .none kV12 dc12 pm12 an12 cd12 ct12), sl12⟩) (c12 : PySem.W.codeIn K cd12 "call_again" = true) (k12 : PySem.W.keepIn K (.ref f12) = true)
    (a13 : PySem.W.nsIn K mainGlobals "call_back" = some (some (.ref f13))) (l13 : K.lookup f13 = some ⟨oc13, od13, .func (PySem.W.fnOf "call_back" "call_back" (defArgs s_call_back) (defBody s_call_back) (defScope s_call_back) .none kV13 dc13 pm13 an13 cd13 ct13), sl13⟩) (c13 : PySem.W.codeIn K cd13 "call_back" = true) (k13 : PySem.W.keepIn K (.ref f13) = true)
    (a14 : PySem.W.nsIn K mainGlobals "call_toss" = some (some (.ref f14))) (l14 : K.lookup f14 = some ⟨oc14, od14, .func (PySem.W.fnOf "call_toss" "call_toss" (defArgs s_call_toss) (defBody s_call_toss) (defScope s_call_toss) .none kV14 dc14 pm14 an14 cd14 ct14), sl14⟩) (c14 : PySem.W.codeIn K cd14 "call_toss" = true) (k14 : PySem.W.keepIn K (.ref f14) = true)
    (a15 : PySem.W.nsIn K mainGlobals "call_give" = some (some (.ref f15))) (l15 : K.lookup f15 = some ⟨oc15, od15, .func (PySem.W.fnOf "call_give" "call_give" (defArgs s_call_give) (defBody s_call_give) (defScope s_call_give) .none kV15 dc15 pm15 an15 cd15 ct15), sl15⟩) (c15 : PySem.W.codeIn K cd15 "call_give" = true) (k15 : PySem.W.keepIn K (.ref f15) = true)
    (a16 : PySem.W.nsIn K mainGlobals "call_now" = some (some (.ref f16))) (l16 : K.lookup f16 = some ⟨oc16, od16, .func (PySem.W.fnOf "call_now" "call_now" (defArgs s_call_now) (defBody s_call_now) (defScope s_call_now) .none kV16 dc16 pm16 an16 cd16 ct16), sl16⟩) (c16 : PySem.W.codeIn K cd16 "call_now" = true) (k16 : PySem.W.keepIn K (.ref f16) = true)
    (a17 : PySem.W.nsIn K mainGlobals "call_frames" = some (some (.ref f17))) (l17 : K.lookup f17 = some ⟨oc17, od17, .func (PySem.W.fnOf "call_frames" "call_frames" (defArgs s_call_frames) (defBody s_call_frames) (defScope s_call_frames) .none kV17 dc17 pm17 an17 cd17 ct17), sl17⟩) (c17 : PySem.W.codeIn K cd17 "call_frames" = true) (k17 : PySem.W.keepIn K (.ref f17) = true)
    (a18 : PySem.W.nsIn K mainGlobals "call_match" = some (some (.ref f18))) (l18 : K.lookup f18 = some ⟨oc18, od18, .func (PySem.W.fnOf "call_match" "call_match" (defArgs s_call_match) (defBody s_call_match) (defScope s_call_match) .none kV18 dc18 pm18 an18 cd18 ct18), sl18⟩) (c18 : PySem.W.codeIn K cd18 "call_match" = true) (k18 : PySem.W.keepIn K (.ref f18) = true)
    (a19 : PySem.W.nsIn K mainGlobals "answers" = some (some (.ref f19))) (l19 : K.lookup f19 = some ⟨oc19, od19, .func (PySem.W.fnOf "answers" "answers" (defArgs s_answers) (defBody s_answers) (defScope s_answers) .none kV19 dc19 pm19 an19 cd19 ct19), sl19⟩) (c19 : PySem.W.codeIn K cd19 "answers" = true) (k19 : PySem.W.keepIn K (.ref f19) = true)
    {D0 : Addr} {dn0 : Nat} {e0_0 e0_1 e0_2 e0_3 e0_4 e0_5 e0_6 e0_7 e0_8 : Tok} (dA0 : PySem.W.nsIn K mainGlobals "CALLS" = some (some (.ref D0))) (dL0 : K.lookup D0 = some ⟨.type "dict", none, .dict #[⟨1, .int 1 e0_0, .ref f10⟩, ⟨2, .int 2 e0_1, .ref f11⟩, ⟨3, .int 3 e0_2, .ref f12⟩, ⟨4, .int 4 e0_3, .ref f13⟩, ⟨5, .int 5 e0_4, .ref f14⟩, ⟨6, .int 6 e0_5, .ref f15⟩, ⟨7, .int 7 e0_6, .ref f16⟩, ⟨8, .int 8 e0_7, .ref f17⟩, ⟨9, .int 9 e0_8, .ref f18⟩] dn0, #[]⟩)
    : ∃ A : AdFuncs, TxFuncs K mg A ∧ KDict K mg "CALLS" [(1, A.call_begin.f), (2, A.call_stroke.f), (3, A.call_again.f), (4, A.call_back.f), (5, A.call_toss.f), (6, A.call_give.f), (7, A.call_now.f), (8, A.call_frames.f), (9, A.call_match.f)] := by
  have F0 := fun_mk (st := s_other) l0 c0 k0
  have b0 := F0.binds (ps := ["player"]) (fun _ _ _ _ _ _ us hl => match us, hl with | [_], _ => rfl)
  have F1 := fun_mk (st := s_is_within) l1 c1 k1
  have b1 := F1.binds (ps := ["number", "highest"]) (fun _ _ _ _ _ _ us hl => match us, hl with | [_, _], _ => rfl)
  have F2 := fun_mk (st := s_has_known_numbers) l2 c2 k2
  have b2 := F2.binds (ps := ["told"]) (fun _ _ _ _ _ _ us hl => match us, hl with | [_], _ => rfl)
  have F3 := fun_mk (st := s_can_have_been) l3 c3 k3
  have b3 := F3.binds (ps := ["told", "table"]) (fun _ _ _ _ _ _ us hl => match us, hl with | [_, _], _ => rfl)
  have F4 := fun_mk (st := s_table_in_round) l4 c4 k4
  have b4 := F4.binds (ps := ["reds", "lowest"]) (fun _ _ _ _ _ _ us hl => match us, hl with | [_, _], _ => rfl)
  have F5 := fun_mk (st := s_full_table) l5 c5 k5
  have b5 := F5.binds (ps := []) (fun _ _ _ _ _ _ us hl => match us, hl with | [], _ => rfl)
  have F6 := fun_mk (st := s_black_alone) l6 c6 k6
  have b6 := F6.binds (ps := []) (fun _ _ _ _ _ _ us hl => match us, hl with | [], _ => rfl)
  have F7 := fun_mk (st := s_free_ball) l7 c7 k7
  have b7 := F7.binds (ps := ["told", "table", "may_name_free"]) (fun _ _ _ _ _ _ us hl => match us, hl with | [_, _, _], _ => rfl)
  have F8 := fun_mk (st := s_balls_on) l8 c8 k8
  have b8 := F8.binds (ps := ["told", "table", "free"]) (fun _ _ _ _ _ _ us hl => match us, hl with | [_, _, _], _ => rfl)
  have F9 := fun_mk (st := s_is_player) l9 c9 k9
  have b9 := F9.binds (ps := ["number"]) (fun _ _ _ _ _ _ us hl => match us, hl with | [_], _ => rfl)
  have F10 := fun_mk (st := s_call_begin) l10 c10 k10
  have b10 := F10.binds (ps := ["the_match", "reader"]) (fun _ _ _ _ _ _ us hl => match us, hl with | [_, _], _ => rfl)
  have F11 := fun_mk (st := s_call_stroke) l11 c11 k11
  have b11 := F11.binds (ps := ["the_match", "reader"]) (fun _ _ _ _ _ _ us hl => match us, hl with | [_, _], _ => rfl)
  have F12 := fun_mk (st := s_call_again) l12 c12 k12
  have b12 := F12.binds (ps := ["the_match", "reader"]) (fun _ _ _ _ _ _ us hl => match us, hl with | [_, _], _ => rfl)
  have F13 := fun_mk (st := s_call_back) l13 c13 k13
  have b13 := F13.binds (ps := ["the_match", "reader"]) (fun _ _ _ _ _ _ us hl => match us, hl with | [_, _], _ => rfl)
  have F14 := fun_mk (st := s_call_toss) l14 c14 k14
  have b14 := F14.binds (ps := ["the_match", "reader"]) (fun _ _ _ _ _ _ us hl => match us, hl with | [_, _], _ => rfl)
  have F15 := fun_mk (st := s_call_give) l15 c15 k15
  have b15 := F15.binds (ps := ["the_match", "reader"]) (fun _ _ _ _ _ _ us hl => match us, hl with | [_, _], _ => rfl)
  have F16 := fun_mk (st := s_call_now) l16 c16 k16
  have b16 := F16.binds (ps := ["the_match", "reader"]) (fun _ _ _ _ _ _ us hl => match us, hl with | [_, _], _ => rfl)
  have F17 := fun_mk (st := s_call_frames) l17 c17 k17
  have b17 := F17.binds (ps := ["the_match", "reader"]) (fun _ _ _ _ _ _ us hl => match us, hl with | [_, _], _ => rfl)
  have F18 := fun_mk (st := s_call_match) l18 c18 k18
  have b18 := F18.binds (ps := ["the_match", "reader"]) (fun _ _ _ _ _ _ us hl => match us, hl with | [_, _], _ => rfl)
  have F19 := fun_mk (st := s_answers) l19 c19 k19
  have b19 := F19.binds (ps := ["calls"]) (fun _ _ _ _ _ _ us hl => match us, hl with | [_], _ => rfl)
  exact ⟨⟨⟨f0, PySem.W.fnOf "other" "other" (defArgs s_other) (defBody s_other) (defScope s_other) .none kV0 dc0 pm0 an0 cd0 ct0⟩, ⟨f1, PySem.W.fnOf "is_within" "is_within" (defArgs s_is_within) (defBody s_is_within) (defScope s_is_within) .none kV1 dc1 pm1 an1 cd1 ct1⟩, ⟨f2, PySem.W.fnOf "has_known_numbers" "has_known_numbers" (defArgs s_has_known_numbers) (defBody s_has_known_numbers) (defScope s_has_known_numbers) .none kV2 dc2 pm2 an2 cd2 ct2⟩, ⟨f3, PySem.W.fnOf "can_have_been" "can_have_been" (defArgs s_can_have_been) (defBody s_can_have_been) (defScope s_can_have_been) .none kV3 dc3 pm3 an3 cd3 ct3⟩, ⟨f4, PySem.W.fnOf "table_in_round" "table_in_round" (defArgs s_table_in_round) (defBody s_table_in_round) (defScope s_table_in_round) .none kV4 dc4 pm4 an4 cd4 ct4⟩, ⟨f5, PySem.W.fnOf "full_table" "full_table" (defArgs s_full_table) (defBody s_full_table) (defScope s_full_table) .none kV5 dc5 pm5 an5 cd5 ct5⟩, ⟨f6, PySem.W.fnOf "black_alone" "black_alone" (defArgs s_black_alone) (defBody s_black_alone) (defScope s_black_alone) .none kV6 dc6 pm6 an6 cd6 ct6⟩, ⟨f7, PySem.W.fnOf "free_ball" "free_ball" (defArgs s_free_ball) (defBody s_free_ball) (defScope s_free_ball) .none kV7 dc7 pm7 an7 cd7 ct7⟩, ⟨f8, PySem.W.fnOf "balls_on" "balls_on" (defArgs s_balls_on) (defBody s_balls_on) (defScope s_balls_on) .none kV8 dc8 pm8 an8 cd8 ct8⟩, ⟨f9, PySem.W.fnOf "is_player" "is_player" (defArgs s_is_player) (defBody s_is_player) (defScope s_is_player) .none kV9 dc9 pm9 an9 cd9 ct9⟩, ⟨f10, PySem.W.fnOf "call_begin" "call_begin" (defArgs s_call_begin) (defBody s_call_begin) (defScope s_call_begin) .none kV10 dc10 pm10 an10 cd10 ct10⟩, ⟨f11, PySem.W.fnOf "call_stroke" "call_stroke" (defArgs s_call_stroke) (defBody s_call_stroke) (defScope s_call_stroke) .none kV11 dc11 pm11 an11 cd11 ct11⟩, ⟨f12, PySem.W.fnOf "call_again" "call_again" (defArgs s_call_again) (defBody s_call_again) (defScope s_call_again) .none kV12 dc12 pm12 an12 cd12 ct12⟩, ⟨f13, PySem.W.fnOf "call_back" "call_back" (defArgs s_call_back) (defBody s_call_back) (defScope s_call_back) .none kV13 dc13 pm13 an13 cd13 ct13⟩, ⟨f14, PySem.W.fnOf "call_toss" "call_toss" (defArgs s_call_toss) (defBody s_call_toss) (defScope s_call_toss) .none kV14 dc14 pm14 an14 cd14 ct14⟩, ⟨f15, PySem.W.fnOf "call_give" "call_give" (defArgs s_call_give) (defBody s_call_give) (defScope s_call_give) .none kV15 dc15 pm15 an15 cd15 ct15⟩, ⟨f16, PySem.W.fnOf "call_now" "call_now" (defArgs s_call_now) (defBody s_call_now) (defScope s_call_now) .none kV16 dc16 pm16 an16 cd16 ct16⟩, ⟨f17, PySem.W.fnOf "call_frames" "call_frames" (defArgs s_call_frames) (defBody s_call_frames) (defScope s_call_frames) .none kV17 dc17 pm17 an17 cd17 ct17⟩, ⟨f18, PySem.W.fnOf "call_match" "call_match" (defArgs s_call_match) (defBody s_call_match) (defScope s_call_match) .none kV18 dc18 pm18 an18 cd18 ct18⟩, ⟨f19, PySem.W.fnOf "answers" "answers" (defArgs s_answers) (defBody s_answers) (defScope s_answers) .none kV19 dc19 pm19 an19 cd19 ct19⟩⟩, ⟨F0, b0, PySem.W.mg_of X G a0, F1, b1, PySem.W.mg_of X G a1, F2, b2, PySem.W.mg_of X G a2, F3, b3, PySem.W.mg_of X G a3, F4, b4, PySem.W.mg_of X G a4, F5, b5, PySem.W.mg_of X G a5, F6, b6, PySem.W.mg_of X G a6, F7, b7, PySem.W.mg_of X G a7, F8, b8, PySem.W.mg_of X G a8, F9, b9, PySem.W.mg_of X G a9, F10, b10, PySem.W.mg_of X G a10, F11, b11, PySem.W.mg_of X G a11, F12, b12, PySem.W.mg_of X G a12, F13, b13, PySem.W.mg_of X G a13, F14, b14, PySem.W.mg_of X G a14, F15, b15, PySem.W.mg_of X G a15, F16, b16, PySem.W.mg_of X G a16, F17, b17, PySem.W.mg_of X G a17, F18, b18, PySem.W.mg_of X G a18, F19, b19, PySem.W.mg_of X G a19⟩, ⟨D0, _, _, PySem.W.mg_of X G dA0, dL0, .cons ⟨⟨_, rfl⟩, rfl, rfl⟩ (.cons ⟨⟨_, rfl⟩, rfl, rfl⟩ (.cons ⟨⟨_, rfl⟩, rfl, rfl⟩ (.cons ⟨⟨_, rfl⟩, rfl, rfl⟩ (.cons ⟨⟨_, rfl⟩, rfl, rfl⟩ (.cons ⟨⟨_, rfl⟩, rfl, rfl⟩ (.cons ⟨⟨_, rfl⟩, rfl, rfl⟩ (.cons ⟨⟨_, rfl⟩, rfl, rfl⟩ (.cons ⟨⟨_, rfl⟩, rfl, rfl⟩ (.nil)))))))))⟩⟩
theorem tx_Const {K : PySem.W.Frag} {h : Heap} {mg : Str → Option Value} (X : K.In h) (G : h.Ns mainGlobals mg) {t0 t1 t2 t3 t4 t5 t6 t7 t8 t9 t10 t11 t12 t13 t14 t15 t16 t17 t18 t19 t20 t21 t22 t23 t24 t25 t26 t27 : Tok}
    (a0 : PySem.W.nsIn K mainGlobals "WHITE" = some (some (.int 0 t0)))
    (a1 : PySem.W.nsIn K mainGlobals "RED" = some (some (.int 1 t1)))
    (a2 : PySem.W.nsIn K mainGlobals "YELLOW" = some (some (.int 2 t2)))
    (a3 : PySem.W.nsIn K mainGlobals "BLACK" = some (some (.int 7 t3)))
    (a4 : PySem.W.nsIn K mainGlobals "ALL_REDS" = some (some (.int 15 t4)))
    (a5 : PySem.W.nsIn K mainGlobals "NOTHING" = some (some (.int 0 t5)))
    (a6 : PySem.W.nsIn K mainGlobals "ANY_COLOUR" = some (some (.int 0 t6)))
    (a7 : PySem.W.nsIn K mainGlobals "ABOUT_NO_BALL" = some (some (.int 8 t7)))
    (a8 : PySem.W.nsIn K mainGlobals "MISS_IN_SIGHT" = some (some (.int 2 t8)))
    (a9 : PySem.W.nsIn K mainGlobals "ALL_COLOURS_WORTH" = some (some (.int 27 t9)))
    (a10 : PySem.W.nsIn K mainGlobals "RED_AND_BLACK_WORTH" = some (some (.int 8 t10)))
    (a11 : PySem.W.nsIn K mainGlobals "LEAST_COST" = some (some (.int 4 t11)))
    (a12 : PySem.W.nsIn K mainGlobals "NOBODY" = some (some (.int 2 t12)))
    (a13 : PySem.W.nsIn K mainGlobals "TO_BE_TOSSED" = some (some (.int 2 t13)))
    (a14 : PySem.W.nsIn K mainGlobals "MISSES_THAT_LOSE" = some (some (.int 3 t14)))
    (a15 : PySem.W.nsIn K mainGlobals "MADE_NOTHING" = some (some (.int 0 t15)))
    (a16 : PySem.W.nsIn K mainGlobals "MADE_SOMETHING" = some (some (.int 1 t16)))
    (a17 : PySem.W.nsIn K mainGlobals "FOUL" = some (some (.int 2 t17)))
    (a18 : PySem.W.nsIn K mainGlobals "PLAYED_OUT" = some (some (.int 0 t18)))
    (a19 : PySem.W.nsIn K mainGlobals "GIVEN_UP" = some (some (.int 1 t19)))
    (a20 : PySem.W.nsIn K mainGlobals "LOST_BY_MISSES" = some (some (.int 2 t20)))
    (a21 : PySem.W.nsIn K mainGlobals "BIG_BREAK" = some (some (.int 100 t21)))
    (a22 : PySem.W.nsIn K mainGlobals "MOST_FRAMES" = some (some (.int 35 t22)))
    (a23 : PySem.W.nsIn K mainGlobals "UNKNOWN_NUMBER" = some (some (.int (-1) t23)))
    (a24 : PySem.W.nsIn K mainGlobals "NO_FRAME" = some (some (.int (-2) t24)))
    (a25 : PySem.W.nsIn K mainGlobals "TOSS_FIRST" = some (some (.int (-3) t25)))
    (a26 : PySem.W.nsIn K mainGlobals "CANNOT_HAVE_BEEN" = some (some (.int (-4) t26)))
    (a27 : PySem.W.nsIn K mainGlobals "NOT_NOW" = some (some (.int (-5) t27)))
    (b0 : PySem.W.nsIn K mainGlobals "len" = some none)
    (b1 : PySem.W.nsIn K mainGlobals "max" = some none)
    (b2 : PySem.W.nsIn K mainGlobals "sum" = some none)
    (b3 : PySem.W.nsIn K mainGlobals "any" = some none)
    (b4 : PySem.W.nsIn K mainGlobals "all" = some none)
    (b5 : PySem.W.nsIn K mainGlobals "abs" = some none)
    (b6 : PySem.W.nsIn K mainGlobals "range" = some none)
    : TxConst mg := ⟨⟨_, PySem.W.mg_of X G a0⟩, ⟨_, PySem.W.mg_of X G a1⟩, ⟨_, PySem.W.mg_of X G a2⟩, ⟨_, PySem.W.mg_of X G a3⟩, ⟨_, PySem.W.mg_of X G a4⟩, ⟨_, PySem.W.mg_of X G a5⟩, ⟨_, PySem.W.mg_of X G a6⟩, ⟨_, PySem.W.mg_of X G a7⟩, ⟨_, PySem.W.mg_of X G a8⟩, ⟨_, PySem.W.mg_of X G a9⟩, ⟨_, PySem.W.mg_of X G a10⟩, ⟨_, PySem.W.mg_of X G a11⟩, ⟨_, PySem.W.mg_of X G a12⟩, ⟨_, PySem.W.mg_of X G a13⟩, ⟨_, PySem.W.mg_of X G a14⟩, ⟨_, PySem.W.mg_of X G a15⟩, ⟨_, PySem.W.mg_of X G a16⟩, ⟨_, PySem.W.mg_of X G a17⟩, ⟨_, PySem.W.mg_of X G a18⟩, ⟨_, PySem.W.mg_of X G a19⟩, ⟨_, PySem.W.mg_of X G a20⟩, ⟨_, PySem.W.mg_of X G a21⟩, ⟨_, PySem.W.mg_of X G a22⟩, ⟨_, PySem.W.mg_of X G a23⟩, ⟨_, PySem.W.mg_of X G a24⟩, ⟨_, PySem.W.mg_of X G a25⟩, ⟨_, PySem.W.mg_of X G a26⟩, ⟨_, PySem.W.mg_of X G a27⟩, PySem.W.mg_none_of X G b0, PySem.W.mg_none_of X G b1, PySem.W.mg_none_of X G b2, PySem.W.mg_none_of X G b3, PySem.W.mg_none_of X G b4, PySem.W.mg_none_of X G b5, PySem.W.mg_none_of X G b6⟩
end Cue
end
section
set_option Elab.async false
set_option linter.all false
set_option maxRecDepth 100000
set_option autoImplicit false
namespace Cue
open PySem PySem.Spec PyProof.Rows L2
section
variable {K : PySem.W.Frag} {mg : Str → Option Value} {A : Adr} {H H' : Hp} {a : Addr}
def Stroke_fs (v_named v_hit v_conduct v_hidden v_miss v_potted v_off : V) : List (Str × V) := [(("named" : Str), v_named), (("hit" : Str), v_hit), (("conduct" : Str), v_conduct), (("hidden" : Str), v_hidden), (("miss" : Str), v_miss), (("potted" : Str), v_potted), (("off" : Str), v_off)]
def StrokeAt (A : Adr) (H : Hp) (a : Addr) (v_named v_hit v_conduct v_hidden v_miss v_potted v_off : V) : Prop := ∃ dx, H a = some (.ins A.Stroke.c dx (Stroke_fs v_named v_hit v_conduct v_hidden v_miss v_potted v_off))
theorem StrokeAt.mono {v_named v_hit v_conduct v_hidden v_miss v_potted v_off : V} (s : Same H H') (h : StrokeAt A H a v_named v_hit v_conduct v_hidden v_miss v_potted v_off) : StrokeAt A H' a v_named v_hit v_conduct v_hidden v_miss v_potted v_off := let ⟨dx, e⟩ := h; ⟨dx, s _ _ e⟩
theorem Stroke_g_named (v_named v_hit v_conduct v_hidden v_miss v_potted v_off : V) : (Stroke_fs v_named v_hit v_conduct v_hidden v_miss v_potted v_off).lookup ("named" : Str) = some v_named := by kernel_rfl
theorem StrokeAt.named {v_named v_hit v_conduct v_hidden v_miss v_potted v_off : V} (h : StrokeAt A H a v_named v_hit v_conduct v_hidden v_miss v_potted v_off) (T : Txt K mg A) : Fld K H (.ref a) "named" v_named := let ⟨dx, e⟩ := h; ⟨a, _, dx, _, rfl, e, T.Stroke.cl, T.Stroke.na_named, Stroke_g_named v_named v_hit v_conduct v_hidden v_miss v_potted v_off⟩
theorem Stroke_g_hit (v_named v_hit v_conduct v_hidden v_miss v_potted v_off : V) : (Stroke_fs v_named v_hit v_conduct v_hidden v_miss v_potted v_off).lookup ("hit" : Str) = some v_hit := by kernel_rfl
theorem StrokeAt.hit {v_named v_hit v_conduct v_hidden v_miss v_potted v_off : V} (h : StrokeAt A H a v_named v_hit v_conduct v_hidden v_miss v_potted v_off) (T : Txt K mg A) : Fld K H (.ref a) "hit" v_hit := let ⟨dx, e⟩ := h; ⟨a, _, dx, _, rfl, e, T.Stroke.cl, T.Stroke.na_hit, Stroke_g_hit v_named v_hit v_conduct v_hidden v_miss v_potted v_off⟩
theorem Stroke_g_conduct (v_named v_hit v_conduct v_hidden v_miss v_potted v_off : V) : (Stroke_fs v_named v_hit v_conduct v_hidden v_miss v_potted v_off).lookup ("conduct" : Str) = some v_conduct := by kernel_rfl
theorem StrokeAt.conduct {v_named v_hit v_conduct v_hidden v_miss v_potted v_off : V} (h : StrokeAt A H a v_named v_hit v_conduct v_hidden v_miss v_potted v_off) (T : Txt K mg A) : Fld K H (.ref a) "conduct" v_conduct := let ⟨dx, e⟩ := h; ⟨a, _, dx, _, rfl, e, T.Stroke.cl, T.Stroke.na_conduct, Stroke_g_conduct v_named v_hit v_conduct v_hidden v_miss v_potted v_off⟩
theorem Stroke_g_hidden (v_named v_hit v_conduct v_hidden v_miss v_potted v_off : V) : (Stroke_fs v_named v_hit v_conduct v_hidden v_miss v_potted v_off).lookup ("hidden" : Str) = some v_hidden := by kernel_rfl
theorem StrokeAt.hidden {v_named v_hit v_conduct v_hidden v_miss v_potted v_off : V} (h : StrokeAt A H a v_named v_hit v_conduct v_hidden v_miss v_potted v_off) (T : Txt K mg A) : Fld K H (.ref a) "hidden" v_hidden := let ⟨dx, e⟩ := h; ⟨a, _, dx, _, rfl, e, T.Stroke.cl, T.Stroke.na_hidden, Stroke_g_hidden v_named v_hit v_conduct v_hidden v_miss v_potted v_off⟩
theorem Stroke_g_miss (v_named v_hit v_conduct v_hidden v_miss v_potted v_off : V) : (Stroke_fs v_named v_hit v_conduct v_hidden v_miss v_potted v_off).lookup ("miss" : Str) = some v_miss := by kernel_rfl
theorem StrokeAt.miss {v_named v_hit v_conduct v_hidden v_miss v_potted v_off : V} (h : StrokeAt A H a v_named v_hit v_conduct v_hidden v_miss v_potted v_off) (T : Txt K mg A) : Fld K H (.ref a) "miss" v_miss := let ⟨dx, e⟩ := h; ⟨a, _, dx, _, rfl, e, T.Stroke.cl, T.Stroke.na_miss, Stroke_g_miss v_named v_hit v_conduct v_hidden v_miss v_potted v_off⟩
theorem Stroke_g_potted (v_named v_hit v_conduct v_hidden v_miss v_potted v_off : V) : (Stroke_fs v_named v_hit v_conduct v_hidden v_miss v_potted v_off).lookup ("potted" : Str) = some v_potted := by kernel_rfl
theorem StrokeAt.potted {v_named v_hit v_conduct v_hidden v_miss v_potted v_off : V} (h : StrokeAt A H a v_named v_hit v_conduct v_hidden v_miss v_potted v_off) (T : Txt K mg A) : Fld K H (.ref a) "potted" v_potted := let ⟨dx, e⟩ := h; ⟨a, _, dx, _, rfl, e, T.Stroke.cl, T.Stroke.na_potted, Stroke_g_potted v_named v_hit v_conduct v_hidden v_miss v_potted v_off⟩
theorem Stroke_g_off (v_named v_hit v_conduct v_hidden v_miss v_potted v_off : V) : (Stroke_fs v_named v_hit v_conduct v_hidden v_miss v_potted v_off).lookup ("off" : Str) = some v_off := by kernel_rfl
theorem StrokeAt.off {v_named v_hit v_conduct v_hidden v_miss v_potted v_off : V} (h : StrokeAt A H a v_named v_hit v_conduct v_hidden v_miss v_potted v_off) (T : Txt K mg A) : Fld K H (.ref a) "off" v_off := let ⟨dx, e⟩ := h; ⟨a, _, dx, _, rfl, e, T.Stroke.cl, T.Stroke.na_off, Stroke_g_off v_named v_hit v_conduct v_hidden v_miss v_potted v_off⟩
theorem Stroke_n_names_colour (v_named v_hit v_conduct v_hidden v_miss v_potted v_off : V) : (Stroke_fs v_named v_hit v_conduct v_hidden v_miss v_potted v_off).lookup ("names_colour" : Str) = none := by kernel_rfl
theorem StrokeAt.o_names_colour {v_named v_hit v_conduct v_hidden v_miss v_potted v_off : V} (h : StrokeAt A H a v_named v_hit v_conduct v_hidden v_miss v_potted v_off) : Ob A.Stroke.c "names_colour" H (.ref a) := let ⟨dx, e⟩ := h; ⟨a, dx, _, rfl, e, Stroke_n_names_colour v_named v_hit v_conduct v_hidden v_miss v_potted v_off⟩
theorem Stroke_n_reds_gone (v_named v_hit v_conduct v_hidden v_miss v_potted v_off : V) : (Stroke_fs v_named v_hit v_conduct v_hidden v_miss v_potted v_off).lookup ("reds_gone" : Str) = none := by kernel_rfl
theorem StrokeAt.o_reds_gone {v_named v_hit v_conduct v_hidden v_miss v_potted v_off : V} (h : StrokeAt A H a v_named v_hit v_conduct v_hidden v_miss v_potted v_off) : Ob A.Stroke.c "reds_gone" H (.ref a) := let ⟨dx, e⟩ := h; ⟨a, dx, _, rfl, e, Stroke_n_reds_gone v_named v_hit v_conduct v_hidden v_miss v_potted v_off⟩
theorem Stroke_l1 (v_named : V) : ((putF ("named" : Str) v_named [])).length < 1000 := of_decide_eq_true (by kernel_rfl)
theorem Stroke_l2 (v_named v_hit : V) : ((putF ("hit" : Str) v_hit (putF ("named" : Str) v_named []))).length < 1000 := of_decide_eq_true (by kernel_rfl)
theorem Stroke_l3 (v_named v_hit v_conduct : V) : ((putF ("conduct" : Str) v_conduct (putF ("hit" : Str) v_hit (putF ("named" : Str) v_named [])))).length < 1000 := of_decide_eq_true (by kernel_rfl)
theorem Stroke_l4 (v_named v_hit v_conduct v_hidden : V) : ((putF ("hidden" : Str) v_hidden (putF ("conduct" : Str) v_conduct (putF ("hit" : Str) v_hit (putF ("named" : Str) v_named []))))).length < 1000 := of_decide_eq_true (by kernel_rfl)
theorem Stroke_l5 (v_named v_hit v_conduct v_hidden v_miss : V) : ((putF ("miss" : Str) v_miss (putF ("hidden" : Str) v_hidden (putF ("conduct" : Str) v_conduct (putF ("hit" : Str) v_hit (putF ("named" : Str) v_named [])))))).length < 1000 := of_decide_eq_true (by kernel_rfl)
theorem Stroke_l6 (v_named v_hit v_conduct v_hidden v_miss v_potted : V) : ((putF ("potted" : Str) v_potted (putF ("miss" : Str) v_miss (putF ("hidden" : Str) v_hidden (putF ("conduct" : Str) v_conduct (putF ("hit" : Str) v_hit (putF ("named" : Str) v_named []))))))).length < 1000 := of_decide_eq_true (by kernel_rfl)
theorem Stroke_mk (v_named v_hit v_conduct v_hidden v_miss v_potted v_off : V) : (putF ("off" : Str) v_off (putF ("potted" : Str) v_potted (putF ("miss" : Str) v_miss (putF ("hidden" : Str) v_hidden (putF ("conduct" : Str) v_conduct (putF ("hit" : Str) v_hit (putF ("named" : Str) v_named []))))))) = Stroke_fs v_named v_hit v_conduct v_hidden v_miss v_potted v_off := by kernel_rfl
def Table_fs (v_reds v_lowest v_on : V) : List (Str × V) := [(("reds" : Str), v_reds), (("lowest" : Str), v_lowest), (("on" : Str), v_on)]
def TableAt (A : Adr) (H : Hp) (a : Addr) (v_reds v_lowest v_on : V) : Prop := ∃ dx, H a = some (.ins A.Table.c dx (Table_fs v_reds v_lowest v_on))
theorem TableAt.mono {v_reds v_lowest v_on : V} (s : Same H H') (h : TableAt A H a v_reds v_lowest v_on) : TableAt A H' a v_reds v_lowest v_on := let ⟨dx, e⟩ := h; ⟨dx, s _ _ e⟩
theorem Table_g_reds (v_reds v_lowest v_on : V) : (Table_fs v_reds v_lowest v_on).lookup ("reds" : Str) = some v_reds := by kernel_rfl
theorem TableAt.reds {v_reds v_lowest v_on : V} (h : TableAt A H a v_reds v_lowest v_on) (T : Txt K mg A) : Fld K H (.ref a) "reds" v_reds := let ⟨dx, e⟩ := h; ⟨a, _, dx, _, rfl, e, T.Table.cl, T.Table.na_reds, Table_g_reds v_reds v_lowest v_on⟩
theorem Table_g_lowest (v_reds v_lowest v_on : V) : (Table_fs v_reds v_lowest v_on).lookup ("lowest" : Str) = some v_lowest := by kernel_rfl
theorem TableAt.lowest {v_reds v_lowest v_on : V} (h : TableAt A H a v_reds v_lowest v_on) (T : Txt K mg A) : Fld K H (.ref a) "lowest" v_lowest := let ⟨dx, e⟩ := h; ⟨a, _, dx, _, rfl, e, T.Table.cl, T.Table.na_lowest, Table_g_lowest v_reds v_lowest v_on⟩
theorem Table_g_on (v_reds v_lowest v_on : V) : (Table_fs v_reds v_lowest v_on).lookup ("on" : Str) = some v_on := by kernel_rfl
theorem TableAt.on {v_reds v_lowest v_on : V} (h : TableAt A H a v_reds v_lowest v_on) (T : Txt K mg A) : Fld K H (.ref a) "on" v_on := let ⟨dx, e⟩ := h; ⟨a, _, dx, _, rfl, e, T.Table.cl, T.Table.na_on, Table_g_on v_reds v_lowest v_on⟩
theorem Table_n_how_many (v_reds v_lowest v_on : V) : (Table_fs v_reds v_lowest v_on).lookup ("how_many" : Str) = none := by kernel_rfl
theorem TableAt.o_how_many {v_reds v_lowest v_on : V} (h : TableAt A H a v_reds v_lowest v_on) : Ob A.Table.c "how_many" H (.ref a) := let ⟨dx, e⟩ := h; ⟨a, dx, _, rfl, e, Table_n_how_many v_reds v_lowest v_on⟩
theorem Table_n_has_more_than_black (v_reds v_lowest v_on : V) : (Table_fs v_reds v_lowest v_on).lookup ("has_more_than_black" : Str) = none := by kernel_rfl
theorem TableAt.o_has_more_than_black {v_reds v_lowest v_on : V} (h : TableAt A H a v_reds v_lowest v_on) : Ob A.Table.c "has_more_than_black" H (.ref a) := let ⟨dx, e⟩ := h; ⟨a, dx, _, rfl, e, Table_n_has_more_than_black v_reds v_lowest v_on⟩
theorem Table_n_left (v_reds v_lowest v_on : V) : (Table_fs v_reds v_lowest v_on).lookup ("left" : Str) = none := by kernel_rfl
theorem TableAt.o_left {v_reds v_lowest v_on : V} (h : TableAt A H a v_reds v_lowest v_on) : Ob A.Table.c "left" H (.ref a) := let ⟨dx, e⟩ := h; ⟨a, dx, _, rfl, e, Table_n_left v_reds v_lowest v_on⟩
theorem Table_l1 (v_reds : V) : ((putF ("reds" : Str) v_reds [])).length < 1000 := of_decide_eq_true (by kernel_rfl)
theorem Table_l2 (v_reds v_lowest : V) : ((putF ("lowest" : Str) v_lowest (putF ("reds" : Str) v_reds []))).length < 1000 := of_decide_eq_true (by kernel_rfl)
theorem Table_mk (v_reds v_lowest v_on : V) : (putF ("on" : Str) v_on (putF ("lowest" : Str) v_lowest (putF ("reds" : Str) v_reds []))) = Table_fs v_reds v_lowest v_on := by kernel_rfl
def Judgement_fs (v_told v_table v_free v_all_on : V) : List (Str × V) := [(("told" : Str), v_told), (("table" : Str), v_table), (("free" : Str), v_free), (("all_on" : Str), v_all_on)]
def JudgementAt (A : Adr) (H : Hp) (a : Addr) (v_told v_table v_free v_all_on : V) : Prop := ∃ dx, H a = some (.ins A.Judgement.c dx (Judgement_fs v_told v_table v_free v_all_on))
theorem JudgementAt.mono {v_told v_table v_free v_all_on : V} (s : Same H H') (h : JudgementAt A H a v_told v_table v_free v_all_on) : JudgementAt A H' a v_told v_table v_free v_all_on := let ⟨dx, e⟩ := h; ⟨dx, s _ _ e⟩
theorem Judgement_g_told (v_told v_table v_free v_all_on : V) : (Judgement_fs v_told v_table v_free v_all_on).lookup ("told" : Str) = some v_told := by kernel_rfl
theorem JudgementAt.told {v_told v_table v_free v_all_on : V} (h : JudgementAt A H a v_told v_table v_free v_all_on) (T : Txt K mg A) : Fld K H (.ref a) "told" v_told := let ⟨dx, e⟩ := h; ⟨a, _, dx, _, rfl, e, T.Judgement.cl, T.Judgement.na_told, Judgement_g_told v_told v_table v_free v_all_on⟩
theorem Judgement_g_table (v_told v_table v_free v_all_on : V) : (Judgement_fs v_told v_table v_free v_all_on).lookup ("table" : Str) = some v_table := by kernel_rfl
theorem JudgementAt.table {v_told v_table v_free v_all_on : V} (h : JudgementAt A H a v_told v_table v_free v_all_on) (T : Txt K mg A) : Fld K H (.ref a) "table" v_table := let ⟨dx, e⟩ := h; ⟨a, _, dx, _, rfl, e, T.Judgement.cl, T.Judgement.na_table, Judgement_g_table v_told v_table v_free v_all_on⟩
theorem Judgement_g_free (v_told v_table v_free v_all_on : V) : (Judgement_fs v_told v_table v_free v_all_on).lookup ("free" : Str) = some v_free := by kernel_rfl
theorem JudgementAt.free {v_told v_table v_free v_all_on : V} (h : JudgementAt A H a v_told v_table v_free v_all_on) (T : Txt K mg A) : Fld K H (.ref a) "free" v_free := let ⟨dx, e⟩ := h; ⟨a, _, dx, _, rfl, e, T.Judgement.cl, T.Judgement.na_free, Judgement_g_free v_told v_table v_free v_all_on⟩
theorem Judgement_g_all_on (v_told v_table v_free v_all_on : V) : (Judgement_fs v_told v_table v_free v_all_on).lookup ("all_on" : Str) = some v_all_on := by kernel_rfl
theorem JudgementAt.all_on {v_told v_table v_free v_all_on : V} (h : JudgementAt A H a v_told v_table v_free v_all_on) (T : Txt K mg A) : Fld K H (.ref a) "all_on" v_all_on := let ⟨dx, e⟩ := h; ⟨a, _, dx, _, rfl, e, T.Judgement.cl, T.Judgement.na_all_on, Judgement_g_all_on v_told v_table v_free v_all_on⟩
theorem Judgement_n_is_rightly_hit (v_told v_table v_free v_all_on : V) : (Judgement_fs v_told v_table v_free v_all_on).lookup ("is_rightly_hit" : Str) = none := by kernel_rfl
theorem JudgementAt.o_is_rightly_hit {v_told v_table v_free v_all_on : V} (h : JudgementAt A H a v_told v_table v_free v_all_on) : Ob A.Judgement.c "is_rightly_hit" H (.ref a) := let ⟨dx, e⟩ := h; ⟨a, dx, _, rfl, e, Judgement_n_is_rightly_hit v_told v_table v_free v_all_on⟩
theorem Judgement_n_wrongly_potted (v_told v_table v_free v_all_on : V) : (Judgement_fs v_told v_table v_free v_all_on).lookup ("wrongly_potted" : Str) = none := by kernel_rfl
theorem JudgementAt.o_wrongly_potted {v_told v_table v_free v_all_on : V} (h : JudgementAt A H a v_told v_table v_free v_all_on) : Ob A.Judgement.c "wrongly_potted" H (.ref a) := let ⟨dx, e⟩ := h; ⟨a, dx, _, rfl, e, Judgement_n_wrongly_potted v_told v_table v_free v_all_on⟩
theorem Judgement_n_is_foul (v_told v_table v_free v_all_on : V) : (Judgement_fs v_told v_table v_free v_all_on).lookup ("is_foul" : Str) = none := by kernel_rfl
theorem JudgementAt.o_is_foul {v_told v_table v_free v_all_on : V} (h : JudgementAt A H a v_told v_table v_free v_all_on) : Ob A.Judgement.c "is_foul" H (.ref a) := let ⟨dx, e⟩ := h; ⟨a, dx, _, rfl, e, Judgement_n_is_foul v_told v_table v_free v_all_on⟩
theorem Judgement_n_worth_of_on (v_told v_table v_free v_all_on : V) : (Judgement_fs v_told v_table v_free v_all_on).lookup ("worth_of_on" : Str) = none := by kernel_rfl
theorem JudgementAt.o_worth_of_on {v_told v_table v_free v_all_on : V} (h : JudgementAt A H a v_told v_table v_free v_all_on) : Ob A.Judgement.c "worth_of_on" H (.ref a) := let ⟨dx, e⟩ := h; ⟨a, dx, _, rfl, e, Judgement_n_worth_of_on v_told v_table v_free v_all_on⟩
theorem Judgement_n_cost (v_told v_table v_free v_all_on : V) : (Judgement_fs v_told v_table v_free v_all_on).lookup ("cost" : Str) = none := by kernel_rfl
theorem JudgementAt.o_cost {v_told v_table v_free v_all_on : V} (h : JudgementAt A H a v_told v_table v_free v_all_on) : Ob A.Judgement.c "cost" H (.ref a) := let ⟨dx, e⟩ := h; ⟨a, dx, _, rfl, e, Judgement_n_cost v_told v_table v_free v_all_on⟩
theorem Judgement_n_made (v_told v_table v_free v_all_on : V) : (Judgement_fs v_told v_table v_free v_all_on).lookup ("made" : Str) = none := by kernel_rfl
theorem JudgementAt.o_made {v_told v_table v_free v_all_on : V} (h : JudgementAt A H a v_told v_table v_free v_all_on) : Ob A.Judgement.c "made" H (.ref a) := let ⟨dx, e⟩ := h; ⟨a, dx, _, rfl, e, Judgement_n_made v_told v_table v_free v_all_on⟩
theorem Judgement_n_table_behind_foul (v_told v_table v_free v_all_on : V) : (Judgement_fs v_told v_table v_free v_all_on).lookup ("table_behind_foul" : Str) = none := by kernel_rfl
theorem JudgementAt.o_table_behind_foul {v_told v_table v_free v_all_on : V} (h : JudgementAt A H a v_told v_table v_free v_all_on) : Ob A.Judgement.c "table_behind_foul" H (.ref a) := let ⟨dx, e⟩ := h; ⟨a, dx, _, rfl, e, Judgement_n_table_behind_foul v_told v_table v_free v_all_on⟩
theorem Judgement_n_table_behind_fair (v_told v_table v_free v_all_on : V) : (Judgement_fs v_told v_table v_free v_all_on).lookup ("table_behind_fair" : Str) = none := by kernel_rfl
theorem JudgementAt.o_table_behind_fair {v_told v_table v_free v_all_on : V} (h : JudgementAt A H a v_told v_table v_free v_all_on) : Ob A.Judgement.c "table_behind_fair" H (.ref a) := let ⟨dx, e⟩ := h; ⟨a, dx, _, rfl, e, Judgement_n_table_behind_fair v_told v_table v_free v_all_on⟩
theorem Judgement_l1 (v_told : V) : ((putF ("told" : Str) v_told [])).length < 1000 := of_decide_eq_true (by kernel_rfl)
theorem Judgement_l2 (v_told v_table : V) : ((putF ("table" : Str) v_table (putF ("told" : Str) v_told []))).length < 1000 := of_decide_eq_true (by kernel_rfl)
theorem Judgement_l3 (v_told v_table v_free : V) : ((putF ("free" : Str) v_free (putF ("table" : Str) v_table (putF ("told" : Str) v_told [])))).length < 1000 := of_decide_eq_true (by kernel_rfl)
theorem Judgement_mk (v_told v_table v_free v_all_on : V) : (putF ("all_on" : Str) v_all_on (putF ("free" : Str) v_free (putF ("table" : Str) v_table (putF ("told" : Str) v_told [])))) = Judgement_fs v_told v_table v_free v_all_on := by kernel_rfl
def Frame_fs (v_points v_turn v_table v_winner v_how v_break_so_far v_highest_breaks v_big_breaks v_misses v_table_if_back v_misses_if_back v_may_name_free v_may_again v_may_back : V) : List (Str × V) := [(("points" : Str), v_points), (("turn" : Str), v_turn), (("table" : Str), v_table), (("winner" : Str), v_winner), (("how" : Str), v_how), (("break_so_far" : Str), v_break_so_far), (("highest_breaks" : Str), v_highest_breaks), (("big_breaks" : Str), v_big_breaks), (("misses" : Str), v_misses), (("table_if_back" : Str), v_table_if_back), (("misses_if_back" : Str), v_misses_if_back), (("may_name_free" : Str), v_may_name_free), (("may_again" : Str), v_may_again), (("may_back" : Str), v_may_back)]
def FrameAt (A : Adr) (H : Hp) (a : Addr) (v_points v_turn v_table v_winner v_how v_break_so_far v_highest_breaks v_big_breaks v_misses v_table_if_back v_misses_if_back v_may_name_free v_may_again v_may_back : V) : Prop := ∃ dx, H a = some (.ins A.Frame.c dx (Frame_fs v_points v_turn v_table v_winner v_how v_break_so_far v_highest_breaks v_big_breaks v_misses v_table_if_back v_misses_if_back v_may_name_free v_may_again v_may_back))
theorem Frame_g_points (v_points v_turn v_table v_winner v_how v_break_so_far v_highest_breaks v_big_breaks v_misses v_table_if_back v_misses_if_back v_may_name_free v_may_again v_may_back : V) : (Frame_fs v_points v_turn v_table v_winner v_how v_break_so_far v_highest_breaks v_big_breaks v_misses v_table_if_back v_misses_if_back v_may_name_free v_may_again v_may_back).lookup ("points" : Str) = some v_points := by kernel_rfl
theorem FrameAt.points {v_points v_turn v_table v_winner v_how v_break_so_far v_highest_breaks v_big_breaks v_misses v_table_if_back v_misses_if_back v_may_name_free v_may_again v_may_back : V} (h : FrameAt A H a v_points v_turn v_table v_winner v_how v_break_so_far v_highest_breaks v_big_breaks v_misses v_table_if_back v_misses_if_back v_may_name_free v_may_again v_may_back) (T : Txt K mg A) : Fld K H (.ref a) "points" v_points := let ⟨dx, e⟩ := h; ⟨a, _, dx, _, rfl, e, T.Frame.cl, T.Frame.na_points, Frame_g_points v_points v_turn v_table v_winner v_how v_break_so_far v_highest_breaks v_big_breaks v_misses v_table_if_back v_misses_if_back v_may_name_free v_may_again v_may_back⟩
theorem Frame_g_turn (v_points v_turn v_table v_winner v_how v_break_so_far v_highest_breaks v_big_breaks v_misses v_table_if_back v_misses_if_back v_may_name_free v_may_again v_may_back : V) : (Frame_fs v_points v_turn v_table v_winner v_how v_break_so_far v_highest_breaks v_big_breaks v_misses v_table_if_back v_misses_if_back v_may_name_free v_may_again v_may_back).lookup ("turn" : Str) = some v_turn := by kernel_rfl
theorem Frame_p_turn (v v_points v_turn v_table v_winner v_how v_break_so_far v_highest_breaks v_big_breaks v_misses v_table_if_back v_misses_if_back v_may_name_free v_may_again v_may_back : V) : putF ("turn" : Str) v (Frame_fs v_points v_turn v_table v_winner v_how v_break_so_far v_highest_breaks v_big_breaks v_misses v_table_if_back v_misses_if_back v_may_name_free v_may_again v_may_back) = Frame_fs v_points v v_table v_winner v_how v_break_so_far v_highest_breaks v_big_breaks v_misses v_table_if_back v_misses_if_back v_may_name_free v_may_again v_may_back := by kernel_rfl
theorem FrameAt.turn {v_points v_turn v_table v_winner v_how v_break_so_far v_highest_breaks v_big_breaks v_misses v_table_if_back v_misses_if_back v_may_name_free v_may_again v_may_back : V} (h : FrameAt A H a v_points v_turn v_table v_winner v_how v_break_so_far v_highest_breaks v_big_breaks v_misses v_table_if_back v_misses_if_back v_may_name_free v_may_again v_may_back) (T : Txt K mg A) : Fld K H (.ref a) "turn" v_turn := let ⟨dx, e⟩ := h; ⟨a, _, dx, _, rfl, e, T.Frame.cl, T.Frame.na_turn, Frame_g_turn v_points v_turn v_table v_winner v_how v_break_so_far v_highest_breaks v_big_breaks v_misses v_table_if_back v_misses_if_back v_may_name_free v_may_again v_may_back⟩
theorem Frame_g_table (v_points v_turn v_table v_winner v_how v_break_so_far v_highest_breaks v_big_breaks v_misses v_table_if_back v_misses_if_back v_may_name_free v_may_again v_may_back : V) : (Frame_fs v_points v_turn v_table v_winner v_how v_break_so_far v_highest_breaks v_big_breaks v_misses v_table_if_back v_misses_if_back v_may_name_free v_may_again v_may_back).lookup ("table" : Str) = some v_table := by kernel_rfl
theorem Frame_p_table (v v_points v_turn v_table v_winner v_how v_break_so_far v_highest_breaks v_big_breaks v_misses v_table_if_back v_misses_if_back v_may_name_free v_may_again v_may_back : V) : putF ("table" : Str) v (Frame_fs v_points v_turn v_table v_winner v_how v_break_so_far v_highest_breaks v_big_breaks v_misses v_table_if_back v_misses_if_back v_may_name_free v_may_again v_may_back) = Frame_fs v_points v_turn v v_winner v_how v_break_so_far v_highest_breaks v_big_breaks v_misses v_table_if_back v_misses_if_back v_may_name_free v_may_again v_may_back := by kernel_rfl
theorem FrameAt.table {v_points v_turn v_table v_winner v_how v_break_so_far v_highest_breaks v_big_breaks v_misses v_table_if_back v_misses_if_back v_may_name_free v_may_again v_may_back : V} (h : FrameAt A H a v_points v_turn v_table v_winner v_how v_break_so_far v_highest_breaks v_big_breaks v_misses v_table_if_back v_misses_if_back v_may_name_free v_may_again v_may_back) (T : Txt K mg A) : Fld K H (.ref a) "table" v_table := let ⟨dx, e⟩ := h; ⟨a, _, dx, _, rfl, e, T.Frame.cl, T.Frame.na_table, Frame_g_table v_points v_turn v_table v_winner v_how v_break_so_far v_highest_breaks v_big_breaks v_misses v_table_if_back v_misses_if_back v_may_name_free v_may_again v_may_back⟩
theorem Frame_g_winner (v_points v_turn v_table v_winner v_how v_break_so_far v_highest_breaks v_big_breaks v_misses v_table_if_back v_misses_if_back v_may_name_free v_may_again v_may_back : V) : (Frame_fs v_points v_turn v_table v_winner v_how v_break_so_far v_highest_breaks v_big_breaks v_misses v_table_if_back v_misses_if_back v_may_name_free v_may_again v_may_back).lookup ("winner" : Str) = some v_winner := by kernel_rfl
theorem Frame_p_winner (v v_points v_turn v_table v_winner v_how v_break_so_far v_highest_breaks v_big_breaks v_misses v_table_if_back v_misses_if_back v_may_name_free v_may_again v_may_back : V) : putF ("winner" : Str) v (Frame_fs v_points v_turn v_table v_winner v_how v_break_so_far v_highest_breaks v_big_breaks v_misses v_table_if_back v_misses_if_back v_may_name_free v_may_again v_may_back) = Frame_fs v_points v_turn v_table v v_how v_break_so_far v_highest_breaks v_big_breaks v_misses v_table_if_back v_misses_if_back v_may_name_free v_may_again v_may_back := by kernel_rfl
theorem FrameAt.winner {v_points v_turn v_table v_winner v_how v_break_so_far v_highest_breaks v_big_breaks v_misses v_table_if_back v_misses_if_back v_may_name_free v_may_again v_may_back : V} (h : FrameAt A H a v_points v_turn v_table v_winner v_how v_break_so_far v_highest_breaks v_big_breaks v_misses v_table_if_back v_misses_if_back v_may_name_free v_may_again v_may_back) (T : Txt K mg A) : Fld K H (.ref a) "winner" v_winner := let ⟨dx, e⟩ := h; ⟨a, _, dx, _, rfl, e, T.Frame.cl, T.Frame.na_winner, Frame_g_winner v_points v_turn v_table v_winner v_how v_break_so_far v_highest_breaks v_big_breaks v_misses v_table_if_back v_misses_if_back v_may_name_free v_may_again v_may_back⟩
theorem Frame_g_how (v_points v_turn v_table v_winner v_how v_break_so_far v_highest_breaks v_big_breaks v_misses v_table_if_back v_misses_if_back v_may_name_free v_may_again v_may_back : V) : (Frame_fs v_points v_turn v_table v_winner v_how v_break_so_far v_highest_breaks v_big_breaks v_misses v_table_if_back v_misses_if_back v_may_name_free v_may_again v_may_back).lookup ("how" : Str) = some v_how := by kernel_rfl
theorem Frame_p_how (v v_points v_turn v_table v_winner v_how v_break_so_far v_highest_breaks v_big_breaks v_misses v_table_if_back v_misses_if_back v_may_name_free v_may_again v_may_back : V) : putF ("how" : Str) v (Frame_fs v_points v_turn v_table v_winner v_how v_break_so_far v_highest_breaks v_big_breaks v_misses v_table_if_back v_misses_if_back v_may_name_free v_may_again v_may_back) = Frame_fs v_points v_turn v_table v_winner v v_break_so_far v_highest_breaks v_big_breaks v_misses v_table_if_back v_misses_if_back v_may_name_free v_may_again v_may_back := by kernel_rfl
theorem FrameAt.how {v_points v_turn v_table v_winner v_how v_break_so_far v_highest_breaks v_big_breaks v_misses v_table_if_back v_misses_if_back v_may_name_free v_may_again v_may_back : V} (h : FrameAt A H a v_points v_turn v_table v_winner v_how v_break_so_far v_highest_breaks v_big_breaks v_misses v_table_if_back v_misses_if_back v_may_name_free v_may_again v_may_back) (T : Txt K mg A) : Fld K H (.ref a) "how" v_how := let ⟨dx, e⟩ := h; ⟨a, _, dx, _, rfl, e, T.Frame.cl, T.Frame.na_how, Frame_g_how v_points v_turn v_table v_winner v_how v_break_so_far v_highest_breaks v_big_breaks v_misses v_table_if_back v_misses_if_back v_may_name_free v_may_again v_may_back⟩
theorem Frame_g_break_so_far (v_points v_turn v_table v_winner v_how v_break_so_far v_highest_breaks v_big_breaks v_misses v_table_if_back v_misses_if_back v_may_name_free v_may_again v_may_back : V) : (Frame_fs v_points v_turn v_table v_winner v_how v_break_so_far v_highest_breaks v_big_breaks v_misses v_table_if_back v_misses_if_back v_may_name_free v_may_again v_may_back).lookup ("break_so_far" : Str) = some v_break_so_far := by kernel_rfl
theorem Frame_p_break_so_far (v v_points v_turn v_table v_winner v_how v_break_so_far v_highest_breaks v_big_breaks v_misses v_table_if_back v_misses_if_back v_may_name_free v_may_again v_may_back : V) : putF ("break_so_far" : Str) v (Frame_fs v_points v_turn v_table v_winner v_how v_break_so_far v_highest_breaks v_big_breaks v_misses v_table_if_back v_misses_if_back v_may_name_free v_may_again v_may_back) = Frame_fs v_points v_turn v_table v_winner v_how v v_highest_breaks v_big_breaks v_misses v_table_if_back v_misses_if_back v_may_name_free v_may_again v_may_back := by kernel_rfl
theorem FrameAt.break_so_far {v_points v_turn v_table v_winner v_how v_break_so_far v_highest_breaks v_big_breaks v_misses v_table_if_back v_misses_if_back v_may_name_free v_may_again v_may_back : V} (h : FrameAt A H a v_points v_turn v_table v_winner v_how v_break_so_far v_highest_breaks v_big_breaks v_misses v_table_if_back v_misses_if_back v_may_name_free v_may_again v_may_back) (T : Txt K mg A) : Fld K H (.ref a) "break_so_far" v_break_so_far := let ⟨dx, e⟩ := h; ⟨a, _, dx, _, rfl, e, T.Frame.cl, T.Frame.na_break_so_far, Frame_g_break_so_far v_points v_turn v_table v_winner v_how v_break_so_far v_highest_breaks v_big_breaks v_misses v_table_if_back v_misses_if_back v_may_name_free v_may_again v_may_back⟩
theorem Frame_g_highest_breaks (v_points v_turn v_table v_winner v_how v_break_so_far v_highest_breaks v_big_breaks v_misses v_table_if_back v_misses_if_back v_may_name_free v_may_again v_may_back : V) : (Frame_fs v_points v_turn v_table v_winner v_how v_break_so_far v_highest_breaks v_big_breaks v_misses v_table_if_back v_misses_if_back v_may_name_free v_may_again v_may_back).lookup ("highest_breaks" : Str) = some v_highest_breaks := by kernel_rfl
theorem FrameAt.highest_breaks {v_points v_turn v_table v_winner v_how v_break_so_far v_highest_breaks v_big_breaks v_misses v_table_if_back v_misses_if_back v_may_name_free v_may_again v_may_back : V} (h : FrameAt A H a v_points v_turn v_table v_winner v_how v_break_so_far v_highest_breaks v_big_breaks v_misses v_table_if_back v_misses_if_back v_may_name_free v_may_again v_may_back) (T : Txt K mg A) : Fld K H (.ref a) "highest_breaks" v_highest_breaks := let ⟨dx, e⟩ := h; ⟨a, _, dx, _, rfl, e, T.Frame.cl, T.Frame.na_highest_breaks, Frame_g_highest_breaks v_points v_turn v_table v_winner v_how v_break_so_far v_highest_breaks v_big_breaks v_misses v_table_if_back v_misses_if_back v_may_name_free v_may_again v_may_back⟩
theorem Frame_g_big_breaks (v_points v_turn v_table v_winner v_how v_break_so_far v_highest_breaks v_big_breaks v_misses v_table_if_back v_misses_if_back v_may_name_free v_may_again v_may_back : V) : (Frame_fs v_points v_turn v_table v_winner v_how v_break_so_far v_highest_breaks v_big_breaks v_misses v_table_if_back v_misses_if_back v_may_name_free v_may_again v_may_back).lookup ("big_breaks" : Str) = some v_big_breaks := by kernel_rfl
theorem FrameAt.big_breaks {v_points v_turn v_table v_winner v_how v_break_so_far v_highest_breaks v_big_breaks v_misses v_table_if_back v_misses_if_back v_may_name_free v_may_again v_may_back : V} (h : FrameAt A H a v_points v_turn v_table v_winner v_how v_break_so_far v_highest_breaks v_big_breaks v_misses v_table_if_back v_misses_if_back v_may_name_free v_may_again v_may_back) (T : Txt K mg A) : Fld K H (.ref a) "big_breaks" v_big_breaks := let ⟨dx, e⟩ := h; ⟨a, _, dx, _, rfl, e, T.Frame.cl, T.Frame.na_big_breaks, Frame_g_big_breaks v_points v_turn v_table v_winner v_how v_break_so_far v_highest_breaks v_big_breaks v_misses v_table_if_back v_misses_if_back v_may_name_free v_may_again v_may_back⟩
theorem Frame_g_misses (v_points v_turn v_table v_winner v_how v_break_so_far v_highest_breaks v_big_breaks v_misses v_table_if_back v_misses_if_back v_may_name_free v_may_again v_may_back : V) : (Frame_fs v_points v_turn v_table v_winner v_how v_break_so_far v_highest_breaks v_big_breaks v_misses v_table_if_back v_misses_if_back v_may_name_free v_may_again v_may_back).lookup ("misses" : Str) = some v_misses := by kernel_rfl
theorem Frame_p_misses (v v_points v_turn v_table v_winner v_how v_break_so_far v_highest_breaks v_big_breaks v_misses v_table_if_back v_misses_if_back v_may_name_free v_may_again v_may_back : V) : putF ("misses" : Str) v (Frame_fs v_points v_turn v_table v_winner v_how v_break_so_far v_highest_breaks v_big_breaks v_misses v_table_if_back v_misses_if_back v_may_name_free v_may_again v_may_back) = Frame_fs v_points v_turn v_table v_winner v_how v_break_so_far v_highest_breaks v_big_breaks v v_table_if_back v_misses_if_back v_may_name_free v_may_again v_may_back := by kernel_rfl
theorem FrameAt.misses {v_points v_turn v_table v_winner v_how v_break_so_far v_highest_breaks v_big_breaks v_misses v_table_if_back v_misses_if_back v_may_name_free v_may_again v_may_back : V} (h : FrameAt A H a v_points v_turn v_table v_winner v_how v_break_so_far v_highest_breaks v_big_breaks v_misses v_table_if_back v_misses_if_back v_may_name_free v_may_again v_may_back) (T : Txt K mg A) : Fld K H (.ref a) "misses" v_misses := let ⟨dx, e⟩ := h; ⟨a, _, dx, _, rfl, e, T.Frame.cl, T.Frame.na_misses, Frame_g_misses v_points v_turn v_table v_winner v_how v_break_so_far v_highest_breaks v_big_breaks v_misses v_table_if_back v_misses_if_back v_may_name_free v_may_again v_may_back⟩
theorem Frame_g_table_if_back (v_points v_turn v_table v_winner v_how v_break_so_far v_highest_breaks v_big_breaks v_misses v_table_if_back v_misses_if_back v_may_name_free v_may_again v_may_back : V) : (Frame_fs v_points v_turn v_table v_winner v_how v_break_so_far v_highest_breaks v_big_breaks v_misses v_table_if_back v_misses_if_back v_may_name_free v_may_again v_may_back).lookup ("table_if_back" : Str) = some v_table_if_back := by kernel_rfl
theorem Frame_p_table_if_back (v v_points v_turn v_table v_winner v_how v_break_so_far v_highest_breaks v_big_breaks v_misses v_table_if_back v_misses_if_back v_may_name_free v_may_again v_may_back : V) : putF ("table_if_back" : Str) v (Frame_fs v_points v_turn v_table v_winner v_how v_break_so_far v_highest_breaks v_big_breaks v_misses v_table_if_back v_misses_if_back v_may_name_free v_may_again v_may_back) = Frame_fs v_points v_turn v_table v_winner v_how v_break_so_far v_highest_breaks v_big_breaks v_misses v v_misses_if_back v_may_name_free v_may_again v_may_back := by kernel_rfl
theorem FrameAt.table_if_back {v_points v_turn v_table v_winner v_how v_break_so_far v_highest_breaks v_big_breaks v_misses v_table_if_back v_misses_if_back v_may_name_free v_may_again v_may_back : V} (h : FrameAt A H a v_points v_turn v_table v_winner v_how v_break_so_far v_highest_breaks v_big_breaks v_misses v_table_if_back v_misses_if_back v_may_name_free v_may_again v_may_back) (T : Txt K mg A) : Fld K H (.ref a) "table_if_back" v_table_if_back := let ⟨dx, e⟩ := h; ⟨a, _, dx, _, rfl, e, T.Frame.cl, T.Frame.na_table_if_back, Frame_g_table_if_back v_points v_turn v_table v_winner v_how v_break_so_far v_highest_breaks v_big_breaks v_misses v_table_if_back v_misses_if_back v_may_name_free v_may_again v_may_back⟩
theorem Frame_g_misses_if_back (v_points v_turn v_table v_winner v_how v_break_so_far v_highest_breaks v_big_breaks v_misses v_table_if_back v_misses_if_back v_may_name_free v_may_again v_may_back : V) : (Frame_fs v_points v_turn v_table v_winner v_how v_break_so_far v_highest_breaks v_big_breaks v_misses v_table_if_back v_misses_if_back v_may_name_free v_may_again v_may_back).lookup ("misses_if_back" : Str) = some v_misses_if_back := by kernel_rfl
theorem Frame_p_misses_if_back (v v_points v_turn v_table v_winner v_how v_break_so_far v_highest_breaks v_big_breaks v_misses v_table_if_back v_misses_if_back v_may_name_free v_may_again v_may_back : V) : putF ("misses_if_back" : Str) v (Frame_fs v_points v_turn v_table v_winner v_how v_break_so_far v_highest_breaks v_big_breaks v_misses v_table_if_back v_misses_if_back v_may_name_free v_may_again v_may_back) = Frame_fs v_points v_turn v_table v_winner v_how v_break_so_far v_highest_breaks v_big_breaks v_misses v_table_if_back v v_may_name_free v_may_again v_may_back := by kernel_rfl
theorem FrameAt.misses_if_back {v_points v_turn v_table v_winner v_how v_break_so_far v_highest_breaks v_big_breaks v_misses v_table_if_back v_misses_if_back v_may_name_free v_may_again v_may_back : V} (h : FrameAt A H a v_points v_turn v_table v_winner v_how v_break_so_far v_highest_breaks v_big_breaks v_misses v_table_if_back v_misses_if_back v_may_name_free v_may_again v_may_back) (T : Txt K mg A) : Fld K H (.ref a) "misses_if_back" v_misses_if_back := let ⟨dx, e⟩ := h; ⟨a, _, dx, _, rfl, e, T.Frame.cl, T.Frame.na_misses_if_back, Frame_g_misses_if_back v_points v_turn v_table v_winner v_how v_break_so_far v_highest_breaks v_big_breaks v_misses v_table_if_back v_misses_if_back v_may_name_free v_may_again v_may_back⟩
theorem Frame_g_may_name_free (v_points v_turn v_table v_winner v_how v_break_so_far v_highest_breaks v_big_breaks v_misses v_table_if_back v_misses_if_back v_may_name_free v_may_again v_may_back : V) : (Frame_fs v_points v_turn v_table v_winner v_how v_break_so_far v_highest_breaks v_big_breaks v_misses v_table_if_back v_misses_if_back v_may_name_free v_may_again v_may_back).lookup ("may_name_free" : Str) = some v_may_name_free := by kernel_rfl
theorem Frame_p_may_name_free (v v_points v_turn v_table v_winner v_how v_break_so_far v_highest_breaks v_big_breaks v_misses v_table_if_back v_misses_if_back v_may_name_free v_may_again v_may_back : V) : putF ("may_name_free" : Str) v (Frame_fs v_points v_turn v_table v_winner v_how v_break_so_far v_highest_breaks v_big_breaks v_misses v_table_if_back v_misses_if_back v_may_name_free v_may_again v_may_back) = Frame_fs v_points v_turn v_table v_winner v_how v_break_so_far v_highest_breaks v_big_breaks v_misses v_table_if_back v_misses_if_back v v_may_again v_may_back := by kernel_rfl
theorem FrameAt.may_name_free {v_points v_turn v_table v_winner v_how v_break_so_far v_highest_breaks v_big_breaks v_misses v_table_if_back v_misses_if_back v_may_name_free v_may_again v_may_back : V} (h : FrameAt A H a v_points v_turn v_table v_winner v_how v_break_so_far v_highest_breaks v_big_breaks v_misses v_table_if_back v_misses_if_back v_may_name_free v_may_again v_may_back) (T : Txt K mg A) : Fld K H (.ref a) "may_name_free" v_may_name_free := let ⟨dx, e⟩ := h; ⟨a, _, dx, _, rfl, e, T.Frame.cl, T.Frame.na_may_name_free, Frame_g_may_name_free v_points v_turn v_table v_winner v_how v_break_so_far v_highest_breaks v_big_breaks v_misses v_table_if_back v_misses_if_back v_may_name_free v_may_again v_may_back⟩
theorem Frame_g_may_again (v_points v_turn v_table v_winner v_how v_break_so_far v_highest_breaks v_big_breaks v_misses v_table_if_back v_misses_if_back v_may_name_free v_may_again v_may_back : V) : (Frame_fs v_points v_turn v_table v_winner v_how v_break_so_far v_highest_breaks v_big_breaks v_misses v_table_if_back v_misses_if_back v_may_name_free v_may_again v_may_back).lookup ("may_again" : Str) = some v_may_again := by kernel_rfl
theorem Frame_p_may_again (v v_points v_turn v_table v_winner v_how v_break_so_far v_highest_breaks v_big_breaks v_misses v_table_if_back v_misses_if_back v_may_name_free v_may_again v_may_back : V) : putF ("may_again" : Str) v (Frame_fs v_points v_turn v_table v_winner v_how v_break_so_far v_highest_breaks v_big_breaks v_misses v_table_if_back v_misses_if_back v_may_name_free v_may_again v_may_back) = Frame_fs v_points v_turn v_table v_winner v_how v_break_so_far v_highest_breaks v_big_breaks v_misses v_table_if_back v_misses_if_back v_may_name_free v v_may_back := by kernel_rfl
theorem FrameAt.may_again {v_points v_turn v_table v_winner v_how v_break_so_far v_highest_breaks v_big_breaks v_misses v_table_if_back v_misses_if_back v_may_name_free v_may_again v_may_back : V} (h : FrameAt A H a v_points v_turn v_table v_winner v_how v_break_so_far v_highest_breaks v_big_breaks v_misses v_table_if_back v_misses_if_back v_may_name_free v_may_again v_may_back) (T : Txt K mg A) : Fld K H (.ref a) "may_again" v_may_again := let ⟨dx, e⟩ := h; ⟨a, _, dx, _, rfl, e, T.Frame.cl, T.Frame.na_may_again, Frame_g_may_again v_points v_turn v_table v_winner v_how v_break_so_far v_highest_breaks v_big_breaks v_misses v_table_if_back v_misses_if_back v_may_name_free v_may_again v_may_back⟩
theorem Frame_g_may_back (v_points v_turn v_table v_winner v_how v_break_so_far v_highest_breaks v_big_breaks v_misses v_table_if_back v_misses_if_back v_may_name_free v_may_again v_may_back : V) : (Frame_fs v_points v_turn v_table v_winner v_how v_break_so_far v_highest_breaks v_big_breaks v_misses v_table_if_back v_misses_if_back v_may_name_free v_may_again v_may_back).lookup ("may_back" : Str) = some v_may_back := by kernel_rfl
theorem Frame_p_may_back (v v_points v_turn v_table v_winner v_how v_break_so_far v_highest_breaks v_big_breaks v_misses v_table_if_back v_misses_if_back v_may_name_free v_may_again v_may_back : V) : putF ("may_back" : Str) v (Frame_fs v_points v_turn v_table v_winner v_how v_break_so_far v_highest_breaks v_big_breaks v_misses v_table_if_back v_misses_if_back v_may_name_free v_may_again v_may_back) = Frame_fs v_points v_turn v_table v_winner v_how v_break_so_far v_highest_breaks v_big_breaks v_misses v_table_if_back v_misses_if_back v_may_name_free v_may_again v := by kernel_rfl
theorem FrameAt.may_back {v_points v_turn v_table v_winner v_how v_break_so_far v_highest_breaks v_big_breaks v_misses v_table_if_back v_misses_if_back v_may_name_free v_may_again v_may_back : V} (h : FrameAt A H a v_points v_turn v_table v_winner v_how v_break_so_far v_highest_breaks v_big_breaks v_misses v_table_if_back v_misses_if_back v_may_name_free v_may_again v_may_back) (T : Txt K mg A) : Fld K H (.ref a) "may_back" v_may_back := let ⟨dx, e⟩ := h; ⟨a, _, dx, _, rfl, e, T.Frame.cl, T.Frame.na_may_back, Frame_g_may_back v_points v_turn v_table v_winner v_how v_break_so_far v_highest_breaks v_big_breaks v_misses v_table_if_back v_misses_if_back v_may_name_free v_may_again v_may_back⟩
theorem Frame_n_close_choices (v_points v_turn v_table v_winner v_how v_break_so_far v_highest_breaks v_big_breaks v_misses v_table_if_back v_misses_if_back v_may_name_free v_may_again v_may_back : V) : (Frame_fs v_points v_turn v_table v_winner v_how v_break_so_far v_highest_breaks v_big_breaks v_misses v_table_if_back v_misses_if_back v_may_name_free v_may_again v_may_back).lookup ("close_choices" : Str) = none := by kernel_rfl
theorem FrameAt.o_close_choices {v_points v_turn v_table v_winner v_how v_break_so_far v_highest_breaks v_big_breaks v_misses v_table_if_back v_misses_if_back v_may_name_free v_may_again v_may_back : V} (h : FrameAt A H a v_points v_turn v_table v_winner v_how v_break_so_far v_highest_breaks v_big_breaks v_misses v_table_if_back v_misses_if_back v_may_name_free v_may_again v_may_back) : Ob A.Frame.c "close_choices" H (.ref a) := let ⟨dx, e⟩ := h; ⟨a, dx, _, rfl, e, Frame_n_close_choices v_points v_turn v_table v_winner v_how v_break_so_far v_highest_breaks v_big_breaks v_misses v_table_if_back v_misses_if_back v_may_name_free v_may_again v_may_back⟩
theorem Frame_n_play (v_points v_turn v_table v_winner v_how v_break_so_far v_highest_breaks v_big_breaks v_misses v_table_if_back v_misses_if_back v_may_name_free v_may_again v_may_back : V) : (Frame_fs v_points v_turn v_table v_winner v_how v_break_so_far v_highest_breaks v_big_breaks v_misses v_table_if_back v_misses_if_back v_may_name_free v_may_again v_may_back).lookup ("play" : Str) = none := by kernel_rfl
theorem FrameAt.o_play {v_points v_turn v_table v_winner v_how v_break_so_far v_highest_breaks v_big_breaks v_misses v_table_if_back v_misses_if_back v_may_name_free v_may_again v_may_back : V} (h : FrameAt A H a v_points v_turn v_table v_winner v_how v_break_so_far v_highest_breaks v_big_breaks v_misses v_table_if_back v_misses_if_back v_may_name_free v_may_again v_may_back) : Ob A.Frame.c "play" H (.ref a) := let ⟨dx, e⟩ := h; ⟨a, dx, _, rfl, e, Frame_n_play v_points v_turn v_table v_winner v_how v_break_so_far v_highest_breaks v_big_breaks v_misses v_table_if_back v_misses_if_back v_may_name_free v_may_again v_may_back⟩
theorem Frame_n_play_fair (v_points v_turn v_table v_winner v_how v_break_so_far v_highest_breaks v_big_breaks v_misses v_table_if_back v_misses_if_back v_may_name_free v_may_again v_may_back : V) : (Frame_fs v_points v_turn v_table v_winner v_how v_break_so_far v_highest_breaks v_big_breaks v_misses v_table_if_back v_misses_if_back v_may_name_free v_may_again v_may_back).lookup ("play_fair" : Str) = none := by kernel_rfl
theorem FrameAt.o_play_fair {v_points v_turn v_table v_winner v_how v_break_so_far v_highest_breaks v_big_breaks v_misses v_table_if_back v_misses_if_back v_may_name_free v_may_again v_may_back : V} (h : FrameAt A H a v_points v_turn v_table v_winner v_how v_break_so_far v_highest_breaks v_big_breaks v_misses v_table_if_back v_misses_if_back v_may_name_free v_may_again v_may_back) : Ob A.Frame.c "play_fair" H (.ref a) := let ⟨dx, e⟩ := h; ⟨a, dx, _, rfl, e, Frame_n_play_fair v_points v_turn v_table v_winner v_how v_break_so_far v_highest_breaks v_big_breaks v_misses v_table_if_back v_misses_if_back v_may_name_free v_may_again v_may_back⟩
theorem Frame_n_play_foul (v_points v_turn v_table v_winner v_how v_break_so_far v_highest_breaks v_big_breaks v_misses v_table_if_back v_misses_if_back v_may_name_free v_may_again v_may_back : V) : (Frame_fs v_points v_turn v_table v_winner v_how v_break_so_far v_highest_breaks v_big_breaks v_misses v_table_if_back v_misses_if_back v_may_name_free v_may_again v_may_back).lookup ("play_foul" : Str) = none := by kernel_rfl
theorem FrameAt.o_play_foul {v_points v_turn v_table v_winner v_how v_break_so_far v_highest_breaks v_big_breaks v_misses v_table_if_back v_misses_if_back v_may_name_free v_may_again v_may_back : V} (h : FrameAt A H a v_points v_turn v_table v_winner v_how v_break_so_far v_highest_breaks v_big_breaks v_misses v_table_if_back v_misses_if_back v_may_name_free v_may_again v_may_back) : Ob A.Frame.c "play_foul" H (.ref a) := let ⟨dx, e⟩ := h; ⟨a, dx, _, rfl, e, Frame_n_play_foul v_points v_turn v_table v_winner v_how v_break_so_far v_highest_breaks v_big_breaks v_misses v_table_if_back v_misses_if_back v_may_name_free v_may_again v_may_back⟩
theorem Frame_n_pass_turn (v_points v_turn v_table v_winner v_how v_break_so_far v_highest_breaks v_big_breaks v_misses v_table_if_back v_misses_if_back v_may_name_free v_may_again v_may_back : V) : (Frame_fs v_points v_turn v_table v_winner v_how v_break_so_far v_highest_breaks v_big_breaks v_misses v_table_if_back v_misses_if_back v_may_name_free v_may_again v_may_back).lookup ("pass_turn" : Str) = none := by kernel_rfl
theorem FrameAt.o_pass_turn {v_points v_turn v_table v_winner v_how v_break_so_far v_highest_breaks v_big_breaks v_misses v_table_if_back v_misses_if_back v_may_name_free v_may_again v_may_back : V} (h : FrameAt A H a v_points v_turn v_table v_winner v_how v_break_so_far v_highest_breaks v_big_breaks v_misses v_table_if_back v_misses_if_back v_may_name_free v_may_again v_may_back) : Ob A.Frame.c "pass_turn" H (.ref a) := let ⟨dx, e⟩ := h; ⟨a, dx, _, rfl, e, Frame_n_pass_turn v_points v_turn v_table v_winner v_how v_break_so_far v_highest_breaks v_big_breaks v_misses v_table_if_back v_misses_if_back v_may_name_free v_may_again v_may_back⟩
theorem Frame_n_end_break (v_points v_turn v_table v_winner v_how v_break_so_far v_highest_breaks v_big_breaks v_misses v_table_if_back v_misses_if_back v_may_name_free v_may_again v_may_back : V) : (Frame_fs v_points v_turn v_table v_winner v_how v_break_so_far v_highest_breaks v_big_breaks v_misses v_table_if_back v_misses_if_back v_may_name_free v_may_again v_may_back).lookup ("end_break" : Str) = none := by kernel_rfl
theorem FrameAt.o_end_break {v_points v_turn v_table v_winner v_how v_break_so_far v_highest_breaks v_big_breaks v_misses v_table_if_back v_misses_if_back v_may_name_free v_may_again v_may_back : V} (h : FrameAt A H a v_points v_turn v_table v_winner v_how v_break_so_far v_highest_breaks v_big_breaks v_misses v_table_if_back v_misses_if_back v_may_name_free v_may_again v_may_back) : Ob A.Frame.c "end_break" H (.ref a) := let ⟨dx, e⟩ := h; ⟨a, dx, _, rfl, e, Frame_n_end_break v_points v_turn v_table v_winner v_how v_break_so_far v_highest_breaks v_big_breaks v_misses v_table_if_back v_misses_if_back v_may_name_free v_may_again v_may_back⟩
theorem Frame_n_can_call_miss (v_points v_turn v_table v_winner v_how v_break_so_far v_highest_breaks v_big_breaks v_misses v_table_if_back v_misses_if_back v_may_name_free v_may_again v_may_back : V) : (Frame_fs v_points v_turn v_table v_winner v_how v_break_so_far v_highest_breaks v_big_breaks v_misses v_table_if_back v_misses_if_back v_may_name_free v_may_again v_may_back).lookup ("can_call_miss" : Str) = none := by kernel_rfl
theorem FrameAt.o_can_call_miss {v_points v_turn v_table v_winner v_how v_break_so_far v_highest_breaks v_big_breaks v_misses v_table_if_back v_misses_if_back v_may_name_free v_may_again v_may_back : V} (h : FrameAt A H a v_points v_turn v_table v_winner v_how v_break_so_far v_highest_breaks v_big_breaks v_misses v_table_if_back v_misses_if_back v_may_name_free v_may_again v_may_back) : Ob A.Frame.c "can_call_miss" H (.ref a) := let ⟨dx, e⟩ := h; ⟨a, dx, _, rfl, e, Frame_n_can_call_miss v_points v_turn v_table v_winner v_how v_break_so_far v_highest_breaks v_big_breaks v_misses v_table_if_back v_misses_if_back v_may_name_free v_may_again v_may_back⟩
theorem Frame_n_is_within_reach (v_points v_turn v_table v_winner v_how v_break_so_far v_highest_breaks v_big_breaks v_misses v_table_if_back v_misses_if_back v_may_name_free v_may_again v_may_back : V) : (Frame_fs v_points v_turn v_table v_winner v_how v_break_so_far v_highest_breaks v_big_breaks v_misses v_table_if_back v_misses_if_back v_may_name_free v_may_again v_may_back).lookup ("is_within_reach" : Str) = none := by kernel_rfl
theorem FrameAt.o_is_within_reach {v_points v_turn v_table v_winner v_how v_break_so_far v_highest_breaks v_big_breaks v_misses v_table_if_back v_misses_if_back v_may_name_free v_may_again v_may_back : V} (h : FrameAt A H a v_points v_turn v_table v_winner v_how v_break_so_far v_highest_breaks v_big_breaks v_misses v_table_if_back v_misses_if_back v_may_name_free v_may_again v_may_back) : Ob A.Frame.c "is_within_reach" H (.ref a) := let ⟨dx, e⟩ := h; ⟨a, dx, _, rfl, e, Frame_n_is_within_reach v_points v_turn v_table v_winner v_how v_break_so_far v_highest_breaks v_big_breaks v_misses v_table_if_back v_misses_if_back v_may_name_free v_may_again v_may_back⟩
theorem Frame_n_count_miss (v_points v_turn v_table v_winner v_how v_break_so_far v_highest_breaks v_big_breaks v_misses v_table_if_back v_misses_if_back v_may_name_free v_may_again v_may_back : V) : (Frame_fs v_points v_turn v_table v_winner v_how v_break_so_far v_highest_breaks v_big_breaks v_misses v_table_if_back v_misses_if_back v_may_name_free v_may_again v_may_back).lookup ("count_miss" : Str) = none := by kernel_rfl
theorem FrameAt.o_count_miss {v_points v_turn v_table v_winner v_how v_break_so_far v_highest_breaks v_big_breaks v_misses v_table_if_back v_misses_if_back v_may_name_free v_may_again v_may_back : V} (h : FrameAt A H a v_points v_turn v_table v_winner v_how v_break_so_far v_highest_breaks v_big_breaks v_misses v_table_if_back v_misses_if_back v_may_name_free v_may_again v_may_back) : Ob A.Frame.c "count_miss" H (.ref a) := let ⟨dx, e⟩ := h; ⟨a, dx, _, rfl, e, Frame_n_count_miss v_points v_turn v_table v_winner v_how v_break_so_far v_highest_breaks v_big_breaks v_misses v_table_if_back v_misses_if_back v_may_name_free v_may_again v_may_back⟩
theorem Frame_n_open_choices (v_points v_turn v_table v_winner v_how v_break_so_far v_highest_breaks v_big_breaks v_misses v_table_if_back v_misses_if_back v_may_name_free v_may_again v_may_back : V) : (Frame_fs v_points v_turn v_table v_winner v_how v_break_so_far v_highest_breaks v_big_breaks v_misses v_table_if_back v_misses_if_back v_may_name_free v_may_again v_may_back).lookup ("open_choices" : Str) = none := by kernel_rfl
theorem FrameAt.o_open_choices {v_points v_turn v_table v_winner v_how v_break_so_far v_highest_breaks v_big_breaks v_misses v_table_if_back v_misses_if_back v_may_name_free v_may_again v_may_back : V} (h : FrameAt A H a v_points v_turn v_table v_winner v_how v_break_so_far v_highest_breaks v_big_breaks v_misses v_table_if_back v_misses_if_back v_may_name_free v_may_again v_may_back) : Ob A.Frame.c "open_choices" H (.ref a) := let ⟨dx, e⟩ := h; ⟨a, dx, _, rfl, e, Frame_n_open_choices v_points v_turn v_table v_winner v_how v_break_so_far v_highest_breaks v_big_breaks v_misses v_table_if_back v_misses_if_back v_may_name_free v_may_again v_may_back⟩
theorem Frame_n_settle (v_points v_turn v_table v_winner v_how v_break_so_far v_highest_breaks v_big_breaks v_misses v_table_if_back v_misses_if_back v_may_name_free v_may_again v_may_back : V) : (Frame_fs v_points v_turn v_table v_winner v_how v_break_so_far v_highest_breaks v_big_breaks v_misses v_table_if_back v_misses_if_back v_may_name_free v_may_again v_may_back).lookup ("settle" : Str) = none := by kernel_rfl
theorem FrameAt.o_settle {v_points v_turn v_table v_winner v_how v_break_so_far v_highest_breaks v_big_breaks v_misses v_table_if_back v_misses_if_back v_may_name_free v_may_again v_may_back : V} (h : FrameAt A H a v_points v_turn v_table v_winner v_how v_break_so_far v_highest_breaks v_big_breaks v_misses v_table_if_back v_misses_if_back v_may_name_free v_may_again v_may_back) : Ob A.Frame.c "settle" H (.ref a) := let ⟨dx, e⟩ := h; ⟨a, dx, _, rfl, e, Frame_n_settle v_points v_turn v_table v_winner v_how v_break_so_far v_highest_breaks v_big_breaks v_misses v_table_if_back v_misses_if_back v_may_name_free v_may_again v_may_back⟩
theorem Frame_n_win (v_points v_turn v_table v_winner v_how v_break_so_far v_highest_breaks v_big_breaks v_misses v_table_if_back v_misses_if_back v_may_name_free v_may_again v_may_back : V) : (Frame_fs v_points v_turn v_table v_winner v_how v_break_so_far v_highest_breaks v_big_breaks v_misses v_table_if_back v_misses_if_back v_may_name_free v_may_again v_may_back).lookup ("win" : Str) = none := by kernel_rfl
theorem FrameAt.o_win {v_points v_turn v_table v_winner v_how v_break_so_far v_highest_breaks v_big_breaks v_misses v_table_if_back v_misses_if_back v_may_name_free v_may_again v_may_back : V} (h : FrameAt A H a v_points v_turn v_table v_winner v_how v_break_so_far v_highest_breaks v_big_breaks v_misses v_table_if_back v_misses_if_back v_may_name_free v_may_again v_may_back) : Ob A.Frame.c "win" H (.ref a) := let ⟨dx, e⟩ := h; ⟨a, dx, _, rfl, e, Frame_n_win v_points v_turn v_table v_winner v_how v_break_so_far v_highest_breaks v_big_breaks v_misses v_table_if_back v_misses_if_back v_may_name_free v_may_again v_may_back⟩
theorem Frame_n_again (v_points v_turn v_table v_winner v_how v_break_so_far v_highest_breaks v_big_breaks v_misses v_table_if_back v_misses_if_back v_may_name_free v_may_again v_may_back : V) : (Frame_fs v_points v_turn v_table v_winner v_how v_break_so_far v_highest_breaks v_big_breaks v_misses v_table_if_back v_misses_if_back v_may_name_free v_may_again v_may_back).lookup ("again" : Str) = none := by kernel_rfl
theorem FrameAt.o_again {v_points v_turn v_table v_winner v_how v_break_so_far v_highest_breaks v_big_breaks v_misses v_table_if_back v_misses_if_back v_may_name_free v_may_again v_may_back : V} (h : FrameAt A H a v_points v_turn v_table v_winner v_how v_break_so_far v_highest_breaks v_big_breaks v_misses v_table_if_back v_misses_if_back v_may_name_free v_may_again v_may_back) : Ob A.Frame.c "again" H (.ref a) := let ⟨dx, e⟩ := h; ⟨a, dx, _, rfl, e, Frame_n_again v_points v_turn v_table v_winner v_how v_break_so_far v_highest_breaks v_big_breaks v_misses v_table_if_back v_misses_if_back v_may_name_free v_may_again v_may_back⟩
theorem Frame_n_back (v_points v_turn v_table v_winner v_how v_break_so_far v_highest_breaks v_big_breaks v_misses v_table_if_back v_misses_if_back v_may_name_free v_may_again v_may_back : V) : (Frame_fs v_points v_turn v_table v_winner v_how v_break_so_far v_highest_breaks v_big_breaks v_misses v_table_if_back v_misses_if_back v_may_name_free v_may_again v_may_back).lookup ("back" : Str) = none := by kernel_rfl
theorem FrameAt.o_back {v_points v_turn v_table v_winner v_how v_break_so_far v_highest_breaks v_big_breaks v_misses v_table_if_back v_misses_if_back v_may_name_free v_may_again v_may_back : V} (h : FrameAt A H a v_points v_turn v_table v_winner v_how v_break_so_far v_highest_breaks v_big_breaks v_misses v_table_if_back v_misses_if_back v_may_name_free v_may_again v_may_back) : Ob A.Frame.c "back" H (.ref a) := let ⟨dx, e⟩ := h; ⟨a, dx, _, rfl, e, Frame_n_back v_points v_turn v_table v_winner v_how v_break_so_far v_highest_breaks v_big_breaks v_misses v_table_if_back v_misses_if_back v_may_name_free v_may_again v_may_back⟩
theorem Frame_n_toss (v_points v_turn v_table v_winner v_how v_break_so_far v_highest_breaks v_big_breaks v_misses v_table_if_back v_misses_if_back v_may_name_free v_may_again v_may_back : V) : (Frame_fs v_points v_turn v_table v_winner v_how v_break_so_far v_highest_breaks v_big_breaks v_misses v_table_if_back v_misses_if_back v_may_name_free v_may_again v_may_back).lookup ("toss" : Str) = none := by kernel_rfl
theorem FrameAt.o_toss {v_points v_turn v_table v_winner v_how v_break_so_far v_highest_breaks v_big_breaks v_misses v_table_if_back v_misses_if_back v_may_name_free v_may_again v_may_back : V} (h : FrameAt A H a v_points v_turn v_table v_winner v_how v_break_so_far v_highest_breaks v_big_breaks v_misses v_table_if_back v_misses_if_back v_may_name_free v_may_again v_may_back) : Ob A.Frame.c "toss" H (.ref a) := let ⟨dx, e⟩ := h; ⟨a, dx, _, rfl, e, Frame_n_toss v_points v_turn v_table v_winner v_how v_break_so_far v_highest_breaks v_big_breaks v_misses v_table_if_back v_misses_if_back v_may_name_free v_may_again v_may_back⟩
theorem Frame_n_give (v_points v_turn v_table v_winner v_how v_break_so_far v_highest_breaks v_big_breaks v_misses v_table_if_back v_misses_if_back v_may_name_free v_may_again v_may_back : V) : (Frame_fs v_points v_turn v_table v_winner v_how v_break_so_far v_highest_breaks v_big_breaks v_misses v_table_if_back v_misses_if_back v_may_name_free v_may_again v_may_back).lookup ("give" : Str) = none := by kernel_rfl
theorem FrameAt.o_give {v_points v_turn v_table v_winner v_how v_break_so_far v_highest_breaks v_big_breaks v_misses v_table_if_back v_misses_if_back v_may_name_free v_may_again v_may_back : V} (h : FrameAt A H a v_points v_turn v_table v_winner v_how v_break_so_far v_highest_breaks v_big_breaks v_misses v_table_if_back v_misses_if_back v_may_name_free v_may_again v_may_back) : Ob A.Frame.c "give" H (.ref a) := let ⟨dx, e⟩ := h; ⟨a, dx, _, rfl, e, Frame_n_give v_points v_turn v_table v_winner v_how v_break_so_far v_highest_breaks v_big_breaks v_misses v_table_if_back v_misses_if_back v_may_name_free v_may_again v_may_back⟩
theorem Frame_n_fouls_needed (v_points v_turn v_table v_winner v_how v_break_so_far v_highest_breaks v_big_breaks v_misses v_table_if_back v_misses_if_back v_may_name_free v_may_again v_may_back : V) : (Frame_fs v_points v_turn v_table v_winner v_how v_break_so_far v_highest_breaks v_big_breaks v_misses v_table_if_back v_misses_if_back v_may_name_free v_may_again v_may_back).lookup ("fouls_needed" : Str) = none := by kernel_rfl
theorem FrameAt.o_fouls_needed {v_points v_turn v_table v_winner v_how v_break_so_far v_highest_breaks v_big_breaks v_misses v_table_if_back v_misses_if_back v_may_name_free v_may_again v_may_back : V} (h : FrameAt A H a v_points v_turn v_table v_winner v_how v_break_so_far v_highest_breaks v_big_breaks v_misses v_table_if_back v_misses_if_back v_may_name_free v_may_again v_may_back) : Ob A.Frame.c "fouls_needed" H (.ref a) := let ⟨dx, e⟩ := h; ⟨a, dx, _, rfl, e, Frame_n_fouls_needed v_points v_turn v_table v_winner v_how v_break_so_far v_highest_breaks v_big_breaks v_misses v_table_if_back v_misses_if_back v_may_name_free v_may_again v_may_back⟩
theorem Frame_n_as_it_stands (v_points v_turn v_table v_winner v_how v_break_so_far v_highest_breaks v_big_breaks v_misses v_table_if_back v_misses_if_back v_may_name_free v_may_again v_may_back : V) : (Frame_fs v_points v_turn v_table v_winner v_how v_break_so_far v_highest_breaks v_big_breaks v_misses v_table_if_back v_misses_if_back v_may_name_free v_may_again v_may_back).lookup ("as_it_stands" : Str) = none := by kernel_rfl
theorem FrameAt.o_as_it_stands {v_points v_turn v_table v_winner v_how v_break_so_far v_highest_breaks v_big_breaks v_misses v_table_if_back v_misses_if_back v_may_name_free v_may_again v_may_back : V} (h : FrameAt A H a v_points v_turn v_table v_winner v_how v_break_so_far v_highest_breaks v_big_breaks v_misses v_table_if_back v_misses_if_back v_may_name_free v_may_again v_may_back) : Ob A.Frame.c "as_it_stands" H (.ref a) := let ⟨dx, e⟩ := h; ⟨a, dx, _, rfl, e, Frame_n_as_it_stands v_points v_turn v_table v_winner v_how v_break_so_far v_highest_breaks v_big_breaks v_misses v_table_if_back v_misses_if_back v_may_name_free v_may_again v_may_back⟩
theorem Frame_n_outcome (v_points v_turn v_table v_winner v_how v_break_so_far v_highest_breaks v_big_breaks v_misses v_table_if_back v_misses_if_back v_may_name_free v_may_again v_may_back : V) : (Frame_fs v_points v_turn v_table v_winner v_how v_break_so_far v_highest_breaks v_big_breaks v_misses v_table_if_back v_misses_if_back v_may_name_free v_may_again v_may_back).lookup ("outcome" : Str) = none := by kernel_rfl
theorem FrameAt.o_outcome {v_points v_turn v_table v_winner v_how v_break_so_far v_highest_breaks v_big_breaks v_misses v_table_if_back v_misses_if_back v_may_name_free v_may_again v_may_back : V} (h : FrameAt A H a v_points v_turn v_table v_winner v_how v_break_so_far v_highest_breaks v_big_breaks v_misses v_table_if_back v_misses_if_back v_may_name_free v_may_again v_may_back) : Ob A.Frame.c "outcome" H (.ref a) := let ⟨dx, e⟩ := h; ⟨a, dx, _, rfl, e, Frame_n_outcome v_points v_turn v_table v_winner v_how v_break_so_far v_highest_breaks v_big_breaks v_misses v_table_if_back v_misses_if_back v_may_name_free v_may_again v_may_back⟩
theorem Frame_len (v_points v_turn v_table v_winner v_how v_break_so_far v_highest_breaks v_big_breaks v_misses v_table_if_back v_misses_if_back v_may_name_free v_may_again v_may_back : V) : (Frame_fs v_points v_turn v_table v_winner v_how v_break_so_far v_highest_breaks v_big_breaks v_misses v_table_if_back v_misses_if_back v_may_name_free v_may_again v_may_back).length < 1000 := of_decide_eq_true (by kernel_rfl)
theorem Frame_l1 (v_points : V) : ((putF ("points" : Str) v_points [])).length < 1000 := of_decide_eq_true (by kernel_rfl)
theorem Frame_l2 (v_points v_turn : V) : ((putF ("turn" : Str) v_turn (putF ("points" : Str) v_points []))).length < 1000 := of_decide_eq_true (by kernel_rfl)
theorem Frame_l3 (v_points v_turn v_table : V) : ((putF ("table" : Str) v_table (putF ("turn" : Str) v_turn (putF ("points" : Str) v_points [])))).length < 1000 := of_decide_eq_true (by kernel_rfl)
theorem Frame_l4 (v_points v_turn v_table v_winner : V) : ((putF ("winner" : Str) v_winner (putF ("table" : Str) v_table (putF ("turn" : Str) v_turn (putF ("points" : Str) v_points []))))).length < 1000 := of_decide_eq_true (by kernel_rfl)
theorem Frame_l5 (v_points v_turn v_table v_winner v_how : V) : ((putF ("how" : Str) v_how (putF ("winner" : Str) v_winner (putF ("table" : Str) v_table (putF ("turn" : Str) v_turn (putF ("points" : Str) v_points [])))))).length < 1000 := of_decide_eq_true (by kernel_rfl)
theorem Frame_l6 (v_points v_turn v_table v_winner v_how v_break_so_far : V) : ((putF ("break_so_far" : Str) v_break_so_far (putF ("how" : Str) v_how (putF ("winner" : Str) v_winner (putF ("table" : Str) v_table (putF ("turn" : Str) v_turn (putF ("points" : Str) v_points []))))))).length < 1000 := of_decide_eq_true (by kernel_rfl)
theorem Frame_l7 (v_points v_turn v_table v_winner v_how v_break_so_far v_highest_breaks : V) : ((putF ("highest_breaks" : Str) v_highest_breaks (putF ("break_so_far" : Str) v_break_so_far (putF ("how" : Str) v_how (putF ("winner" : Str) v_winner (putF ("table" : Str) v_table (putF ("turn" : Str) v_turn (putF ("points" : Str) v_points [])))))))).length < 1000 := of_decide_eq_true (by kernel_rfl)
theorem Frame_l8 (v_points v_turn v_table v_winner v_how v_break_so_far v_highest_breaks v_big_breaks : V) : ((putF ("big_breaks" : Str) v_big_breaks (putF ("highest_breaks" : Str) v_highest_breaks (putF ("break_so_far" : Str) v_break_so_far (putF ("how" : Str) v_how (putF ("winner" : Str) v_winner (putF ("table" : Str) v_table (putF ("turn" : Str) v_turn (putF ("points" : Str) v_points []))))))))).length < 1000 := of_decide_eq_true (by kernel_rfl)
theorem Frame_l9 (v_points v_turn v_table v_winner v_how v_break_so_far v_highest_breaks v_big_breaks v_misses : V) : ((putF ("misses" : Str) v_misses (putF ("big_breaks" : Str) v_big_breaks (putF ("highest_breaks" : Str) v_highest_breaks (putF ("break_so_far" : Str) v_break_so_far (putF ("how" : Str) v_how (putF ("winner" : Str) v_winner (putF ("table" : Str) v_table (putF ("turn" : Str) v_turn (putF ("points" : Str) v_points [])))))))))).length < 1000 := of_decide_eq_true (by kernel_rfl)
theorem Frame_l10 (v_points v_turn v_table v_winner v_how v_break_so_far v_highest_breaks v_big_breaks v_misses v_table_if_back : V) : ((putF ("table_if_back" : Str) v_table_if_back (putF ("misses" : Str) v_misses (putF ("big_breaks" : Str) v_big_breaks (putF ("highest_breaks" : Str) v_highest_breaks (putF ("break_so_far" : Str) v_break_so_far (putF ("how" : Str) v_how (putF ("winner" : Str) v_winner (putF ("table" : Str) v_table (putF ("turn" : Str) v_turn (putF ("points" : Str) v_points []))))))))))).length < 1000 := of_decide_eq_true (by kernel_rfl)
theorem Frame_mk (v_points v_turn v_table v_winner v_how v_break_so_far v_highest_breaks v_big_breaks v_misses v_table_if_back v_misses_if_back v_may_name_free v_may_again v_may_back : V) : (putF ("may_back" : Str) v_may_back (putF ("may_again" : Str) v_may_again (putF ("may_name_free" : Str) v_may_name_free (putF ("misses_if_back" : Str) v_misses_if_back (putF ("table_if_back" : Str) v_table_if_back (putF ("misses" : Str) v_misses (putF ("big_breaks" : Str) v_big_breaks (putF ("highest_breaks" : Str) v_highest_breaks (putF ("break_so_far" : Str) v_break_so_far (putF ("how" : Str) v_how (putF ("winner" : Str) v_winner (putF ("table" : Str) v_table (putF ("turn" : Str) v_turn (putF ("points" : Str) v_points [])))))))))))))) = Frame_fs v_points v_turn v_table v_winner v_how v_break_so_far v_highest_breaks v_big_breaks v_misses v_table_if_back v_misses_if_back v_may_name_free v_may_again v_may_back := by kernel_rfl
def Reader_fs (v_source v_at : V) : List (Str × V) := [(("source" : Str), v_source), (("at" : Str), v_at)]
def ReaderAt (A : Adr) (H : Hp) (a : Addr) (v_source v_at : V) : Prop := ∃ dx, H a = some (.ins A.Reader.c dx (Reader_fs v_source v_at))
theorem Reader_g_source (v_source v_at : V) : (Reader_fs v_source v_at).lookup ("source" : Str) = some v_source := by kernel_rfl
theorem ReaderAt.source {v_source v_at : V} (h : ReaderAt A H a v_source v_at) (T : Txt K mg A) : Fld K H (.ref a) "source" v_source := let ⟨dx, e⟩ := h; ⟨a, _, dx, _, rfl, e, T.Reader.cl, T.Reader.na_source, Reader_g_source v_source v_at⟩
theorem Reader_g_at (v_source v_at : V) : (Reader_fs v_source v_at).lookup ("at" : Str) = some v_at := by kernel_rfl
theorem Reader_p_at (v v_source v_at : V) : putF ("at" : Str) v (Reader_fs v_source v_at) = Reader_fs v_source v := by kernel_rfl
theorem ReaderAt.at {v_source v_at : V} (h : ReaderAt A H a v_source v_at) (T : Txt K mg A) : Fld K H (.ref a) "at" v_at := let ⟨dx, e⟩ := h; ⟨a, _, dx, _, rfl, e, T.Reader.cl, T.Reader.na_at, Reader_g_at v_source v_at⟩
theorem Reader_n_is_at_end (v_source v_at : V) : (Reader_fs v_source v_at).lookup ("is_at_end" : Str) = none := by kernel_rfl
theorem ReaderAt.o_is_at_end {v_source v_at : V} (h : ReaderAt A H a v_source v_at) : Ob A.Reader.c "is_at_end" H (.ref a) := let ⟨dx, e⟩ := h; ⟨a, dx, _, rfl, e, Reader_n_is_at_end v_source v_at⟩
theorem Reader_n_take_numbers (v_source v_at : V) : (Reader_fs v_source v_at).lookup ("take_numbers" : Str) = none := by kernel_rfl
theorem ReaderAt.o_take_numbers {v_source v_at : V} (h : ReaderAt A H a v_source v_at) : Ob A.Reader.c "take_numbers" H (.ref a) := let ⟨dx, e⟩ := h; ⟨a, dx, _, rfl, e, Reader_n_take_numbers v_source v_at⟩
theorem Reader_n_take_number (v_source v_at : V) : (Reader_fs v_source v_at).lookup ("take_number" : Str) = none := by kernel_rfl
theorem ReaderAt.o_take_number {v_source v_at : V} (h : ReaderAt A H a v_source v_at) : Ob A.Reader.c "take_number" H (.ref a) := let ⟨dx, e⟩ := h; ⟨a, dx, _, rfl, e, Reader_n_take_number v_source v_at⟩
theorem Reader_n_take_row (v_source v_at : V) : (Reader_fs v_source v_at).lookup ("take_row" : Str) = none := by kernel_rfl
theorem ReaderAt.o_take_row {v_source v_at : V} (h : ReaderAt A H a v_source v_at) : Ob A.Reader.c "take_row" H (.ref a) := let ⟨dx, e⟩ := h; ⟨a, dx, _, rfl, e, Reader_n_take_row v_source v_at⟩
theorem Reader_len (v_source v_at : V) : (Reader_fs v_source v_at).length < 1000 := of_decide_eq_true (by kernel_rfl)
theorem Reader_l1 (v_source : V) : ((putF ("source" : Str) v_source [])).length < 1000 := of_decide_eq_true (by kernel_rfl)
theorem Reader_mk (v_source v_at : V) : (putF ("at" : Str) v_at (putF ("source" : Str) v_source [])) = Reader_fs v_source v_at := by kernel_rfl
def Match_fs (v_best v_won v_starter v_frame v_frames_over : V) : List (Str × V) := [(("best" : Str), v_best), (("won" : Str), v_won), (("starter" : Str), v_starter), (("frame" : Str), v_frame), (("frames_over" : Str), v_frames_over)]
def MatchAt (A : Adr) (H : Hp) (a : Addr) (v_best v_won v_starter v_frame v_frames_over : V) : Prop := ∃ dx, H a = some (.ins A.Match.c dx (Match_fs v_best v_won v_starter v_frame v_frames_over))
theorem Match_g_best (v_best v_won v_starter v_frame v_frames_over : V) : (Match_fs v_best v_won v_starter v_frame v_frames_over).lookup ("best" : Str) = some v_best := by kernel_rfl
theorem Match_p_best (v v_best v_won v_starter v_frame v_frames_over : V) : putF ("best" : Str) v (Match_fs v_best v_won v_starter v_frame v_frames_over) = Match_fs v v_won v_starter v_frame v_frames_over := by kernel_rfl
theorem MatchAt.best {v_best v_won v_starter v_frame v_frames_over : V} (h : MatchAt A H a v_best v_won v_starter v_frame v_frames_over) (T : Txt K mg A) : Fld K H (.ref a) "best" v_best := let ⟨dx, e⟩ := h; ⟨a, _, dx, _, rfl, e, T.Match.cl, T.Match.na_best, Match_g_best v_best v_won v_starter v_frame v_frames_over⟩
theorem Match_g_won (v_best v_won v_starter v_frame v_frames_over : V) : (Match_fs v_best v_won v_starter v_frame v_frames_over).lookup ("won" : Str) = some v_won := by kernel_rfl
theorem Match_p_won (v v_best v_won v_starter v_frame v_frames_over : V) : putF ("won" : Str) v (Match_fs v_best v_won v_starter v_frame v_frames_over) = Match_fs v_best v v_starter v_frame v_frames_over := by kernel_rfl
theorem MatchAt.won {v_best v_won v_starter v_frame v_frames_over : V} (h : MatchAt A H a v_best v_won v_starter v_frame v_frames_over) (T : Txt K mg A) : Fld K H (.ref a) "won" v_won := let ⟨dx, e⟩ := h; ⟨a, _, dx, _, rfl, e, T.Match.cl, T.Match.na_won, Match_g_won v_best v_won v_starter v_frame v_frames_over⟩
theorem Match_g_starter (v_best v_won v_starter v_frame v_frames_over : V) : (Match_fs v_best v_won v_starter v_frame v_frames_over).lookup ("starter" : Str) = some v_starter := by kernel_rfl
theorem Match_p_starter (v v_best v_won v_starter v_frame v_frames_over : V) : putF ("starter" : Str) v (Match_fs v_best v_won v_starter v_frame v_frames_over) = Match_fs v_best v_won v v_frame v_frames_over := by kernel_rfl
theorem MatchAt.starter {v_best v_won v_starter v_frame v_frames_over : V} (h : MatchAt A H a v_best v_won v_starter v_frame v_frames_over) (T : Txt K mg A) : Fld K H (.ref a) "starter" v_starter := let ⟨dx, e⟩ := h; ⟨a, _, dx, _, rfl, e, T.Match.cl, T.Match.na_starter, Match_g_starter v_best v_won v_starter v_frame v_frames_over⟩
theorem Match_g_frame (v_best v_won v_starter v_frame v_frames_over : V) : (Match_fs v_best v_won v_starter v_frame v_frames_over).lookup ("frame" : Str) = some v_frame := by kernel_rfl
theorem Match_p_frame (v v_best v_won v_starter v_frame v_frames_over : V) : putF ("frame" : Str) v (Match_fs v_best v_won v_starter v_frame v_frames_over) = Match_fs v_best v_won v_starter v v_frames_over := by kernel_rfl
theorem MatchAt.frame {v_best v_won v_starter v_frame v_frames_over : V} (h : MatchAt A H a v_best v_won v_starter v_frame v_frames_over) (T : Txt K mg A) : Fld K H (.ref a) "frame" v_frame := let ⟨dx, e⟩ := h; ⟨a, _, dx, _, rfl, e, T.Match.cl, T.Match.na_frame, Match_g_frame v_best v_won v_starter v_frame v_frames_over⟩
theorem Match_g_frames_over (v_best v_won v_starter v_frame v_frames_over : V) : (Match_fs v_best v_won v_starter v_frame v_frames_over).lookup ("frames_over" : Str) = some v_frames_over := by kernel_rfl
theorem Match_p_frames_over (v v_best v_won v_starter v_frame v_frames_over : V) : putF ("frames_over" : Str) v (Match_fs v_best v_won v_starter v_frame v_frames_over) = Match_fs v_best v_won v_starter v_frame v := by kernel_rfl
theorem MatchAt.frames_over {v_best v_won v_starter v_frame v_frames_over : V} (h : MatchAt A H a v_best v_won v_starter v_frame v_frames_over) (T : Txt K mg A) : Fld K H (.ref a) "frames_over" v_frames_over := let ⟨dx, e⟩ := h; ⟨a, _, dx, _, rfl, e, T.Match.cl, T.Match.na_frames_over, Match_g_frames_over v_best v_won v_starter v_frame v_frames_over⟩
theorem Match_n_begin (v_best v_won v_starter v_frame v_frames_over : V) : (Match_fs v_best v_won v_starter v_frame v_frames_over).lookup ("begin" : Str) = none := by kernel_rfl
theorem MatchAt.o_begin {v_best v_won v_starter v_frame v_frames_over : V} (h : MatchAt A H a v_best v_won v_starter v_frame v_frames_over) : Ob A.Match.c "begin" H (.ref a) := let ⟨dx, e⟩ := h; ⟨a, dx, _, rfl, e, Match_n_begin v_best v_won v_starter v_frame v_frames_over⟩
theorem Match_n_stroke (v_best v_won v_starter v_frame v_frames_over : V) : (Match_fs v_best v_won v_starter v_frame v_frames_over).lookup ("stroke" : Str) = none := by kernel_rfl
theorem MatchAt.o_stroke {v_best v_won v_starter v_frame v_frames_over : V} (h : MatchAt A H a v_best v_won v_starter v_frame v_frames_over) : Ob A.Match.c "stroke" H (.ref a) := let ⟨dx, e⟩ := h; ⟨a, dx, _, rfl, e, Match_n_stroke v_best v_won v_starter v_frame v_frames_over⟩
theorem Match_n_refusal_of_stroke (v_best v_won v_starter v_frame v_frames_over : V) : (Match_fs v_best v_won v_starter v_frame v_frames_over).lookup ("refusal_of_stroke" : Str) = none := by kernel_rfl
theorem MatchAt.o_refusal_of_stroke {v_best v_won v_starter v_frame v_frames_over : V} (h : MatchAt A H a v_best v_won v_starter v_frame v_frames_over) : Ob A.Match.c "refusal_of_stroke" H (.ref a) := let ⟨dx, e⟩ := h; ⟨a, dx, _, rfl, e, Match_n_refusal_of_stroke v_best v_won v_starter v_frame v_frames_over⟩
theorem Match_n_end_frame (v_best v_won v_starter v_frame v_frames_over : V) : (Match_fs v_best v_won v_starter v_frame v_frames_over).lookup ("end_frame" : Str) = none := by kernel_rfl
theorem MatchAt.o_end_frame {v_best v_won v_starter v_frame v_frames_over : V} (h : MatchAt A H a v_best v_won v_starter v_frame v_frames_over) : Ob A.Match.c "end_frame" H (.ref a) := let ⟨dx, e⟩ := h; ⟨a, dx, _, rfl, e, Match_n_end_frame v_best v_won v_starter v_frame v_frames_over⟩
theorem Match_n_again (v_best v_won v_starter v_frame v_frames_over : V) : (Match_fs v_best v_won v_starter v_frame v_frames_over).lookup ("again" : Str) = none := by kernel_rfl
theorem MatchAt.o_again {v_best v_won v_starter v_frame v_frames_over : V} (h : MatchAt A H a v_best v_won v_starter v_frame v_frames_over) : Ob A.Match.c "again" H (.ref a) := let ⟨dx, e⟩ := h; ⟨a, dx, _, rfl, e, Match_n_again v_best v_won v_starter v_frame v_frames_over⟩
theorem Match_n_back (v_best v_won v_starter v_frame v_frames_over : V) : (Match_fs v_best v_won v_starter v_frame v_frames_over).lookup ("back" : Str) = none := by kernel_rfl
theorem MatchAt.o_back {v_best v_won v_starter v_frame v_frames_over : V} (h : MatchAt A H a v_best v_won v_starter v_frame v_frames_over) : Ob A.Match.c "back" H (.ref a) := let ⟨dx, e⟩ := h; ⟨a, dx, _, rfl, e, Match_n_back v_best v_won v_starter v_frame v_frames_over⟩
theorem Match_n_toss (v_best v_won v_starter v_frame v_frames_over : V) : (Match_fs v_best v_won v_starter v_frame v_frames_over).lookup ("toss" : Str) = none := by kernel_rfl
theorem MatchAt.o_toss {v_best v_won v_starter v_frame v_frames_over : V} (h : MatchAt A H a v_best v_won v_starter v_frame v_frames_over) : Ob A.Match.c "toss" H (.ref a) := let ⟨dx, e⟩ := h; ⟨a, dx, _, rfl, e, Match_n_toss v_best v_won v_starter v_frame v_frames_over⟩
theorem Match_n_give (v_best v_won v_starter v_frame v_frames_over : V) : (Match_fs v_best v_won v_starter v_frame v_frames_over).lookup ("give" : Str) = none := by kernel_rfl
theorem MatchAt.o_give {v_best v_won v_starter v_frame v_frames_over : V} (h : MatchAt A H a v_best v_won v_starter v_frame v_frames_over) : Ob A.Match.c "give" H (.ref a) := let ⟨dx, e⟩ := h; ⟨a, dx, _, rfl, e, Match_n_give v_best v_won v_starter v_frame v_frames_over⟩
theorem Match_n_now (v_best v_won v_starter v_frame v_frames_over : V) : (Match_fs v_best v_won v_starter v_frame v_frames_over).lookup ("now" : Str) = none := by kernel_rfl
theorem MatchAt.o_now {v_best v_won v_starter v_frame v_frames_over : V} (h : MatchAt A H a v_best v_won v_starter v_frame v_frames_over) : Ob A.Match.c "now" H (.ref a) := let ⟨dx, e⟩ := h; ⟨a, dx, _, rfl, e, Match_n_now v_best v_won v_starter v_frame v_frames_over⟩
theorem Match_n_tell_frames (v_best v_won v_starter v_frame v_frames_over : V) : (Match_fs v_best v_won v_starter v_frame v_frames_over).lookup ("tell_frames" : Str) = none := by kernel_rfl
theorem MatchAt.o_tell_frames {v_best v_won v_starter v_frame v_frames_over : V} (h : MatchAt A H a v_best v_won v_starter v_frame v_frames_over) : Ob A.Match.c "tell_frames" H (.ref a) := let ⟨dx, e⟩ := h; ⟨a, dx, _, rfl, e, Match_n_tell_frames v_best v_won v_starter v_frame v_frames_over⟩
theorem Match_n_tell_match (v_best v_won v_starter v_frame v_frames_over : V) : (Match_fs v_best v_won v_starter v_frame v_frames_over).lookup ("tell_match" : Str) = none := by kernel_rfl
theorem MatchAt.o_tell_match {v_best v_won v_starter v_frame v_frames_over : V} (h : MatchAt A H a v_best v_won v_starter v_frame v_frames_over) : Ob A.Match.c "tell_match" H (.ref a) := let ⟨dx, e⟩ := h; ⟨a, dx, _, rfl, e, Match_n_tell_match v_best v_won v_starter v_frame v_frames_over⟩
theorem Match_n_highest_break (v_best v_won v_starter v_frame v_frames_over : V) : (Match_fs v_best v_won v_starter v_frame v_frames_over).lookup ("highest_break" : Str) = none := by kernel_rfl
theorem MatchAt.o_highest_break {v_best v_won v_starter v_frame v_frames_over : V} (h : MatchAt A H a v_best v_won v_starter v_frame v_frames_over) : Ob A.Match.c "highest_break" H (.ref a) := let ⟨dx, e⟩ := h; ⟨a, dx, _, rfl, e, Match_n_highest_break v_best v_won v_starter v_frame v_frames_over⟩
theorem Match_n_count_big_breaks (v_best v_won v_starter v_frame v_frames_over : V) : (Match_fs v_best v_won v_starter v_frame v_frames_over).lookup ("count_big_breaks" : Str) = none := by kernel_rfl
theorem MatchAt.o_count_big_breaks {v_best v_won v_starter v_frame v_frames_over : V} (h : MatchAt A H a v_best v_won v_starter v_frame v_frames_over) : Ob A.Match.c "count_big_breaks" H (.ref a) := let ⟨dx, e⟩ := h; ⟨a, dx, _, rfl, e, Match_n_count_big_breaks v_best v_won v_starter v_frame v_frames_over⟩
theorem Match_len (v_best v_won v_starter v_frame v_frames_over : V) : (Match_fs v_best v_won v_starter v_frame v_frames_over).length < 1000 := of_decide_eq_true (by kernel_rfl)
theorem Match_l1 (v_best : V) : ((putF ("best" : Str) v_best [])).length < 1000 := of_decide_eq_true (by kernel_rfl)
theorem Match_l2 (v_best v_won : V) : ((putF ("won" : Str) v_won (putF ("best" : Str) v_best []))).length < 1000 := of_decide_eq_true (by kernel_rfl)
theorem Match_l3 (v_best v_won v_starter : V) : ((putF ("starter" : Str) v_starter (putF ("won" : Str) v_won (putF ("best" : Str) v_best [])))).length < 1000 := of_decide_eq_true (by kernel_rfl)
theorem Match_l4 (v_best v_won v_starter v_frame : V) : ((putF ("frame" : Str) v_frame (putF ("starter" : Str) v_starter (putF ("won" : Str) v_won (putF ("best" : Str) v_best []))))).length < 1000 := of_decide_eq_true (by kernel_rfl)
theorem Match_mk (v_best v_won v_starter v_frame v_frames_over : V) : (putF ("frames_over" : Str) v_frames_over (putF ("frame" : Str) v_frame (putF ("starter" : Str) v_starter (putF ("won" : Str) v_won (putF ("best" : Str) v_best []))))) = Match_fs v_best v_won v_starter v_frame v_frames_over := by kernel_rfl
end
end Cue
end
section
set_option Elab.async false
set_option linter.all false
set_option maxRecDepth 100000
set_option autoImplicit false
set_option maxHeartbeats 4000000
namespace Cue
open PySem PySem.Spec PyProof.Rows L2

/-! ### helpers -/
theorem dI (i j : Int) : decide (V.int i = V.int j) = decide (i = j) := by
  by_cases h : i = j
  · simp [h]
  · simp [h]
theorem same_upd_new {H : Hp} {p : Addr} {o : HO} (h : H p = none) : Same H (upd H p o) := fun b u e => by rw [upd_ne (ne_of_none e h)]; exact e
/-- a new object and its dict -/
def mkO (H : Hp) (x dx C : Addr) (fs : List (Str × V)) : Hp := upd (upd H dx (.own x)) x (.ins C dx fs)
theorem mkO_same {H : Hp} {x dx C : Addr} {fs : List (Str × V)} (hx : H x = none) (hd : H dx = none) : Same H (mkO H x dx C fs) := fun b u e => by
  unfold mkO
  rw [upd_ne (ne_of_none e hx), upd_ne (ne_of_none e hd)]
  exact e
theorem mkO_new {H : Hp} {x dx C : Addr} {fs : List (Str × V)} : mkO H x dx C fs x = some (.ins C dx fs) := upd_same
theorem mkO_upd {H : Hp} {x dx C : Addr} {fs gs : List (Str × V)} : upd (mkO H x dx C fs) x (.ins C dx gs) = mkO H x dx C gs := upd_upd
theorem ints_len (l : List Nat) : (nints l).length = l.length := List.length_map ..
theorem ints_app (l m : List Nat) : nints l ++ nints m = nints (l ++ m) := (List.map_append ..).symm
theorem ints_count (l : List Nat) (x : Nat) : (nints l).count (x : Int) = l.count x := by
  unfold nints
  induction l with
  | nil => rfl
  | cons a r ih =>
    rw [List.map_cons, List.count_cons, List.count_cons, ih]
    congr 1
    by_cases h : a = x
    · simp [h]
    · have : ¬ (a : Int) = (x : Int) := by omega
      simp [h, this]
theorem sz60 {n : Nat} (h : n ≤ 1000) : n ≤ sizeLine := Nat.le_of_lt (small1000 h)
theorem take_snoc {α : Type} : ∀ {l : List α} {i : Nat} {x : α}, l[i]? = some x → l.take (i + 1) = l.take i ++ [x]
  | [], i, x, h => by simp at h
  | a :: l, 0, x, h => by
    have e : a = x := Option.some.inj h
    subst e
    rfl
  | a :: l, i + 1, x, h => by
    have ih := take_snoc (l := l) (i := i) (x := x) h
    show a :: l.take (i + 1) = a :: l.take i ++ [x]
    rw [ih]
    rfl
/-! ### data -/
def TabAt (A : Adr) (H : Hp) (a : Addr) (t : Kg53.Table) : Prop := TableAt A H a (.int t.reds) (.int (tL t)) (.int (tO t))
theorem TabAt.mono {A : Adr} {H H' : Hp} {a : Addr} {t : Kg53.Table} (s : Same H H') (h : TabAt A H a t) : TabAt A H' a t := TableAt.mono s h
def hid (b : Bool) : Int := if b = true then 1 else 0
structure KAt (A : Adr) (H : Hp) (a pa oa : Addr) (k : Kg53.Stroke) : Prop where
  obj : StrokeAt A H a (.int k.named) (.int k.hit) (.int k.conduct) (.int (hid k.hidden)) (.int k.miss) (.ref pa) (.ref oa)
  pot : H pa = some (.lst ((nints k.potted).map V.int))
  off : H oa = some (.lst ((nints k.off).map V.int))
  lp : k.potted.length ≤ 30
  lo : k.off.length ≤ 30
theorem KAt.mono {A : Adr} {H H' : Hp} {a pa oa : Addr} {k : Kg53.Stroke} (s : Same H H') (h : KAt A H a pa oa k) : KAt A H' a pa oa k := ⟨h.obj.mono s, s _ _ h.pot, s _ _ h.off, h.lp, h.lo⟩
def wi (x y : Int) : Bool := decide (0 ≤ x) && decide (x ≤ y)
/-! ### promises -/
def sp_other : Sp := fun vs H Q _ => ∃ p : Int, vs = [.int p] ∧ Q (.int (1 - p)) H
def sp_Stroke_init (A : Adr) : Sp := fun vs H Q _ => ∃ (p dx na : Addr) (n h c d m : Int) (pv ov : V), vs = [.ref p, .ref na, pv, ov] ∧ H p = some (.ins A.Stroke.c dx []) ∧ H na = some (.lst [.int n, .int h, .int c, .int d, .int m]) ∧
  Q .non (upd H p (.ins A.Stroke.c dx (Stroke_fs (.int n) (.int h) (.int c) (.int d) (.int m) pv ov)))
def sp_Stroke_names_colour (A : Adr) : Sp := fun vs H Q _ => ∃ (a : Addr) (n : Int) (v2 v3 v4 v5 v6 v7 : V), vs = [.ref a] ∧ StrokeAt A H a (.int n) v2 v3 v4 v5 v6 v7 ∧ Q (.bl (decide (2 ≤ n))) H
def sp_Stroke_reds_gone (A : Adr) : Sp := fun vs H Q _ => ∃ (a pa oa : Addr) (k : Kg53.Stroke), vs = [.ref a] ∧ KAt A H a pa oa k ∧ Q (.int (rgone k : Nat)) H
def sp_is_within : Sp := fun vs H Q _ => ∃ x y : Int, vs = [.int x, .int y] ∧ Q (.bl (wi x y)) H
def known (n h c d m : Int) (p o : List Int) : Bool := wi n 7 && (wi h 7 && (wi c 8 && (wi d 1 && (wi m 2 && (p ++ o).all fun z => wi z 7))))
def sp_has_known_numbers (A : Adr) : Sp := fun vs H Q _ => ∃ (a pa oa : Addr) (n h c d m : Int) (p o : List Int), vs = [.ref a] ∧ StrokeAt A H a (.int n) (.int h) (.int c) (.int d) (.int m) (.ref pa) (.ref oa) ∧
  H pa = some (.lst (p.map V.int)) ∧ H oa = some (.lst (o.map V.int)) ∧ p.length + o.length ≤ 1000 ∧ ∀ H', Same H H' → Q (.bl (known n h c d m p o)) H'
def sp_can_have_been (A : Adr) : Sp := fun vs H Q _ => ∃ (a pa oa ta : Addr) (k : Kg53.Stroke) (t : Kg53.Table), vs = [.ref a, .ref ta] ∧ KAt A H a pa oa k ∧ TabAt A H ta t ∧ ∀ H', Same H H' → Q (.bl (chb t k)) H'
def sp_Table_init (A : Adr) : Sp := fun vs H Q _ => ∃ (p dx : Addr) (r l o : V), vs = [.ref p, r, l, o] ∧ H p = some (.ins A.Table.c dx []) ∧ Q .non (upd H p (.ins A.Table.c dx (Table_fs r l o)))
def sp_Table_how_many (A : Adr) : Sp := fun vs H Q _ => ∃ (a : Addr) (t : Kg53.Table) (b : Nat), vs = [.ref a, .int b] ∧ TabAt A H a t ∧ Q (.int (hm t b : Nat)) H
def sp_Table_more (A : Adr) : Sp := fun vs H Q _ => ∃ (a : Addr) (t : Kg53.Table), vs = [.ref a] ∧ TabAt A H a t ∧ Q (.bl (decide (tL t < 7))) H
def sp_Table_left (A : Adr) : Sp := fun vs H Q _ => ∃ (a : Addr) (t : Kg53.Table), vs = [.ref a] ∧ TabAt A H a t ∧ TOk t ∧ ∀ H', Same H H' → Q (.int (t.left : Nat)) H'
def sp_table_in_round (A : Adr) : Sp := fun vs H Q _ => ∃ r l : Nat, vs = [.int r, .int l] ∧ 2 ≤ l ∧ l ≤ 8 ∧ ∀ (H' : Hp) (p : Addr), Same H H' → H p = none → TabAt A H' p (rnd r l) → Q (.ref p) H'
def sp_full_table (A : Adr) : Sp := fun vs H Q _ => vs = [] ∧ ∀ (H' : Hp) (p : Addr), Same H H' → H p = none → TabAt A H' p (rnd 15 2) → Q (.ref p) H'
def sp_black_alone (A : Adr) : Sp := fun vs H Q _ => vs = [] ∧ ∀ (H' : Hp) (p : Addr), Same H H' → H p = none → TabAt A H' p (rnd 0 7) → Q (.ref p) H'

section
variable {P : Program} {w : World} {K : PySem.W.Frag} {mg : Str → Option Value} {base : Heap} {A : Adr}
theorem ok_other (T : Txt K mg A) : FnOk P w K mg base CX0 1 A.fs.other.f A.fs.other.fd ["player"] sp_other := by
  refine T.fs.F_other.ok sc_other (fun vs H Q E h => ?_) (fun cdv Ar outer s H vs Q E hr h => ?_)
  · obtain ⟨p, rfl, _⟩ := h; rfl
  · obtain ⟨p, rfl, k⟩ := h
    refine ⟨_, ((pss_one (ps_ret (pe_op op_sub pe_int (pv 0))))), ?_⟩
    exact ⟨_, rfl, _, _, rfl, rfl, k⟩
theorem ok_Stroke_init (T : Txt K mg A) : FnOk P w K mg base CX0 1 A.Stroke.init.f A.Stroke.init.fd ["self", "numbers", "potted", "off"] (sp_Stroke_init A) := by
  refine T.Stroke.F_init.ok sc_Stroke_init (fun vs H Q E h => ?_) (fun cdv Ar outer s H vs Q E hr h => ?_)
  · obtain ⟨p, dx, na, n, h, c, d, m, pv, ov, rfl, _⟩ := h; rfl
  · obtain ⟨p, dx, na, n, h, c, d, m, pv', ov, rfl, hp, hna, k⟩ := h
    refine ⟨_, ((pss_cons (ps_fs (pv 0) (pe_ix ix_list (pv 1) pe_int (fun _ _ => rfl)) rfl)
      (pss_cons (ps_fs (pv 0) (pe_ix ix_list (pv 1) pe_int (fun _ _ => rfl)) rfl)
      (pss_cons (ps_fs (pv 0) (pe_ix ix_list (pv 1) pe_int (fun _ _ => rfl)) rfl)
      (pss_cons (ps_fs (pv 0) (pe_ix ix_list (pv 1) pe_int (fun _ _ => rfl)) rfl)
      (pss_cons (ps_fs (pv 0) (pe_ix ix_list (pv 1) pe_int (fun _ _ => rfl)) rfl)
      (pss_cons (ps_fs (pv 0) (pv 2) rfl)
      (pss_one (ps_fs (pv 0) (pv 3) rfl))))))))), ?_⟩
    have ne : na ≠ p := ne_of hna hp (by intro z; cases z)
    have hn : ∀ o, upd H p o na = some (.lst [.int n, .int h, .int c, .int d, .int m]) := fun o => by rw [upd_ne ne]; exact hna
    refine ⟨_, rfl, na, _, 0, _, rfl, rfl, SqL.of hna, rfl, _, rfl, p, _, dx, _, rfl, hp, ⟨T.Stroke.cl, T.Stroke.na_named, (by decide)⟩, ?_⟩
    refine ⟨_, rfl, na, _, 1, _, rfl, rfl, SqL.of (hn _), rfl, _, rfl, p, _, dx, _, rfl, upd_same, ⟨T.Stroke.cl, T.Stroke.na_hit, Stroke_l1 _⟩, ?_⟩
    rw [upd_upd]
    refine ⟨_, rfl, na, _, 2, _, rfl, rfl, SqL.of (hn _), rfl, _, rfl, p, _, dx, _, rfl, upd_same, ⟨T.Stroke.cl, T.Stroke.na_conduct, Stroke_l2 _ _⟩, ?_⟩
    rw [upd_upd]
    refine ⟨_, rfl, na, _, 3, _, rfl, rfl, SqL.of (hn _), rfl, _, rfl, p, _, dx, _, rfl, upd_same, ⟨T.Stroke.cl, T.Stroke.na_hidden, Stroke_l3 _ _ _⟩, ?_⟩
    rw [upd_upd]
    refine ⟨_, rfl, na, _, 4, _, rfl, rfl, SqL.of (hn _), rfl, _, rfl, p, _, dx, _, rfl, upd_same, ⟨T.Stroke.cl, T.Stroke.na_miss, Stroke_l4 _ _ _ _⟩, ?_⟩
    rw [upd_upd]
    refine ⟨_, rfl, _, rfl, p, _, dx, _, rfl, upd_same, ⟨T.Stroke.cl, T.Stroke.na_potted, Stroke_l5 _ _ _ _ _⟩, ?_⟩
    rw [upd_upd]
    refine ⟨_, rfl, _, rfl, p, _, dx, _, rfl, upd_same, ⟨T.Stroke.cl, T.Stroke.na_off, Stroke_l6 _ _ _ _ _ _⟩, ?_⟩
    rw [upd_upd, Stroke_mk]
    exact k
theorem ok_Stroke_names_colour (T : Txt K mg A) : FnOk P w K mg base CX0 1 A.Stroke.names_colour.f A.Stroke.names_colour.fd ["self"] (sp_Stroke_names_colour A) := by
  refine T.Stroke.F_names_colour.ok sc_Stroke_names_colour (fun vs H Q E h => ?_) (fun cdv Ar outer s H vs Q E hr h => ?_)
  · obtain ⟨a, n, v2, v3, v4, v5, v6, v7, rfl, _⟩ := h; rfl
  · obtain ⟨a, n, v2, v3, v4, v5, v6, v7, rfl, h, k⟩ := h
    refine ⟨_, ((pss_one (ps_ret (pe_cmpR op_ge (pe_f (pv 0) rfl) (pe_const T.k.c_YELLOW rfl) (nomark _))))), ?_⟩
    exact ⟨_, rfl, _, h.named T, _, _, rfl, rfl, k⟩
theorem ok_Stroke_reds_gone (T : Txt K mg A) : FnOk P w K mg base CX0 1 A.Stroke.reds_gone.f A.Stroke.reds_gone.fd ["self"] (sp_Stroke_reds_gone A) := by
  refine T.Stroke.F_reds_gone.ok sc_Stroke_reds_gone (fun vs H Q E h => ?_) (fun cdv Ar outer s H vs Q E hr h => ?_)
  · obtain ⟨a, pa, oa, k, rfl, _⟩ := h; rfl
  · obtain ⟨a, pa, oa, k, rfl, h, q⟩ := h
    refine ⟨_, ((pss_one (ps_ret (pe_op op_add (pe_bm PySem.F.plainAttrs_list PySem.F.slot_list_count PySem.F.type_list_count mt_countL (pe_f (pv 0) rfl) (pa_cons (pe_const T.k.c_RED rfl) pa_nil)) (pe_bm PySem.F.plainAttrs_list PySem.F.slot_list_count PySem.F.type_list_count mt_countL (pe_f (pv 0) rfl) (pa_cons (pe_const T.k.c_RED rfl) pa_nil)))))), ?_⟩
    refine ⟨_, rfl, _, h.obj.potted T, .inl ⟨rfl, _, SqL.of h.pot⟩, pa, _, 1, rfl, rfl, SqL.of h.pot, _, rfl, _, h.obj.off T, .inl ⟨rfl, _, SqL.of h.off⟩, oa, _, 1, rfl, rfl, SqL.of h.off, _, _, rfl, rfl, ?_⟩
    have e1 := ints_count k.potted 1
    have e2 := ints_count k.off 1
    have e : ((((nints k.potted).count 1 : Nat) : Int) + (((nints k.off).count 1 : Nat) : Int)) = ((rgone k : Nat) : Int) := by
      unfold rgone
      rw [show ((1 : Nat) : Int) = 1 from rfl] at e1 e2
      rw [e1, e2]
      omega
    show Q (.int ((((nints k.potted).count 1 : Nat) : Int) + (((nints k.off).count 1 : Nat) : Int))) H
    rw [e]
    exact q
theorem ok_is_within (T : Txt K mg A) : FnOk P w K mg base CX0 1 A.fs.is_within.f A.fs.is_within.fd ["number", "highest"] sp_is_within := by
  refine T.fs.F_is_within.ok sc_is_within (fun vs H Q E h => ?_) (fun cdv Ar outer s H vs Q E hr h => ?_)
  · obtain ⟨x, y, rfl, _⟩ := h; rfl
  · obtain ⟨x, y, rfl, k⟩ := h
    refine ⟨_, ((pss_one (ps_ret (pe_chain op_le op_le pe_int (pv 0) (pv 1))))), ?_⟩
    refine ⟨_, rfl, _, _, rfl, rfl, _, rfl, ?_⟩
    unfold wi at k
    cases e : decide (0 ≤ x) with
    | false => rw [e] at k; exact k
    | true => rw [e] at k; exact ⟨_, rfl, _, _, rfl, rfl, k⟩
end
end Cue
end
section
set_option Elab.async false
set_option linter.all false
set_option maxRecDepth 100000
set_option autoImplicit false
set_option maxHeartbeats 4000000
namespace Cue
open PySem PySem.Spec PyProof.Rows L2
section
variable {P : Program} {w : World} {K : PySem.W.Frag} {mg : Str → Option Value} {base : Heap} {A : Adr}
theorem ok_Table_init (T : Txt K mg A) : FnOk P w K mg base CX0 1 A.Table.init.f A.Table.init.fd ["self", "reds", "lowest", "on"] (sp_Table_init A) := by
  refine T.Table.F_init.ok sc_Table_init (fun vs H Q E h => ?_) (fun cdv Ar outer s H vs Q E hr h => ?_)
  · obtain ⟨p, dx, r, l, o, rfl, _⟩ := h; rfl
  · obtain ⟨p, dx, r, l, o, rfl, hp, k⟩ := h
    refine ⟨_, ((pss_cons (ps_fs (pv 0) (pv 1) rfl)
      (pss_cons (ps_fs (pv 0) (pv 2) rfl)
      (pss_one (ps_fs (pv 0) (pv 3) rfl))))), ?_⟩
    refine ⟨_, rfl, _, rfl, p, _, dx, _, rfl, hp, ⟨T.Table.cl, T.Table.na_reds, (by decide)⟩, ?_⟩
    refine ⟨_, rfl, _, rfl, p, _, dx, _, rfl, upd_same, ⟨T.Table.cl, T.Table.na_lowest, Table_l1 _⟩, ?_⟩
    rw [upd_upd]
    refine ⟨_, rfl, _, rfl, p, _, dx, _, rfl, upd_same, ⟨T.Table.cl, T.Table.na_on, Table_l2 _ _⟩, ?_⟩
    rw [upd_upd, Table_mk]
    exact k
theorem ok_Table_how_many (T : Txt K mg A) : FnOk P w K mg base CX0 1 A.Table.how_many.f A.Table.how_many.fd ["self", "ball"] (sp_Table_how_many A) := by
  refine T.Table.F_how_many.ok sc_Table_how_many (fun vs H Q E h => ?_) (fun cdv Ar outer s H vs Q E hr h => ?_)
  · obtain ⟨a, t, b, rfl, _⟩ := h; rfl
  · obtain ⟨a, t, b, rfl, h, k⟩ := h
    refine ⟨_, ((pss_cons (ps_if (pt_cmpR op_eq (pv 1) (pe_const T.k.c_WHITE rfl) (nomark _)) (pss_one (ps_ret pe_int)) pss_nil)
      (pss_cons (ps_if (pt_cmpR op_eq (pv 1) (pe_const T.k.c_RED rfl) (nomark _)) (pss_one (ps_ret (pe_f (pv 0) rfl))) pss_nil)
      (pss_one (ps_ret (pe_ifExp (pt_cmpR op_ge (pv 1) (pe_f (pv 0) rfl) (nomark _)) pe_int pe_int)))))), ?_⟩
    refine ⟨_, rfl, rfl, _, rfl, ?_⟩
    rw [dI]
    unfold hm at k
    by_cases h0 : b = 0
    · subst h0
      exact iteT k
    · rw [if_neg h0] at k
      rw [decide_eq_false (show ¬ (b : Int) = 0 by omega)]
      refine iteF ?_
      refine ⟨_, rfl, rfl, _, rfl, ?_⟩
      rw [dI]
      by_cases h1 : b = 1
      · subst h1
        exact iteT ⟨_, rfl, _, h.reds T, k⟩
      · rw [if_neg h1] at k
        rw [decide_eq_false (show ¬ (b : Int) = 1 by omega)]
        refine iteF ?_
        refine ⟨_, rfl, _, rfl, _, h.lowest T, _, _, rfl, rfl, _, rfl, ?_⟩
        by_cases h2 : tL t ≤ b
        · rw [if_pos h2] at k
          rw [decide_eq_true (show ((tL t : Nat) : Int) ≤ (b : Int) by omega)]
          exact iteT k
        · rw [if_neg h2] at k
          rw [decide_eq_false (show ¬ ((tL t : Nat) : Int) ≤ (b : Int) by omega)]
          exact iteF k
theorem ok_Table_has_more_than_black (T : Txt K mg A) : FnOk P w K mg base CX0 1 A.Table.has_more_than_black.f A.Table.has_more_than_black.fd ["self"] (sp_Table_more A) := by
  refine T.Table.F_has_more_than_black.ok sc_Table_has_more_than_black (fun vs H Q E h => ?_) (fun cdv Ar outer s H vs Q E hr h => ?_)
  · obtain ⟨a, t, rfl, _⟩ := h; rfl
  · obtain ⟨a, t, rfl, h, k⟩ := h
    refine ⟨_, ((pss_one (ps_ret (pe_cmpR op_lt (pe_f (pv 0) rfl) (pe_const T.k.c_BLACK rfl) (nomark _))))), ?_⟩
    refine ⟨_, rfl, _, h.lowest T, _, _, rfl, rfl, ?_⟩
    have e : decide (((tL t : Nat) : Int) < 7) = decide (tL t < 7) := by
      by_cases q : tL t < 7
      · rw [decide_eq_true q, decide_eq_true (by omega)]
      · rw [decide_eq_false q, decide_eq_false (by omega)]
    show Q (.bl (decide (((tL t : Nat) : Int) < 7))) H
    rw [e]
    exact k
theorem ok_Table_left (T : Txt K mg A) : FnOk P w K mg base CX0 1 A.Table.left.f A.Table.left.fd ["self"] (sp_Table_left A) := by
  refine T.Table.F_left.ok sc_Table_left (fun vs H Q E h => ?_) (fun cdv Ar outer s H vs Q E hr h => ?_)
  · obtain ⟨a, t, rfl, _⟩ := h; rfl
  · obtain ⟨a, t, rfl, h, ok, k⟩ := h
    refine ⟨_, ((pss_cons (ps_set (i := 1) sc_Table_left.nd rfl (by first | exact Or.inl rfl | exact Or.inr rfl) (pe_op op_add (pe_op op_mul (pe_const T.k.c_RED_AND_BLACK_WORTH rfl) (pe_f (pv 0) rfl)) (pe_const T.k.c_ALL_COLOURS_WORTH rfl)))
      (pss_cons (ps_if (pt_cmpR op_eq (pe_f (pv 0) rfl) (pe_const T.k.c_RED rfl) (nomark _)) (pss_one (ps_ret (pv 1))) pss_nil)
      (pss_cons (ps_if (pt_cmpR op_eq (pe_f (pv 0) rfl) (pe_const T.k.c_ANY_COLOUR rfl) (nomark _)) (pss_one (ps_ret (pe_op op_add (pv 1) (pe_const T.k.c_BLACK rfl)))) pss_nil)
      (pss_one (ps_ret (pe_callB (cr_sumR rfl) rfl T.k.b_sum boot_sum (pa_cons (pe_callTy call_rng2 rfl T.k.b_range boot_range (pa_cons (pe_f (pv 0) rfl) (pa_cons (pe_op op_add (pe_const T.k.c_BLACK rfl) pe_int) pa_nil))) pa_nil)))))))), ?_⟩
    refine ⟨_, rfl, _, h.reds T, _, _, rfl, rfl, .inl ⟨by decide, by decide⟩, _, _, rfl, rfl, ?_⟩
    refine ⟨_, rfl, _, h.on T, rfl, _, rfl, ?_⟩
    rw [dI]
    by_cases h1 : tO t = 1
    · rw [decide_eq_true (show ((tO t : Nat) : Int) = 1 by omega)]
      refine iteT ⟨_, rfl, ?_⟩
      have e : (8 * ((t.reds : Nat) : Int) + 27) = ((t.left : Nat) : Int) := by rw [left_red ok h1]; omega
      show Q (.int (8 * ((t.reds : Nat) : Int) + 27)) H
      rw [e]
      exact k H (Same.refl H)
    · rw [decide_eq_false (show ¬ ((tO t : Nat) : Int) = 1 by omega)]
      refine iteF ?_
      refine ⟨_, rfl, _, h.on T, rfl, _, rfl, ?_⟩
      rw [dI]
      by_cases h0 : tO t = 0
      · rw [decide_eq_true (show ((tO t : Nat) : Int) = 0 by omega)]
        refine iteT ⟨_, rfl, _, _, rfl, rfl, ?_⟩
        have e : (8 * ((t.reds : Nat) : Int) + 27 + 7) = ((t.left : Nat) : Int) := by rw [left_colour ok h0]; omega
        show Q (.int (8 * ((t.reds : Nat) : Int) + 27 + 7)) H
        rw [e]
        exact k H (Same.refl H)
      · rw [decide_eq_false (show ¬ ((tO t : Nat) : Int) = 0 by omega)]
        refine iteF ?_
        have hl := ok.low
        refine ⟨_, rfl, _, h.lowest T, _, _, rfl, rfl, _, _, rfl, fun p hp => ?_⟩
        refine ⟨p, _, _, rfl, upd_same, ⟨by omega, by omega, by omega, by omega⟩, ?_⟩
        have e := left_order ok h1 h0
        have e2 : ((7 : Int) + 1 - ((tL t : Nat) : Int)).toNat = 8 - tL t := by omega
        show Q (.int ((List.range ((7 : Int) + 1 - ((tL t : Nat) : Int)).toNat).map fun (i : Nat) => ((tL t : Nat) : Int) + (i : Int)).sum) _
        rw [e2, ← e]
        exact k _ (same_upd_new hp)
theorem ok_table_in_round (T : Txt K mg A) : FnOk P w K mg base CX0 3 A.fs.table_in_round.f A.fs.table_in_round.fd ["reds", "lowest"] (sp_table_in_round A) := by
  refine T.fs.F_table_in_round.ok sc_table_in_round (fun vs H Q E h => ?_) (fun cdv Ar outer s H vs Q E hr h => ?_)
  · obtain ⟨r, l, rfl, _⟩ := h; rfl
  · obtain ⟨r, l, rfl, h1, h2, k⟩ := h
    refine ⟨_, ((pss_one (ps_ret (pe_make T.Table.mak (ok_Table_init T) (hr.mono (by decide)) rfl T.Table.m T.Table.b_init .nil pass0 (pa_cons (pv 0) (pa_cons (pv 1) (pa_cons (pe_ifExp (pt_cmpR op_gt (pv 0) pe_int (nomark _)) (pe_const T.k.c_RED rfl) (pv 1)) pa_nil))))))), ?_⟩
    refine ⟨_, rfl, _, rfl, _, rfl, _, _, rfl, rfl, _, rfl, ?_⟩
    have fin : ∀ o : Int, o = ((tO (rnd r l) : Nat) : Int) → ∀ x dx, H x = none → H dx = none → dx ≠ x → sp_Table_init A (.ref x :: ([.int r, .int l, .int o] ++ [])) (upd (upd H dx (.own x)) x (.ins A.Table.c dx [])) (fun v H2 => v = .non ∧ Q (.ref x) H2) E0 := by
      intro o e x dx nx nd ne
      refine ⟨x, dx, _, _, _, rfl, upd_same, rfl, ?_⟩
      rw [upd_upd]
      refine k _ x (mkO_same nx nd) nx ⟨dx, ?_⟩
      rw [upd_same, tL_rnd h1 h2, ← e]
      rfl
    have eO := tO_rnd (r := r) h1 h2
    by_cases q : 0 < r
    · rw [decide_eq_true (show (0 : Int) < (r : Int) by omega)]
      rw [if_pos q] at eO
      exact iteT (fin 1 (by rw [eO]; rfl))
    · rw [decide_eq_false (show ¬ (0 : Int) < (r : Int) by omega)]
      rw [if_neg q] at eO
      exact iteF ⟨_, rfl, fin l (by rw [eO])⟩
theorem ok_full_table (T : Txt K mg A) : FnOk P w K mg base CX0 4 A.fs.full_table.f A.fs.full_table.fd [] (sp_full_table A) := by
  refine T.fs.F_full_table.ok sc_full_table (fun vs H Q E h => ?_) (fun cdv Ar outer s H vs Q E hr h => ?_)
  · obtain ⟨rfl, _⟩ := h; rfl
  · obtain ⟨rfl, k⟩ := h
    refine ⟨_, ((pss_one (ps_ret (pe_call (ok_table_in_round T) (hr.mono (by decide)) rfl T.fs.m_table_in_round T.fs.F_table_in_round.kp T.fs.b_table_in_round .nil pass0 (pa_cons (pe_const T.k.c_ALL_REDS rfl) (pa_cons (pe_const T.k.c_YELLOW rfl) pa_nil)))))), ?_⟩
    exact ⟨15, 2, rfl, by decide, by decide, k⟩
theorem ok_black_alone (T : Txt K mg A) : FnOk P w K mg base CX0 4 A.fs.black_alone.f A.fs.black_alone.fd [] (sp_black_alone A) := by
  refine T.fs.F_black_alone.ok sc_black_alone (fun vs H Q E h => ?_) (fun cdv Ar outer s H vs Q E hr h => ?_)
  · obtain ⟨rfl, _⟩ := h; rfl
  · obtain ⟨rfl, k⟩ := h
    refine ⟨_, ((pss_one (ps_ret (pe_call (ok_table_in_round T) (hr.mono (by decide)) rfl T.fs.m_table_in_round T.fs.F_table_in_round.kp T.fs.b_table_in_round .nil pass0 (pa_cons pe_int (pa_cons (pe_const T.k.c_BLACK rfl) pa_nil)))))), ?_⟩
    exact ⟨0, 7, rfl, by decide, by decide, k⟩
end
end Cue
end
section
set_option Elab.async false
set_option linter.all false
set_option maxRecDepth 100000
set_option autoImplicit false
set_option maxHeartbeats 4000000
namespace Cue
open PySem PySem.Spec PyProof.Rows L2
section
variable {P : Program} {w : World} {K : PySem.W.Frag} {mg : Str → Option Value} {base : Heap} {A : Adr}
/-! ### tests whose value is known -/
theorem tAndP {t u : TT} {σ : L2.St} {H : Hp} {Q : Bool → Hp → Prop} (b1 b2 : Bool) (h1 : ∀ Q : Bool → Hp → Prop, Q b1 H → t σ H Q) (h2 : b1 = true → ∀ Q : Bool → Hp → Prop, Q b2 H → u σ H Q) (q : Q (b1 && b2) H) : tAnd t u σ H Q := by
  refine h1 _ ?_
  cases b1 with
  | true => exact iteT (h2 rfl _ q)
  | false => exact iteF q
theorem tOrP {t u : TT} {σ : L2.St} {H : Hp} {Q : Bool → Hp → Prop} (b1 b2 : Bool) (h1 : ∀ Q : Bool → Hp → Prop, Q b1 H → t σ H Q) (h2 : b1 = false → ∀ Q : Bool → Hp → Prop, Q b2 H → u σ H Q) (q : Q (b1 || b2) H) : tOr t u σ H Q := by
  refine h1 _ ?_
  cases b1 with
  | true => exact iteT q
  | false => exact iteF (h2 rfl _ q)
theorem tAndS {t u : TT} {σ : L2.St} {H : Hp} {Q : Bool → Hp → Prop} (b1 b2 : Bool) (h1 : ∀ Q : Bool → Hp → Prop, Q b1 H → t σ H Q) (h2 : b1 = true → ∀ Q : Bool → Hp → Prop, (∀ H', Same H H' → Q b2 H') → u σ H Q) (q : ∀ H', Same H H' → Q (b1 && b2) H') : tAnd t u σ H Q := by
  refine h1 _ ?_
  cases b1 with
  | true => exact iteT (h2 rfl _ q)
  | false => exact iteF (q H (Same.refl H))
theorem tOrS {t u : TT} {σ : L2.St} {H : Hp} {Q : Bool → Hp → Prop} (b1 b2 : Bool) (h1 : ∀ Q : Bool → Hp → Prop, Q b1 H → t σ H Q) (h2 : b1 = false → ∀ Q : Bool → Hp → Prop, (∀ H', Same H H' → Q b2 H') → u σ H Q) (q : ∀ H', Same H H' → Q (b1 || b2) H') : tOr t u σ H Q := by
  refine h1 _ ?_
  cases b1 with
  | true => exact iteT (q H (Same.refl H))
  | false => exact iteF (h2 rfl _ q)
/-! the same at the head of a block -/
section
variable {t u : TT} {a b rest : TS} {ta tb : TE} {tr : TA} {D : Ends} {σ : L2.St} {H : Hp}
theorem sIfA (b1 b2 : Bool) (h1 : ∀ Q : Bool → Hp → Prop, Q b1 H → t σ H Q) (h2 : b1 = true → ∀ Q : Bool → Hp → Prop, Q b2 H → u σ H Q) (q : if (b1 && b2) = true then a { D with nx := rest D } σ H else b { D with nx := rest D } σ H) : tSeq (tIfS (tAnd t u) a b) rest D σ H := tAndP b1 b2 h1 h2 q
theorem sIfO (b1 b2 : Bool) (h1 : ∀ Q : Bool → Hp → Prop, Q b1 H → t σ H Q) (h2 : b1 = false → ∀ Q : Bool → Hp → Prop, Q b2 H → u σ H Q) (q : if (b1 || b2) = true then a { D with nx := rest D } σ H else b { D with nx := rest D } σ H) : tSeq (tIfS (tOr t u) a b) rest D σ H := tOrP b1 b2 h1 h2 q
theorem sIfAS (b1 b2 : Bool) (h1 : ∀ Q : Bool → Hp → Prop, Q b1 H → t σ H Q) (h2 : b1 = true → ∀ Q : Bool → Hp → Prop, (∀ H', Same H H' → Q b2 H') → u σ H Q) (q : ∀ H', Same H H' → if (b1 && b2) = true then a { D with nx := rest D } σ H' else b { D with nx := rest D } σ H') : tSeq (tIfS (tAnd t u) a b) rest D σ H := tAndS b1 b2 h1 h2 q
theorem sIfOS (b1 b2 : Bool) (h1 : ∀ Q : Bool → Hp → Prop, Q b1 H → t σ H Q) (h2 : b1 = false → ∀ Q : Bool → Hp → Prop, (∀ H', Same H H' → Q b2 H') → u σ H Q) (q : ∀ H', Same H H' → if (b1 || b2) = true then a { D with nx := rest D } σ H' else b { D with nx := rest D } σ H') : tSeq (tIfS (tOr t u) a b) rest D σ H := tOrS b1 b2 h1 h2 q
theorem tAndVP {Q : VK} (b1 b2 : Bool) (h1 : ∀ Q : VK, Q (.bl b1) H → ta σ H Q) (h2 : b1 = true → ∀ Q : VK, Q (.bl b2) H → tb σ H Q) (q : Q (.bl (b1 && b2)) H) : tAndV ta tb σ H Q := by
  refine h1 _ ⟨b1, rfl, ?_⟩
  cases b1 with
  | true => exact iteT (h2 rfl _ q)
  | false => exact iteF q
theorem tAndVS {Q : VK} (b1 b2 : Bool) (h1 : ∀ Q : VK, Q (.bl b1) H → ta σ H Q) (h2 : b1 = true → ∀ Q : VK, (∀ H', Same H H' → Q (.bl b2) H') → tb σ H Q) (q : ∀ H', Same H H' → Q (.bl (b1 && b2)) H') : tAndV ta tb σ H Q := by
  refine h1 _ ⟨b1, rfl, ?_⟩
  cases b1 with
  | true => exact iteT (h2 rfl _ q)
  | false => exact iteF (q H (Same.refl H))
theorem rAndVS (b1 b2 : Bool) (h1 : ∀ Q : VK, Q (.bl b1) H → ta σ H Q) (h2 : b1 = true → ∀ Q : VK, (∀ H', Same H H' → Q (.bl b2) H') → tb σ H Q) (q : ∀ H', Same H H' → D.rt (.bl (b1 && b2)) H') : tRet (tAndV ta tb) D σ H := tAndVS b1 b2 h1 h2 q
theorem gAndVS {i : Nat} (b1 b2 : Bool) (h1 : ∀ Q : VK, Q (.bl b1) H → ta σ H Q) (h2 : b1 = true → ∀ Q : VK, (∀ H', Same H H' → Q (.bl b2) H') → tb σ H Q) (q : ∀ H', Same H H' → D.nx (σ.set i (some (.bl (b1 && b2)))) H') : tAsg (tAndV ta tb) (gName i) D σ H := tAndVS b1 b2 h1 h2 q
theorem cAndVP {Q : List V → Hp → Prop} (b1 b2 : Bool) (h1 : ∀ Q : VK, Q (.bl b1) H → ta σ H Q) (h2 : b1 = true → ∀ Q : VK, Q (.bl b2) H → tb σ H Q) (q : tr σ H fun xs H2 => Q (.bl (b1 && b2) :: xs) H2) : tCons (tAndV ta tb) tr σ H Q := tAndVP b1 b2 h1 h2 q
/-- a statement, then the rest: what holds between the two -/
theorem seq_of (M : L2.St → Hp → Prop) {v : TS} (hu : ∀ σ' H', M σ' H' → rest D σ' H') (ht : ∀ N : L2.St → Hp → Prop, (∀ σ' H', M σ' H' → N σ' H') → v { D with nx := N } σ H) : tSeq v rest D σ H := ht (rest D) hu
end
theorem all_id {α : Type} (l : List α) (f : α → Bool) : (l.map f).all id = l.all f := by
  rw [List.all_map]; rfl
theorem any_id {α : Type} (l : List α) (f : α → Bool) : (l.map f).any id = l.any f := by
  rw [List.any_map]; rfl
theorem map_get {l : List Int} {i : Nat} {x : V} (h : (l.map V.int)[i]? = some x) : ∃ z, l[i]? = some z ∧ x = .int z := by
  rw [List.getElem?_map] at h
  cases e : l[i]? with
  | none => rw [e] at h; cases h
  | some z => rw [e] at h; exact ⟨z, rfl, (Option.some.inj h).symm⟩
/-- a new list filled with the values of a function of the items taken -/
theorem fill_step {l : List Int} {i : Nat} {z : Int} {f : Int → Bool} (h : l[i]? = some z) : (((l.take i).map fun y => V.bl (f y)) ++ [V.bl (f z)]) = (l.take (i + 1)).map fun y => V.bl (f y) := by
  rw [take_snoc h, List.map_append]; rfl
theorem fill_len {l : List Int} {i : Nat} {f : Int → V} (h : l.length ≤ 1000) : ((l.take i).map f).length < sizeLine := by
  rw [List.length_map, List.length_take]
  exact small1000 (by omega)
theorem ok_has_known_numbers (T : Txt K mg A) : FnOk P w K mg base CX0 2 A.fs.has_known_numbers.f A.fs.has_known_numbers.fd ["told"] (sp_has_known_numbers A) := by
  refine T.fs.F_has_known_numbers.ok sc_has_known_numbers (fun vs H Q E h => ?_) (fun cdv Ar outer s H vs Q E hr h => ?_)
  · obtain ⟨a, pa, oa, n, hh, c, d, m, p, o, rfl, _⟩ := h; rfl
  · obtain ⟨a, pa, oa, n, hh, c, d, m, p, o, rfl, h, hp, ho, hl, k⟩ := h
    refine ⟨_, ((pss_cons (ps_if (PW.pt (pw_or (pt_not (pt_val (pe_call (ok_is_within T) (hr.mono (by decide)) rfl T.fs.m_is_within T.fs.F_is_within.kp T.fs.b_is_within .nil pass0 (pa_cons (pe_f (pv 0) rfl) (pa_cons (pe_const T.k.c_BLACK rfl) pa_nil))))) (pw_or1 (pt_not (pt_val (pe_call (ok_is_within T) (hr.mono (by decide)) rfl T.fs.m_is_within T.fs.F_is_within.kp T.fs.b_is_within .nil pass0 (pa_cons (pe_f (pv 0) rfl) (pa_cons (pe_const T.k.c_BLACK rfl) pa_nil)))))))) (pss_one (ps_ret pe_bl)) pss_nil)
      (pss_cons (ps_if (PW.pt (pw_or (pt_not (pt_val (pe_call (ok_is_within T) (hr.mono (by decide)) rfl T.fs.m_is_within T.fs.F_is_within.kp T.fs.b_is_within .nil pass0 (pa_cons (pe_f (pv 0) rfl) (pa_cons (pe_const T.k.c_ABOUT_NO_BALL rfl) pa_nil))))) (pw_or1 (pt_not (pt_val (pe_call (ok_is_within T) (hr.mono (by decide)) rfl T.fs.m_is_within T.fs.F_is_within.kp T.fs.b_is_within .nil pass0 (pa_cons (pe_f (pv 0) rfl) (pa_cons pe_int pa_nil)))))))) (pss_one (ps_ret pe_bl)) pss_nil)
      (pss_cons (ps_if (pt_not (pt_val (pe_call (ok_is_within T) (hr.mono (by decide)) rfl T.fs.m_is_within T.fs.F_is_within.kp T.fs.b_is_within .nil pass0 (pa_cons (pe_f (pv 0) rfl) (pa_cons (pe_const T.k.c_MISS_IN_SIGHT rfl) pa_nil))))) (pss_one (ps_ret pe_bl)) pss_nil)
      (pss_one (ps_ret (pe_callB (cr_all rfl) rfl T.k.b_all boot_all (pa_cons (pe_lc (own := [("ball", 1)]) rfl sc_has_known_numbers.nd (pi_list (pe_op op_cat (pe_f (pv 0) rfl) (pe_f (pv 0) rfl))) (blkOk_by (by kernel_rfl)) (fun _ _ _ _ _ => pg_name (i := 1) sc_has_known_numbers.nd rfl (Or.inl rfl)) (fun _ _ _ _ _ => pts_nil) (fun _ _ _ _ _ => (pe_call (ok_is_within T) (hr.mono (by decide)) rfl T.fs.m_is_within T.fs.F_is_within.kp T.fs.b_is_within .nil pass0 (pa_cons (pv 1) (pa_cons (pe_const T.k.c_BLACK rfl) pa_nil))))) pa_nil)))))))), ?_⟩
    have no : known n hh c d m p o = false → Q (.bl false) H := fun e => by have q := k H (Same.refl H); rw [e] at q; exact q
    refine ⟨_, rfl, _, h.named T, n, 7, rfl, _, rfl, ?_⟩
    cases e1 : wi n 7 with
    | false => exact no (by unfold known; rw [e1]; rfl)
    | true =>
    refine ⟨_, rfl, _, h.hit T, hh, 7, rfl, _, rfl, ?_⟩
    cases e2 : wi hh 7 with
    | false => exact no (by unfold known; rw [e1, e2]; rfl)
    | true =>
    refine ⟨_, rfl, _, h.conduct T, c, 8, rfl, _, rfl, ?_⟩
    cases e3 : wi c 8 with
    | false => exact no (by unfold known; rw [e1, e2, e3]; rfl)
    | true =>
    refine ⟨_, rfl, _, h.hidden T, d, 1, rfl, _, rfl, ?_⟩
    cases e4 : wi d 1 with
    | false => exact no (by unfold known; rw [e1, e2, e3, e4]; rfl)
    | true =>
    refine ⟨_, rfl, _, h.miss T, m, 2, rfl, _, rfl, ?_⟩
    cases e5 : wi m 2 with
    | false => exact no (by unfold known; rw [e1, e2, e3, e4, e5]; rfl)
    | true =>
    have ek : known n hh c d m p o = (p ++ o).all fun z => wi z 7 := by unfold known; rw [e1, e2, e3, e4, e5]; rfl
    rw [ek] at k
    have hlen : (p ++ o).length ≤ 1000 := by rw [List.length_append]; exact hl
    have hcat : p.map V.int ++ o.map V.int = (p ++ o).map V.int := (List.map_append ..).symm
    refine ⟨_, rfl, _, h.potted T, _, rfl, _, h.off T, pa, oa, _, _, rfl, rfl, hp, ho, (by rw [List.length_map, List.length_map]; exact sz60 hl), fun q hq => ?_⟩
    rw [hcat]
    refine ⟨q, rfl, ⟨_, SqL.of upd_same⟩, fun D hD => ?_⟩
    refine lc_list (K := K) (a := q) (xs := (p ++ o).map V.int) (fun i H' => H' q = some (.lst ((p ++ o).map V.int)) ∧ H' D = some (.lst (((p ++ o).take i).map fun y => V.bl (wi y 7))) ∧ Same H H')
      ?_ (fun i H' _ x => SqL.of x.1) ?_ ?_
    · have nqD : q ≠ D := ne_of_none (o := .lst ((p ++ o).map V.int)) upd_same hD
      exact ⟨by rw [upd_ne nqD, upd_same], by rw [upd_same]; rfl, (same_upd_new hq).trans (same_upd_new hD)⟩
    · rintro i x H' hi ⟨h1, h2, h3⟩
      obtain ⟨z, hz, rfl⟩ := map_get hi
      refine ⟨rfl, ?_⟩
      refine ⟨_, rfl, z, 7, rfl, _, h2, fill_len hlen, ?_⟩
      have nqD : q ≠ D := fun e => by subst e; rw [upd_same] at hD; cases hD
      have nD : H D = none := (same_upd_new hq).free hD
      exact ⟨by rw [upd_ne nqD]; exact h1, by rw [upd_same, fill_step hz], fun b u e => by rw [upd_ne (ne_of_none e nD)]; exact h3 b u e⟩
    · rintro H' ⟨h1, h2, h3⟩
      rw [List.length_map, List.take_length] at h2
      refine ⟨D, (p ++ o).map fun y => wi y 7, rfl, SqL.of (by rw [h2, List.map_map]; rfl), ?_⟩
      rw [all_id]
      exact k H' h3
theorem ok_can_have_been (T : Txt K mg A) : FnOk P w K mg base CX0 2 A.fs.can_have_been.f A.fs.can_have_been.fd ["told", "table"] (sp_can_have_been A) := by
  refine T.fs.F_can_have_been.ok sc_can_have_been (fun vs H Q E h => ?_) (fun cdv Ar outer s H vs Q E hr h => ?_)
  · obtain ⟨a, pa, oa, ta, k, t, rfl, _⟩ := h; rfl
  · obtain ⟨a, pa, oa, ta, k, t, rfl, h, ht, q⟩ := h
    refine ⟨_, ((pss_cons (ps_set (i := 2) sc_can_have_been.nd rfl (by first | exact Or.inl rfl | exact Or.inr rfl) (pe_op op_cat (pe_f (pv 0) rfl) (pe_f (pv 0) rfl)))
      (pss_cons (ps_if (PW.pt (pw_and (pt_val (pe_m0c (pv 0) T.Stroke.cl T.Stroke.t_names_colour (ok_Stroke_names_colour T) (hr.mono (by decide)) T.Stroke.b_names_colour .nil pass0)) (pw_and1 (pt_cmpR op_eq (pe_mc (pv 1) T.Table.cl T.Table.t_how_many (ok_Table_how_many T) (hr.mono (by decide)) T.Table.b_how_many .nil pass0 (pa_cons (pe_f (pv 0) rfl) pa_nil)) pe_int (nomark _))))) (pss_one (ps_ret pe_bl)) pss_nil)
      (pss_cons (ps_if (PW.pt (pw_and (pt_cmpR op_ne (pe_f (pv 0) rfl) (pe_const T.k.c_NOTHING rfl) (nomark _)) (pw_and1 (pt_cmpR op_eq (pe_mc (pv 1) T.Table.cl T.Table.t_how_many (ok_Table_how_many T) (hr.mono (by decide)) T.Table.b_how_many .nil pass0 (pa_cons (pe_f (pv 0) rfl) pa_nil)) pe_int (nomark _))))) (pss_one (ps_ret pe_bl)) pss_nil)
      (pss_cons (ps_if (PW.pt (pw_and (pt_cmpR op_eq (pe_f (pv 0) rfl) (pe_const T.k.c_NOTHING rfl) (nomark _)) (pw_and1 (pt_val (pe_callB (cr_any rfl) rfl T.k.b_any boot_any (pa_cons (pe_lc (own := [("ball", 3)]) rfl sc_can_have_been.nd (pi_list (pv 2)) (blkOk_by (by kernel_rfl)) (fun _ _ _ _ _ => pg_name (i := 3) sc_can_have_been.nd rfl (Or.inl rfl)) (fun _ _ _ _ _ => pts_nil) (fun _ _ _ _ _ => (pe_cmpR op_ne (pv 3) (pe_const T.k.c_WHITE rfl) (nomark _)))) pa_nil)))))) (pss_one (ps_ret pe_bl)) pss_nil)
      (pss_one (ps_ret (pe_callB (cr_all rfl) rfl T.k.b_all boot_all (pa_cons (pe_lc (own := [("ball", 3)]) rfl sc_can_have_been.nd (pi_list (pv 2)) (blkOk_by (by kernel_rfl)) (fun _ _ _ _ _ => pg_name (i := 3) sc_can_have_been.nd rfl (Or.inl rfl)) (fun _ _ _ _ _ => pts_nil) (fun _ _ _ _ _ => (pe_cmpR op_le (pe_bmK (K := K) rfl PySem.F.plainAttrs_list PySem.F.slot_list_count PySem.F.type_list_count (mt_countLK (K := K) rfl) (pv 2) (pa_cons (pv 3) pa_nil)) (pe_mc (pv 1) T.Table.cl T.Table.t_how_many (ok_Table_how_many T) (hr.mono (by decide)) T.Table.b_how_many .nil pass0 (pa_cons (pv 3) pa_nil)) (nomark _)))) pa_nil))))))))), ?_⟩
    have hlp := h.lp
    have hlo := h.lo
    have hcat : (nints k.potted).map V.int ++ (nints k.off).map V.int = (nints (gone k)).map V.int := by rw [← List.map_append, ints_app]; rfl
    have hglen : (gone k).length ≤ 60 := by unfold gone; rw [List.length_append]; omega
    refine ⟨_, rfl, _, h.obj.potted T, _, rfl, _, h.obj.off T, pa, oa, _, _, rfl, rfl, h.pot, h.off, (by rw [List.length_map, List.length_map, ints_len, ints_len]; exact sz60 (by omega)), fun g hg => ?_⟩
    rw [hcat]
    generalize hH1 : upd H g (.lst ((nints (gone k)).map V.int)) = H1
    have s1 : Same H H1 := by rw [← hH1]; exact same_upd_new hg
    have hgl : H1 g = some (.lst ((nints (gone k)).map V.int)) := by rw [← hH1, upd_same]
    have h' := h.mono s1
    have ht' := ht.mono s1
    have no : chb t k = false → Q (.bl false) H1 := fun e => by have z := q H1 s1; rw [e] at z; exact z
    have cnm : decide ((2 : Int) ≤ ((k.named : Nat) : Int)) = decide (2 ≤ k.named) := by
      by_cases z : 2 ≤ k.named
      · rw [decide_eq_true z, decide_eq_true (by omega)]
      · rw [decide_eq_false z, decide_eq_false (by omega)]
    have c0 : ∀ x : Nat, decide (((x : Nat) : Int) = 0) = decide (x = 0) := fun x => by
      by_cases z : x = 0
      · rw [decide_eq_true z, decide_eq_true (by omega)]
      · rw [decide_eq_false z, decide_eq_false (by omega)]
    -- a name that isn't there
    dsimp only [gName, tNext]
    refine sIfA (decide (2 ≤ k.named)) (decide (hm t k.named = 0)) (fun Q z => ⟨_, rfl, h'.obj.o_names_colour, a, _, _, _, _, _, _, _, rfl, h'.obj, _, rfl, by rw [cnm]; exact z⟩)
      (fun _ Q z => ⟨_, rfl, ht'.o_how_many, _, rfl, _, h'.obj.named T, ta, t, k.named, rfl, ht', rfl, _, rfl, by rw [dI, c0]; exact z⟩) ?_
    cases e1 : (decide (2 ≤ k.named) && decide (hm t k.named = 0)) with
    | true => exact iteT (no (by unfold chb; rw [e1]; rfl))
    | false =>
    -- a hit ball that isn't there
    refine iteF ?_
    dsimp only [gName, tNext]
    refine sIfA (decide (k.hit ≠ 0)) (decide (hm t k.hit = 0)) (fun Q z => ⟨_, rfl, _, h'.obj.hit T, rfl, _, rfl, by rw [dI, c0]; simpa using z⟩)
      (fun _ Q z => ⟨_, rfl, ht'.o_how_many, _, rfl, _, h'.obj.hit T, ta, t, k.hit, rfl, ht', rfl, _, rfl, by rw [dI, c0]; exact z⟩) ?_
    cases e2 : (decide (k.hit ≠ 0) && decide (hm t k.hit = 0)) with
    | true => exact iteT (no (by unfold chb; rw [e1, e2]; rfl))
    | false =>
    -- nothing hit, a ball potted or off
    refine iteF ?_
    dsimp only [gName, tNext]
    refine sIfAS (decide (k.hit = 0)) ((gone k).any fun x => decide (x ≠ 0)) (fun Q z => ⟨_, rfl, _, h'.obj.hit T, rfl, _, rfl, by rw [dI, c0]; exact z⟩) (fun _ Q z => ?_) (fun H2 s2 => ?_)
    · refine ⟨_, rfl, g, rfl, ⟨_, SqL.of hgl⟩, fun D hD => ?_⟩
      refine lc_list (K := K) (a := g) (xs := (nints (gone k)).map V.int) (fun i H' => H' D = some (.lst (((nints (gone k)).take i).map fun y => V.bl (!decide (y = 0)))) ∧ Same H1 H')
        ⟨by rw [upd_same]; rfl, same_upd_new hD⟩ (fun i H' _ x => SqL.of (x.2 _ _ hgl)) ?_ ?_
      · rintro i x H' hi ⟨h2, h3⟩
        obtain ⟨y, hy, rfl⟩ := map_get hi
        refine ⟨rfl, ?_⟩
        refine ⟨_, rfl, rfl, _, h2, fill_len (by rw [ints_len]; omega), ?_⟩
        rw [dI]
        exact ⟨by rw [upd_same, fill_step (f := fun y => !decide (y = 0)) hy], fun b u e => by rw [upd_ne (ne_of_none e hD)]; exact h3 b u e⟩
      · rintro H' ⟨h2, h3⟩
        rw [List.length_map, List.take_length] at h2
        refine ⟨D, (nints (gone k)).map fun y => !decide (y = 0), rfl, SqL.of (by rw [h2, List.map_map]; rfl), _, rfl, ?_⟩
        rw [any_id]
        have e : ((nints (gone k)).any fun y => !decide (y = 0)) = (gone k).any fun x => decide (x ≠ 0) := by
          unfold nints
          rw [List.any_map]
          congr 1
          funext x
          show (!decide (((x : Nat) : Int) = 0)) = _
          rw [c0]
          simp
        rw [e]
        exact z H' h3
    · have s3 := s1.trans s2
      have h2' := h.mono s3
      have ht2' := ht.mono s3
      have hg2 := s2 _ _ hgl
      cases e3 : (decide (k.hit = 0) && (gone k).any fun x => decide (x ≠ 0)) with
      | true =>
        have z := q H2 s3
        rw [show chb t k = false by unfold chb; rw [e1, e2, e3]; rfl] at z
        exact iteT z
      | false =>
      refine iteF ⟨_, rfl, g, rfl, ⟨_, SqL.of hg2⟩, fun D hD => ?_⟩
      refine lc_list (K := K) (a := g) (xs := (nints (gone k)).map V.int) (fun i H' => H' D = some (.lst (((gone k).take i).map fun y => V.bl (decide ((gone k).count y ≤ hm t y)))) ∧ Same H2 H')
        ⟨by rw [upd_same]; rfl, same_upd_new hD⟩ (fun i H' _ x => SqL.of (x.2 _ _ hg2)) ?_ ?_
      · rintro i x H' hi ⟨h2, h3⟩
        obtain ⟨y, hy, rfl⟩ := map_get hi
        have hy' : ∃ b : Nat, (gone k)[i]? = some b ∧ y = (b : Int) := by
          unfold nints at hy
          rw [List.getElem?_map] at hy
          cases e : (gone k)[i]? with
          | none => rw [e] at hy; cases hy
          | some b => rw [e] at hy; exact ⟨b, rfl, (Option.some.inj hy).symm⟩
        obtain ⟨b, hb, rfl⟩ := hy'
        refine ⟨rfl, ?_⟩
        refine ⟨_, rfl, .inl ⟨rfl, _, SqL.of (h3 _ _ hg2)⟩, _, rfl, g, _, _, rfl, rfl, SqL.of (h3 _ _ hg2), _, rfl, (ht2'.mono h3).o_how_many, _, rfl, ta, t, b, rfl, ht2'.mono h3, _, _, rfl, rfl, _, h2, ?_, ?_⟩
        · rw [List.length_map, List.length_take]
          exact small1000 (by omega)
        · have e : decide ((((nints (gone k)).count (b : Int) : Nat) : Int) ≤ ((hm t b : Nat) : Int)) = decide ((gone k).count b ≤ hm t b) := by
            rw [ints_count]
            by_cases z : (gone k).count b ≤ hm t b
            · rw [decide_eq_true z, decide_eq_true (by omega)]
            · rw [decide_eq_false z, decide_eq_false (by omega)]
          refine ⟨?_, fun b u e => by rw [upd_ne (ne_of_none e hD)]; exact h3 b u e⟩
          rw [upd_same, take_snoc hb, List.map_append]
          show some (HO.lst (_ ++ [V.bl (decide ((((nints (gone k)).count (b : Int) : Nat) : Int) ≤ ((hm t b : Nat) : Int)))])) = _
          rw [e]
          rfl
      · rintro H' ⟨h2, h3⟩
        rw [List.length_map, ints_len, List.take_length] at h2
        refine ⟨D, (gone k).map fun y => decide ((gone k).count y ≤ hm t y), rfl, SqL.of (by rw [h2, List.map_map]; rfl), ?_⟩
        rw [all_id]
        have z := q H' (s3.trans h3)
        rw [show chb t k = (gone k).all fun x => decide ((gone k).count x ≤ hm t x) by unfold chb; rw [e1, e2, e3]; rfl] at z
        exact z
end
end Cue
end
section
set_option Elab.async false
set_option linter.all false
set_option maxRecDepth 100000
set_option autoImplicit false
set_option maxHeartbeats 4000000
namespace Cue
open PySem PySem.Spec PyProof.Rows L2
/-! ### the judgement -/
structure JudAt (A : Adr) (H : Hp) (j ka pa oa ta la : Addr) (f : Kg53.Frame) (k : Kg53.Stroke) : Prop where
  obj : JudgementAt A H j (.ref ka) (.ref ta) (.int (pFree f k : Nat)) (.ref la)
  told : KAt A H ka pa oa k
  tab : TabAt A H ta f.table
  on : H la = some (.lst ((nints (pOn f k)).map V.int))
theorem JudAt.mono {A : Adr} {H H' : Hp} {j ka pa oa ta la : Addr} {f : Kg53.Frame} {k : Kg53.Stroke} (s : Same H H') (h : JudAt A H j ka pa oa ta la f k) : JudAt A H' j ka pa oa ta la f k :=
  ⟨h.obj.mono s, h.told.mono s, h.tab.mono s, s _ _ h.on⟩
def sp_free_ball (A : Adr) : Sp := fun vs H Q _ => ∃ (ka pa oa ta : Addr) (f : Kg53.Frame) (k : Kg53.Stroke), vs = [.ref ka, .ref ta, .bl f.free] ∧ KAt A H ka pa oa k ∧ TabAt A H ta f.table ∧ Q (.int (pFree f k : Nat)) H
def sp_balls_on (A : Adr) : Sp := fun vs H Q _ => ∃ (ka pa oa ta : Addr) (f : Kg53.Frame) (k : Kg53.Stroke), vs = [.ref ka, .ref ta, .int (pFree f k : Nat)] ∧ KAt A H ka pa oa k ∧ TabAt A H ta f.table ∧
  ∀ p, H p = none → Q (.ref p) (upd H p (.lst ((nints (pOn f k)).map V.int)))
def sp_Judgement_init (A : Adr) : Sp := fun vs H Q _ => ∃ (p dx ka pa oa ta : Addr) (f : Kg53.Frame) (k : Kg53.Stroke), vs = [.ref p, .ref ka, .ref ta, .bl f.free] ∧ H p = some (.ins A.Judgement.c dx []) ∧ KAt A H ka pa oa k ∧ TabAt A H ta f.table ∧
  ∀ (H' : Hp) (la : Addr), (∀ b o, H b = some o → b ≠ p → H' b = some o) → H la = none → JudAt A H' p ka pa oa ta la f k → Q .non H'
/-- a method of the judgement that answers a value -/
def spJ (A : Adr) (ok : Kg53.Frame → Kg53.Stroke → Prop) (r : Kg53.Frame → Kg53.Stroke → V) : Sp := fun vs H Q _ => ∃ (j ka pa oa ta la : Addr) (f : Kg53.Frame) (k : Kg53.Stroke), vs = [.ref j] ∧ JudAt A H j ka pa oa ta la f k ∧ JOk f k ∧ ok f k ∧
  ∀ H', Same H H' → Q (r f k) H'
/-- .. and makes nothing -/
def spJ0 (A : Adr) (ok : Kg53.Frame → Kg53.Stroke → Prop) (r : Kg53.Frame → Kg53.Stroke → V) : Sp := fun vs H Q _ => ∃ (j ka pa oa ta la : Addr) (f : Kg53.Frame) (k : Kg53.Stroke), vs = [.ref j] ∧ JudAt A H j ka pa oa ta la f k ∧ JOk f k ∧ ok f k ∧ Q (r f k) H
/-- .. that makes a new table -/
def spJT (A : Adr) (ok : Kg53.Frame → Kg53.Stroke → Prop) (r : Kg53.Frame → Kg53.Stroke → Kg53.Table) : Sp := fun vs H Q _ => ∃ (j ka pa oa ta la : Addr) (f : Kg53.Frame) (k : Kg53.Stroke), vs = [.ref j] ∧ JudAt A H j ka pa oa ta la f k ∧ JOk f k ∧ ok f k ∧
  ∀ (H' : Hp) (p : Addr), Same H H' → H p = none → TabAt A H' p (r f k) → Q (.ref p) H'
def sp_wrongly_potted (A : Adr) : Sp := fun vs H Q _ => ∃ (j ka pa oa ta la : Addr) (f : Kg53.Frame) (k : Kg53.Stroke), vs = [.ref j] ∧ JudAt A H j ka pa oa ta la f k ∧ JOk f k ∧
  ∀ (H' : Hp) (p : Addr), Same H H' → H p = none → H' p = some (.lst ((nints (Kg53.badPots f k)).map V.int)) → Q (.ref p) H'
def Any (f : Kg53.Frame) (k : Kg53.Stroke) : Prop := True
def Fair (f : Kg53.Frame) (k : Kg53.Stroke) : Prop := Kg53.isFoul f k = false

theorem decN (a b : Nat) : decide (((a : Nat) : Int) = ((b : Nat) : Int)) = decide (a = b) := by
  by_cases z : a = b
  · rw [decide_eq_true z, decide_eq_true (by omega)]
  · rw [decide_eq_false z, decide_eq_false (by omega)]
theorem decN0 (a : Nat) : decide (((a : Nat) : Int) = 0) = decide (a = 0) := decN a 0
theorem decN1 (a : Nat) : decide (((a : Nat) : Int) = 1) = decide (a = 1) := decN a 1
theorem dec2 (a : Nat) : decide ((2 : Int) ≤ ((a : Nat) : Int)) = decide (2 ≤ a) := by
  by_cases z : 2 ≤ a
  · rw [decide_eq_true z, decide_eq_true (by omega)]
  · rw [decide_eq_false z, decide_eq_false (by omega)]
theorem inV_ints (x : Nat) (l : List Nat) : inV (.int x) ((nints l).map V.int) = l.contains x := by
  unfold inV nints
  rw [List.any_map, List.any_map, List.contains_eq_any_beq]
  congr 1
  funext y
  show (((y : Nat) : Int) == ((x : Nat) : Int)) = (x == y)
  rw [Bool.eq_iff_iff]
  simp only [beq_iff_eq]
  omega
theorem flat_ints (l : List Int) : (l.map V.int).all flatV = true := by
  rw [List.all_map]
  exact List.all_eq_true.mpr fun _ _ => rfl
section
variable {P : Program} {w : World} {K : PySem.W.Frag} {mg : Str → Option Value} {base : Heap} {A : Adr}
theorem ok_free_ball (T : Txt K mg A) : FnOk P w K mg base CX0 2 A.fs.free_ball.f A.fs.free_ball.fd ["told", "table", "may_name_free"] (sp_free_ball A) := by
  refine T.fs.F_free_ball.ok sc_free_ball (fun vs H Q E h => ?_) (fun cdv Ar outer s H vs Q E hr h => ?_)
  · obtain ⟨ka, pa, oa, ta, f, k, rfl, _⟩ := h; rfl
  · obtain ⟨ka, pa, oa, ta, f, k, rfl, hk, ht, q⟩ := h
    refine ⟨_, ((pss_cons (ps_if (PW.pt (pw_and (pt_val (pv 2)) (pw_and (pt_val (pe_m0c (pv 0) T.Stroke.cl T.Stroke.t_names_colour (ok_Stroke_names_colour T) (hr.mono (by decide)) T.Stroke.b_names_colour .nil pass0)) (pw_and1 (pt_cmpR op_ne (pe_f (pv 0) rfl) (pe_f (pv 1) rfl) (nomark _)))))) (pss_one (ps_ret (pe_f (pv 0) rfl))) pss_nil)
      (pss_one (ps_ret (pe_const T.k.c_NOTHING rfl))))), ?_⟩
    refine sIfA f.free (decide (2 ≤ k.named) && decide (k.named ≠ tO f.table)) (fun Q z => ⟨_, rfl, _, rfl, z⟩)
      (fun _ Q z => tAndP (decide (2 ≤ k.named)) (decide (k.named ≠ tO f.table)) (fun Q z => ⟨_, rfl, hk.obj.o_names_colour, ka, _, _, _, _, _, _, _, rfl, hk.obj, _, rfl, by rw [dec2]; exact z⟩)
        (fun _ Q z => ⟨_, rfl, _, hk.obj.named T, _, rfl, _, ht.on T, rfl, _, rfl, by rw [dI, decN]; simpa using z⟩) z) ?_
    unfold pFree at q
    cases e : (f.free && (decide (2 ≤ k.named) && decide (k.named ≠ tO f.table))) with
    | true =>
      simp only [Bool.and_eq_true, decide_eq_true_eq] at e
      rw [if_pos e] at q
      exact iteT ⟨_, rfl, _, hk.obj.named T, q⟩
    | false =>
      have ne : ¬ (f.free = true ∧ 2 ≤ k.named ∧ k.named ≠ tO f.table) := fun z => by
        have : (f.free && (decide (2 ≤ k.named) && decide (k.named ≠ tO f.table))) = true := by simp only [Bool.and_eq_true, decide_eq_true_eq]; exact z
        rw [this] at e; cases e
      rw [if_neg ne] at q
      exact iteF q
theorem ok_balls_on (T : Txt K mg A) : FnOk P w K mg base CX0 2 A.fs.balls_on.f A.fs.balls_on.fd ["told", "table", "free"] (sp_balls_on A) := by
  refine T.fs.F_balls_on.ok sc_balls_on (fun vs H Q E h => ?_) (fun cdv Ar outer s H vs Q E hr h => ?_)
  · obtain ⟨ka, pa, oa, ta, f, k, rfl, _⟩ := h; rfl
  · obtain ⟨ka, pa, oa, ta, f, k, rfl, hk, ht, q⟩ := h
    refine ⟨_, ((pss_cons (ps_set (i := 3) sc_balls_on.nd rfl (by first | exact Or.inl rfl | exact Or.inr rfl) (pe_lst pa_nil))
      (pss_cons (ps_if (pt_cmpR op_ne (pe_f (pv 1) rfl) (pe_const T.k.c_ANY_COLOUR rfl) (nomark _)) (pss_one (ps_expr (pe_bm PySem.F.plainAttrs_list PySem.F.slot_list_append PySem.F.type_list_append mt_append (pv 3) (pa_cons (pe_f (pv 1) rfl) pa_nil)))) (pss_one (ps_if (pt_val (pe_m0c (pv 0) T.Stroke.cl T.Stroke.t_names_colour (ok_Stroke_names_colour T) (hr.mono (by decide)) T.Stroke.b_names_colour .nil pass0)) (pss_one (ps_expr (pe_bm PySem.F.plainAttrs_list PySem.F.slot_list_append PySem.F.type_list_append mt_append (pv 3) (pa_cons (pe_f (pv 0) rfl) pa_nil)))) pss_nil)))
      (pss_cons (ps_if (pt_cmpR op_ne (pv 2) (pe_const T.k.c_NOTHING rfl) (nomark _)) (pss_one (ps_expr (pe_bm PySem.F.plainAttrs_list PySem.F.slot_list_append PySem.F.type_list_append mt_append (pv 3) (pa_cons (pv 2) pa_nil)))) pss_nil)
      (pss_one (ps_ret (pv 3))))))), ?_⟩
    refine ⟨Nat.zero_le _, fun p hp => ?_⟩
    have s1 : ∀ o, Same H (upd H p o) := fun o => same_upd_new hp
    have q := q p hp
    unfold pOn at q
    -- behind the first if: the list holds l
    have rest : ∀ l : List Nat, l.length ≤ 1 → (if tO f.table ≠ 0 then [tO f.table] else if 2 ≤ k.named then [k.named] else []) = l →
        (tSeq (tIfS (tTest (tOp rNe (tVar 2) (tC (.int 0)))) (tDrop (tBM K "list" rAppend (tVar 3) (tCons (tVar 2) tNil))) tNext) (tRet (tVar 3))) { nx := fun _ H' => Q .non H', rt := Q }
          [some (.ref ka), some (.ref ta), some (.int (pFree f k : Nat)), some (.ref p)] (upd H p (.lst ((nints l).map V.int))) := by
      intro l hl el
      rw [el] at q
      refine ⟨_, rfl, rfl, _, rfl, ?_⟩
      rw [dI, decN0]
      by_cases z : pFree f k = 0
      · rw [decide_eq_true z]
        rw [if_neg (fun w => w z), List.append_nil] at q
        exact iteF ⟨_, rfl, q⟩
      · rw [decide_eq_false z]
        rw [if_pos z] at q
        refine iteT ⟨_, rfl, .inl ⟨rfl, _, SqL.of upd_same⟩, _, rfl, p, _, _, rfl, rfl, upd_same, ?_, ?_⟩
        · rw [List.length_map, ints_len]; exact small1000 (by omega)
        · rw [upd_upd]
          refine ⟨_, rfl, ?_⟩
          have e : (nints l).map V.int ++ [V.int (pFree f k : Nat)] = (nints (l ++ [pFree f k])).map V.int := by rw [← ints_app, List.map_append]; rfl
          rw [e]
          exact q
    refine ⟨_, rfl, _, (ht.mono (s1 _)).on T, rfl, _, rfl, ?_⟩
    rw [dI, decN0]
    by_cases z : tO f.table = 0
    · rw [decide_eq_true z]
      refine iteF ?_
      refine ⟨_, rfl, (hk.mono (s1 _)).obj.o_names_colour, ka, _, _, _, _, _, _, _, rfl, (hk.mono (s1 _)).obj, _, rfl, ?_⟩
      rw [dec2]
      by_cases z2 : 2 ≤ k.named
      · rw [decide_eq_true z2]
        refine iteT ⟨_, rfl, .inl ⟨rfl, _, SqL.of upd_same⟩, _, rfl, _, (hk.mono (s1 _)).obj.named T, p, _, _, rfl, rfl, upd_same, (by decide), ?_⟩
        rw [upd_upd]
        exact rest [k.named] (by simp) (by rw [if_neg (fun w => w z), if_pos z2])
      · rw [decide_eq_false z2]
        exact iteF (rest [] (by simp) (by rw [if_neg (fun w => w z), if_neg z2]))
    · rw [decide_eq_false z]
      refine iteT ⟨_, rfl, .inl ⟨rfl, _, SqL.of upd_same⟩, _, rfl, _, (ht.mono (s1 _)).on T, p, _, _, rfl, rfl, upd_same, (by decide), ?_⟩
      rw [upd_upd]
      exact rest [tO f.table] (by simp) (by rw [if_pos z])
theorem ok_Judgement_init (T : Txt K mg A) : FnOk P w K mg base CX0 3 A.Judgement.init.f A.Judgement.init.fd ["self", "told", "table", "may_name_free"] (sp_Judgement_init A) := by
  refine T.Judgement.F_init.ok sc_Judgement_init (fun vs H Q E h => ?_) (fun cdv Ar outer s H vs Q E hr h => ?_)
  · obtain ⟨p, dx, ka, pa, oa, ta, f, k, rfl, _⟩ := h; rfl
  · obtain ⟨p, dx, ka, pa, oa, ta, f, k, rfl, hp, hk, ht, q⟩ := h
    refine ⟨_, ((pss_cons (ps_fs (pv 0) (pv 1) rfl)
      (pss_cons (ps_fs (pv 0) (pv 2) rfl)
      (pss_cons (ps_fs (pv 0) (pe_call (ok_free_ball T) (hr.mono (by decide)) rfl T.fs.m_free_ball T.fs.F_free_ball.kp T.fs.b_free_ball .nil pass0 (pa_cons (pv 1) (pa_cons (pv 2) (pa_cons (pv 3) pa_nil)))) rfl)
      (pss_one (ps_fs (pv 0) (pe_call (ok_balls_on T) (hr.mono (by decide)) rfl T.fs.m_balls_on T.fs.F_balls_on.kp T.fs.b_balls_on .nil pass0 (pa_cons (pv 1) (pa_cons (pv 2) (pa_cons (pe_f (pv 0) rfl) pa_nil)))) rfl)))))), ?_⟩
    -- what stands but at p stays
    have nK : ∀ fs b o, H b = some o → b ≠ p → upd H p (.ins A.Judgement.c dx fs) b = some o := fun fs b o e hb => by rw [upd_ne hb]; exact e
    obtain ⟨dk, hko⟩ := id hk.obj
    obtain ⟨dt, hto⟩ := id ht
    have n1 : ka ≠ p := ne_of hko hp (by intro z; injection z with _ _ z; exact absurd (show (7 : Nat) = 0 from congrArg List.length z) (by decide))
    have n2 : ta ≠ p := ne_of hto hp (by intro z; injection z with _ _ z; exact absurd (show (3 : Nat) = 0 from congrArg List.length z) (by decide))
    have n3 : pa ≠ p := fun e => by subst e; have := hk.pot; rw [hp] at this; cases this
    have n4 : oa ≠ p := fun e => by subst e; have := hk.off; rw [hp] at this; cases this
    have hk' : ∀ fs, KAt A (upd H p (.ins A.Judgement.c dx fs)) ka pa oa k := fun fs => ⟨⟨dk, nK fs _ _ hko n1⟩, nK fs _ _ hk.pot n3, nK fs _ _ hk.off n4, hk.lp, hk.lo⟩
    have ht' : ∀ fs, TabAt A (upd H p (.ins A.Judgement.c dx fs)) ta f.table := fun fs => ⟨dt, nK fs _ _ hto n2⟩
    refine ⟨_, rfl, _, rfl, p, _, dx, _, rfl, hp, ⟨T.Judgement.cl, T.Judgement.na_told, (by decide)⟩, ?_⟩
    refine ⟨_, rfl, _, rfl, p, _, dx, _, rfl, upd_same, ⟨T.Judgement.cl, T.Judgement.na_table, Judgement_l1 _⟩, ?_⟩
    rw [upd_upd]
    refine ⟨_, rfl, _, rfl, _, rfl, ka, pa, oa, ta, f, k, rfl, hk' _, ht' _, ?_⟩
    refine ⟨_, rfl, p, _, dx, _, rfl, upd_same, ⟨T.Judgement.cl, T.Judgement.na_free, Judgement_l2 _ _⟩, ?_⟩
    rw [upd_upd]
    refine ⟨_, rfl, _, rfl, _, rfl, _, ⟨p, _, dx, _, rfl, upd_same, T.Judgement.cl, T.Judgement.na_free, (by kernel_rfl)⟩, ka, pa, oa, ta, f, k, rfl, hk' _, ht' _, fun la hla => ?_⟩
    have nl : la ≠ p := fun e => by subst e; rw [upd_same] at hla; cases hla
    have np : p ≠ la := fun e => nl e.symm
    refine ⟨_, rfl, p, _, dx, _, rfl, (by rw [upd_ne np, upd_same]), ⟨T.Judgement.cl, T.Judgement.na_all_on, Judgement_l3 _ _ _⟩, ?_⟩
    rw [Judgement_mk]
    rw [upd_ne nl] at hla
    have keep : ∀ b o, H b = some o → b ≠ p → upd (upd (upd H p (.ins A.Judgement.c dx (putF "free" (.int (pFree f k : Nat)) (putF "table" (.ref ta) (putF "told" (.ref ka) []))))) la (.lst ((nints (pOn f k)).map V.int))) p (.ins A.Judgement.c dx (Judgement_fs (.ref ka) (.ref ta) (.int (pFree f k : Nat)) (.ref la))) b = some o := fun b o e hb => by
      rw [upd_ne hb, upd_ne (ne_of_none e hla), upd_ne hb]; exact e
    refine q _ la keep hla ⟨⟨dx, upd_same⟩, ⟨⟨dk, keep _ _ hko n1⟩, keep _ _ hk.pot n3, keep _ _ hk.off n4, hk.lp, hk.lo⟩, ⟨dt, keep _ _ hto n2⟩, by rw [upd_ne nl, upd_same]⟩
theorem ok_Judgement_is_rightly_hit (T : Txt K mg A) : FnOk P w K mg base CX0 1 A.Judgement.is_rightly_hit.f A.Judgement.is_rightly_hit.fd ["self"] (spJ0 A Any fun f k => .bl (Kg53.mayHit f k)) := by
  refine T.Judgement.F_is_rightly_hit.ok sc_Judgement_is_rightly_hit (fun vs H Q E h => ?_) (fun cdv Ar outer s H vs Q E hr h => ?_)
  · obtain ⟨j, ka, pa, oa, ta, la, f, k, rfl, _⟩ := h; rfl
  · obtain ⟨j, ka, pa, oa, ta, la, f, k, rfl, h, jo, _, q⟩ := h
    have q : Q (.bl (Kg53.mayHit f k)) H := q
    refine ⟨_, ((pss_cons (ps_if (pt_cmpR op_ne (pe_f (pv 0) rfl) (pe_const T.k.c_NOTHING rfl) (nomark _)) (pss_one (ps_ret (pe_cmpR op_eq (pe_f (pe_f (pv 0) rfl) rfl) (pe_f (pv 0) rfl) (nomark _)))) pss_nil)
      (pss_one (ps_ret (pe_cmpR op_in_seq (pe_f (pe_f (pv 0) rfl) rfl) (pe_f (pv 0) rfl) rfl))))), ?_⟩
    refine ⟨_, rfl, _, h.obj.free T, rfl, _, rfl, ?_⟩
    rw [dI, decN0]
    rw [mayHit_eq jo] at q
    by_cases z : pFree f k = 0
    · rw [decide_eq_true z]
      rw [if_neg (fun w => w z)] at q
      refine iteF ⟨_, rfl, _, h.obj.told T, _, h.told.obj.hit T, _, rfl, _, h.obj.all_on T, la, _, rfl, .inl (SqL.of h.on), rfl, flat_ints _, ?_⟩
      show Q (.bl (inV _ _)) H
      rw [inV_ints]
      exact q
    · rw [decide_eq_false z]
      rw [if_pos z] at q
      refine iteT ⟨_, rfl, _, h.obj.told T, _, h.told.obj.hit T, _, rfl, _, h.obj.free T, rfl, ?_⟩
      rw [dI, decN]
      exact q
theorem ok_Judgement_wrongly_potted (T : Txt K mg A) : FnOk P w K mg base CX0 1 A.Judgement.wrongly_potted.f A.Judgement.wrongly_potted.fd ["self"] (sp_wrongly_potted A) := by
  refine T.Judgement.F_wrongly_potted.ok sc_Judgement_wrongly_potted (fun vs H Q E h => ?_) (fun cdv Ar outer s H vs Q E hr h => ?_)
  · obtain ⟨j, ka, pa, oa, ta, la, f, k, rfl, _⟩ := h; rfl
  · obtain ⟨j, ka, pa, oa, ta, la, f, k, rfl, h, jo, q⟩ := h
    refine ⟨_, ((pss_one (ps_ret (pe_lc (own := [("ball", 1)]) rfl sc_Judgement_wrongly_potted.nd (pi_list (pe_f (pe_f (pv 0) rfl) rfl)) (blkOk_by (by kernel_rfl)) (fun _ _ _ _ _ => pg_name (i := 1) sc_Judgement_wrongly_potted.nd rfl (Or.inl rfl)) (fun _ _ _ _ _ => (pts_one (pt_cmpR (op_notInK (K := K) rfl) (pv 1) (pe_fK (K := K) rfl (pv 0) rfl) rfl))) (fun _ _ _ _ _ => (pv 1)))))), ?_⟩
    refine ⟨_, rfl, _, h.obj.told T, _, h.told.obj.potted T, pa, rfl, ⟨_, SqL.of h.told.pot⟩, fun D hD => ?_⟩
    have hlp := h.told.lp
    refine lc_list (K := K) (a := pa) (xs := (nints k.potted).map V.int) (fun i H' => H' D = some (.lst ((nints ((k.potted.take i).filter fun x => !(pOn f k).contains x)).map V.int)) ∧ Same H H')
      ⟨by rw [upd_same]; rfl, same_upd_new hD⟩ (fun i H' _ x => SqL.of (x.2 _ _ h.told.pot)) ?_ ?_
    · rintro i x H' hi ⟨h2, h3⟩
      obtain ⟨y, hy, rfl⟩ := map_get hi
      have hy' : ∃ b : Nat, k.potted[i]? = some b ∧ y = (b : Int) := by
        unfold nints at hy
        rw [List.getElem?_map] at hy
        cases e : k.potted[i]? with
        | none => rw [e] at hy; cases hy
        | some b => rw [e] at hy; exact ⟨b, rfl, (Option.some.inj hy).symm⟩
      obtain ⟨b, hb, rfl⟩ := hy'
      have h' := h.mono h3
      refine ⟨rfl, ?_⟩
      refine ⟨_, rfl, _, rfl, _, h'.obj.all_on T, la, _, rfl, .inl (SqL.of h'.on), rfl, flat_ints _, _, rfl, ?_⟩
      show if (!inV (V.int (b : Int)) ((nints (pOn f k)).map V.int)) = true then _ else _
      rw [inV_ints]
      have ef : (k.potted.take (i + 1)).filter (fun x => !(pOn f k).contains x) = (k.potted.take i).filter (fun x => !(pOn f k).contains x) ++ (if (!(pOn f k).contains b) = true then [b] else []) := by
        rw [take_snoc hb, List.filter_append, List.filter_cons, List.filter_nil]
      cases e : (pOn f k).contains b with
      | true =>
        rw [e] at ef
        refine iteF ⟨?_, h3⟩
        rw [ef, h2]
        simp
      | false =>
        rw [e] at ef
        refine iteT ⟨_, rfl, _, h2, ?_, ?_, fun c u e => by rw [upd_ne (ne_of_none e hD)]; exact h3 c u e⟩
        · rw [List.length_map, ints_len]
          refine small1000 ?_
          have z1 := List.length_filter_le (fun x => !(pOn f k).contains x) (k.potted.take i)
          have z2 := List.length_take (i := i) (l := k.potted)
          omega
        · rw [upd_same, ef, ← ints_app, List.map_append]
          rfl
    · rintro H' ⟨h2, h3⟩
      rw [List.length_map, ints_len, List.take_length, ← badPots_eq jo] at h2
      exact q H' D h3 hD h2
end
end Cue
end
section
set_option Elab.async false
set_option linter.all false
set_option maxRecDepth 100000
set_option autoImplicit false
set_option maxHeartbeats 4000000
namespace Cue
open PySem PySem.Spec PyProof.Rows L2
theorem len_pos (l : List Nat) : decide ((0 : Int) < (((nints l).map V.int).length : Int)) = !l.isEmpty := by
  rw [List.length_map, ints_len]
  cases l with
  | nil => rfl
  | cons a r => rw [decide_eq_true (by rw [List.length_cons]; omega)]; rfl
theorem len_zero (l : List Nat) : decide ((((nints l).map V.int).length : Int) = 0) = decide (l.length = 0) := by
  rw [List.length_map, ints_len, decN0]
section
variable {P : Program} {w : World} {K : PySem.W.Frag} {mg : Str → Option Value} {base : Heap} {A : Adr}
theorem ok_Judgement_is_foul (T : Txt K mg A) : FnOk P w K mg base CX0 2 A.Judgement.is_foul.f A.Judgement.is_foul.fd ["self"] (spJ A Any fun f k => .bl (Kg53.isFoul f k)) := by
  refine T.Judgement.F_is_foul.ok sc_Judgement_is_foul (fun vs H Q E h => ?_) (fun cdv Ar outer s H vs Q E hr h => ?_)
  · obtain ⟨j, ka, pa, oa, ta, la, f, k, rfl, _⟩ := h; rfl
  · obtain ⟨j, ka, pa, oa, ta, la, f, k, rfl, h, jo, _, q⟩ := h
    refine ⟨_, ((pss_cons (ps_if (PW.pt (pw_or (pt_not (pt_val (pe_m0c (pv 0) T.Judgement.cl T.Judgement.t_is_rightly_hit (ok_Judgement_is_rightly_hit T) (hr.mono (by decide)) T.Judgement.b_is_rightly_hit .nil pass0))) (pw_or1 (pt_cmpR op_gt (pe_callB call_len_seq rfl T.k.b_len boot_len (pa_cons (pe_m0c (pv 0) T.Judgement.cl T.Judgement.t_wrongly_potted (ok_Judgement_wrongly_potted T) (hr.mono (by decide)) T.Judgement.b_wrongly_potted .nil pass0) pa_nil)) pe_int (nomark _))))) (pss_one (ps_ret pe_bl)) pss_nil)
      (pss_one (ps_ret (pe_or (pe_cmpR op_gt (pe_callB call_len_seq rfl T.k.b_len boot_len (pa_cons (pe_f (pe_f (pv 0) rfl) rfl) pa_nil)) pe_int (nomark _)) (pe_one (pe_cmpR op_ne (pe_f (pe_f (pv 0) rfl) rfl) pe_int (nomark _)))))))), ?_⟩
    refine sIfOS (!Kg53.mayHit f k) (!(Kg53.badPots f k).isEmpty) (fun Q z => ⟨_, rfl, h.obj.o_is_rightly_hit, j, ka, pa, oa, ta, la, f, k, rfl, h, jo, trivial, _, rfl, z⟩)
      (fun _ Q z => ⟨_, rfl, h.obj.o_wrongly_potted, j, ka, pa, oa, ta, la, f, k, rfl, h, jo, fun H' p s' np hp' => ⟨p, _, rfl, .inl (SqL.of hp'), _, _, rfl, rfl, _, rfl, by rw [len_pos]; exact z H' s'⟩⟩) (fun H' s' => ?_)
    have q := q H' s'
    have h' := h.mono s'
    have q : Q (.bl (Kg53.isFoul f k)) H' := q
    unfold Kg53.isFoul at q
    rw [← Bool.or_assoc] at q
    cases e : (!Kg53.mayHit f k || !(Kg53.badPots f k).isEmpty) with
    | true => rw [e] at q; exact iteT q
    | false =>
      rw [e] at q
      refine iteF ⟨_, rfl, _, h'.obj.told T, _, h'.told.obj.off T, oa, _, rfl, .inl (SqL.of h'.told.off), _, _, rfl, rfl, _, rfl, ?_⟩
      rw [len_pos]
      cases e2 : k.off.isEmpty with
      | false => rw [e2] at q; exact q
      | true =>
        rw [e2] at q
        refine iteF ⟨_, rfl, _, h'.obj.told T, _, h'.told.obj.conduct T, rfl, ?_⟩
        rw [dI, decN0]
        have e3 : (!decide (k.conduct = 0)) = (k.conduct != 0) := by
          by_cases z : k.conduct = 0
          · simp [z]
          · simp [z]
        rw [e3]
        exact q
theorem ok_Judgement_worth_of_on (T : Txt K mg A) : FnOk P w K mg base CX0 2 A.Judgement.worth_of_on.f A.Judgement.worth_of_on.fd ["self"] (spJ0 A Any fun f k => .int (Kg53.worth f k : Nat)) := by
  refine T.Judgement.F_worth_of_on.ok sc_Judgement_worth_of_on (fun vs H Q E h => ?_) (fun cdv Ar outer s H vs Q E hr h => ?_)
  · obtain ⟨j, ka, pa, oa, ta, la, f, k, rfl, _⟩ := h; rfl
  · obtain ⟨j, ka, pa, oa, ta, la, f, k, rfl, h, jo, _, q⟩ := h
    have q : Q (.int (Kg53.worth f k : Nat)) H := q
    rw [worth_eq jo] at q
    refine ⟨_, ((pss_cons (ps_if (pt_cmpR op_ne (pe_f (pe_f (pv 0) rfl) rfl) (pe_const T.k.c_ANY_COLOUR rfl) (nomark _)) (pss_one (ps_ret (pe_f (pe_f (pv 0) rfl) rfl))) pss_nil)
      (pss_one (ps_ret (pe_ifExp (pt_val (pe_m0c (pe_f (pv 0) rfl) T.Stroke.cl T.Stroke.t_names_colour (ok_Stroke_names_colour T) (hr.mono (by decide)) T.Stroke.b_names_colour .nil pass0)) (pe_f (pe_f (pv 0) rfl) rfl) (pe_const T.k.c_BLACK rfl)))))), ?_⟩
    refine ⟨_, rfl, _, h.obj.table T, _, h.tab.on T, rfl, _, rfl, ?_⟩
    rw [dI, decN0]
    by_cases z : tO f.table = 0
    · rw [decide_eq_true z]
      rw [if_neg (fun w => w z)] at q
      refine iteF ⟨_, rfl, _, h.obj.told T, h.told.obj.o_names_colour, ka, _, _, _, _, _, _, _, rfl, h.told.obj, _, rfl, ?_⟩
      rw [dec2]
      by_cases z2 : 2 ≤ k.named
      · rw [decide_eq_true z2]
        rw [if_pos z2] at q
        exact iteT ⟨_, rfl, _, h.obj.told T, _, h.told.obj.named T, q⟩
      · rw [decide_eq_false z2]
        rw [if_neg z2] at q
        exact iteF q
    · rw [decide_eq_false z]
      rw [if_pos z] at q
      exact iteT ⟨_, rfl, _, h.obj.table T, _, h.tab.on T, q⟩
theorem ok_Judgement_made (T : Txt K mg A) : FnOk P w K mg base CX0 3 A.Judgement.made.f A.Judgement.made.fd ["self"] (spJ0 A Fair fun f k => .int (Kg53.scored f k : Nat)) := by
  refine T.Judgement.F_made.ok sc_Judgement_made (fun vs H Q E h => ?_) (fun cdv Ar outer s H vs Q E hr h => ?_)
  · obtain ⟨j, ka, pa, oa, ta, la, f, k, rfl, _⟩ := h; rfl
  · obtain ⟨j, ka, pa, oa, ta, la, f, k, rfl, h, jo, fair, q⟩ := h
    have q : Q (.int (Kg53.scored f k : Nat)) H := q
    rw [scored_eq jo fair] at q
    refine ⟨_, ((pss_cons (ps_if (pt_cmpR op_eq (pe_callB call_len_seq rfl T.k.b_len boot_len (pa_cons (pe_f (pe_f (pv 0) rfl) rfl) pa_nil)) pe_int (nomark _)) (pss_one (ps_ret pe_int)) pss_nil)
      (pss_cons (ps_if (pt_cmpR op_eq (pe_f (pe_f (pv 0) rfl) rfl) (pe_const T.k.c_RED rfl) (nomark _)) (pss_one (ps_ret (pe_callB call_len_seq rfl T.k.b_len boot_len (pa_cons (pe_f (pe_f (pv 0) rfl) rfl) pa_nil)))) pss_nil)
      (pss_one (ps_ret (pe_m0c (pv 0) T.Judgement.cl T.Judgement.t_worth_of_on (ok_Judgement_worth_of_on T) (hr.mono (by decide)) T.Judgement.b_worth_of_on .nil pass0)))))), ?_⟩
    refine ⟨_, rfl, _, h.obj.told T, _, h.told.obj.potted T, pa, _, rfl, .inl (SqL.of h.told.pot), rfl, _, rfl, ?_⟩
    rw [dI, len_zero]
    by_cases z : k.potted.length = 0
    · rw [decide_eq_true z]
      rw [if_pos z] at q
      exact iteT q
    · rw [decide_eq_false z]
      rw [if_neg z] at q
      refine iteF ⟨_, rfl, _, h.obj.table T, _, h.tab.on T, rfl, _, rfl, ?_⟩
      rw [dI, decN1]
      by_cases z1 : tO f.table = 1
      · rw [decide_eq_true z1]
        rw [if_pos z1] at q
        refine iteT ⟨_, rfl, _, h.obj.told T, _, h.told.obj.potted T, pa, _, rfl, .inl (SqL.of h.told.pot), ?_⟩
        rw [List.length_map, ints_len]
        exact q
      · rw [decide_eq_false z1]
        rw [if_neg z1, ← worth_eq jo] at q
        exact iteF ⟨_, rfl, h.obj.o_worth_of_on, j, ka, pa, oa, ta, la, f, k, rfl, h, jo, trivial, q⟩
theorem ok_Judgement_table_behind_foul (T : Txt K mg A) : FnOk P w K mg base CX0 4 A.Judgement.table_behind_foul.f A.Judgement.table_behind_foul.fd ["self"] (spJT A Any foulT) := by
  refine T.Judgement.F_table_behind_foul.ok sc_Judgement_table_behind_foul (fun vs H Q E h => ?_) (fun cdv Ar outer s H vs Q E hr h => ?_)
  · obtain ⟨j, ka, pa, oa, ta, la, f, k, rfl, _⟩ := h; rfl
  · obtain ⟨j, ka, pa, oa, ta, la, f, k, rfl, h, jo, _, q⟩ := h
    refine ⟨_, ((pss_one (ps_ret (pe_call (ok_table_in_round T) (hr.mono (by decide)) rfl T.fs.m_table_in_round T.fs.F_table_in_round.kp T.fs.b_table_in_round .nil pass0 (pa_cons (pe_op op_sub (pe_f (pe_f (pv 0) rfl) rfl) (pe_m0c (pe_f (pv 0) rfl) T.Stroke.cl T.Stroke.t_reds_gone (ok_Stroke_reds_gone T) (hr.mono (by decide)) T.Stroke.b_reds_gone .nil pass0)) (pa_cons (pe_f (pe_f (pv 0) rfl) rfl) pa_nil)))))), ?_⟩
    have le := rgone_le jo
    have e : (((f.table.reds : Nat) : Int) - ((rgone k : Nat) : Int)) = ((f.table.reds - rgone k : Nat) : Int) := by omega
    have hl := jo.t.low
    rw [foulT_eq jo] at q
    refine ⟨_, rfl, _, h.obj.table T, _, h.tab.reds T, _, rfl, _, h.obj.told T, h.told.obj.o_reds_gone, ka, pa, oa, k, rfl, h.told, _, _, rfl, rfl, _, rfl, _, h.obj.table T, _, h.tab.lowest T, ?_⟩
    exact ⟨f.table.reds - rgone k, tL f.table, by show [V.int _, V.int _] = _; rw [e], hl.1, by omega, q⟩
theorem ok_Judgement_table_behind_fair (T : Txt K mg A) : FnOk P w K mg base CX0 4 A.Judgement.table_behind_fair.f A.Judgement.table_behind_fair.fd ["self"] (spJT A Fair fairT) := by
  refine T.Judgement.F_table_behind_fair.ok sc_Judgement_table_behind_fair (fun vs H Q E h => ?_) (fun cdv Ar outer s H vs Q E hr h => ?_)
  · obtain ⟨j, ka, pa, oa, ta, la, f, k, rfl, _⟩ := h; rfl
  · obtain ⟨j, ka, pa, oa, ta, la, f, k, rfl, h, jo, fair, q⟩ := h
    refine ⟨_, ((pss_cons (ps_set (i := 1) sc_Judgement_table_behind_fair.nd rfl (by first | exact Or.inl rfl | exact Or.inr rfl) (pe_op op_sub (pe_f (pe_f (pv 0) rfl) rfl) (pe_m0c (pe_f (pv 0) rfl) T.Stroke.cl T.Stroke.t_reds_gone (ok_Stroke_reds_gone T) (hr.mono (by decide)) T.Stroke.b_reds_gone .nil pass0)))
      (pss_cons (ps_if (PW.pt (pw_and (pt_cmpR op_eq (pe_f (pe_f (pv 0) rfl) rfl) (pe_const T.k.c_RED rfl) (nomark _)) (pw_and1 (pt_cmpR op_gt (pe_m0c (pv 0) T.Judgement.cl T.Judgement.t_made (ok_Judgement_made T) (hr.mono (by decide)) T.Judgement.b_made .nil pass0) pe_int (nomark _))))) (pss_one (ps_ret (pe_make T.Table.mak (ok_Table_init T) (hr.mono (by decide)) rfl T.Table.m T.Table.b_init .nil pass0 (pa_cons (pv 1) (pa_cons (pe_f (pe_f (pv 0) rfl) rfl) (pa_cons (pe_const T.k.c_ANY_COLOUR rfl) pa_nil)))))) pss_nil)
      (pss_cons (ps_if (PW.pt (pw_and (pt_cmpR op_eq (pe_f (pe_f (pv 0) rfl) rfl) (pe_f (pe_f (pv 0) rfl) rfl) (nomark _)) (pw_and1 (pt_cmpR op_in_seq (pe_f (pe_f (pv 0) rfl) rfl) (pe_f (pe_f (pv 0) rfl) rfl) rfl)))) (pss_one (ps_ret (pe_call (ok_table_in_round T) (hr.mono (by decide)) rfl T.fs.m_table_in_round T.fs.F_table_in_round.kp T.fs.b_table_in_round .nil pass0 (pa_cons (pv 1) (pa_cons (pe_op op_add (pe_f (pe_f (pv 0) rfl) rfl) pe_int) pa_nil))))) pss_nil)
      (pss_one (ps_ret (pe_call (ok_table_in_round T) (hr.mono (by decide)) rfl T.fs.m_table_in_round T.fs.F_table_in_round.kp T.fs.b_table_in_round .nil pass0 (pa_cons (pv 1) (pa_cons (pe_f (pe_f (pv 0) rfl) rfl) pa_nil))))))))), ?_⟩
    have le := rgone_le jo
    have e : (((f.table.reds : Nat) : Int) - ((rgone k : Nat) : Int)) = ((f.table.reds - rgone k : Nat) : Int) := by omega
    have hl := jo.t.low
    rw [fairT_eq jo fair] at q
    refine ⟨_, rfl, _, h.obj.table T, _, h.tab.reds T, _, rfl, _, h.obj.told T, h.told.obj.o_reds_gone, ka, pa, oa, k, rfl, h.told, _, _, rfl, rfl, ?_⟩
    dsimp only [gName, tNext]
    rw [e]
    refine sIfA (decide (tO f.table = 1)) (decide (0 < Kg53.scored f k)) (fun Q z => ⟨_, rfl, _, h.obj.table T, _, h.tab.on T, rfl, _, rfl, by rw [dI, decN1]; exact z⟩)
      (fun _ Q z => ⟨_, rfl, h.obj.o_made, j, ka, pa, oa, ta, la, f, k, rfl, h, jo, fair, _, _, rfl, rfl, _, rfl, ?_⟩) ?_
    · have e2 : decide ((0 : Int) < ((Kg53.scored f k : Nat) : Int)) = decide (0 < Kg53.scored f k) := by
        by_cases y : 0 < Kg53.scored f k
        · rw [decide_eq_true y, decide_eq_true (by omega)]
        · rw [decide_eq_false y, decide_eq_false (by omega)]
      show Q (decide ((0 : Int) < ((Kg53.scored f k : Nat) : Int))) H
      rw [e2]
      exact z
    · cases e1 : (decide (tO f.table = 1) && decide (0 < Kg53.scored f k)) with
      | true =>
        simp only [Bool.and_eq_true, decide_eq_true_eq] at e1
        rw [if_pos e1] at q
        refine iteT ⟨_, rfl, _, rfl, _, h.obj.table T, _, h.tab.lowest T, fun x dx nx nd ne => ?_⟩
        refine ⟨x, dx, _, _, _, rfl, upd_same, rfl, ?_⟩
        rw [upd_upd]
        refine q _ x (mkO_same nx nd) nx ⟨dx, ?_⟩
        rw [upd_same]
        have eL : tL ⟨f.table.reds - rgone k, upFrom (tL f.table), .colour⟩ = tL f.table := tL_up hl.1 (by omega) rfl
        show some (HO.ins A.Table.c dx (Table_fs _ _ _)) = some (HO.ins A.Table.c dx (Table_fs _ (V.int ((tL ⟨f.table.reds - rgone k, upFrom (tL f.table), .colour⟩ : Nat) : Int)) _))
        rw [eL]
        rfl
      | false =>
        have ne : ¬ (tO f.table = 1 ∧ 0 < Kg53.scored f k) := fun z => by
          have : (decide (tO f.table = 1) && decide (0 < Kg53.scored f k)) = true := by simp only [Bool.and_eq_true, decide_eq_true_eq]; exact z
          rw [this] at e1; cases e1
        rw [if_neg ne] at q
        refine iteF ?_
        dsimp only [gName, tNext]
        refine sIfA (decide (tO f.table = tL f.table)) (k.potted.contains (tL f.table)) (fun Q z => ⟨_, rfl, _, h.obj.table T, _, h.tab.on T, _, rfl, _, h.obj.table T, _, h.tab.lowest T, rfl, _, rfl, by rw [dI, decN]; exact z⟩)
          (fun _ Q z => ⟨_, rfl, _, h.obj.table T, _, h.tab.lowest T, _, rfl, _, h.obj.told T, _, h.told.obj.potted T, pa, _, rfl, .inl (SqL.of h.told.pot), rfl, flat_ints _, _, rfl, ?_⟩) ?_
        · show Q (inV _ _) H
          rw [inV_ints]
          exact z
        · cases e2 : (decide (tO f.table = tL f.table) && k.potted.contains (tL f.table)) with
          | true =>
            simp only [Bool.and_eq_true, decide_eq_true_eq, List.contains_iff_mem] at e2
            rw [if_pos e2] at q
            refine iteT ⟨_, rfl, _, rfl, _, h.obj.table T, _, h.tab.lowest T, _, _, rfl, rfl, ?_⟩
            exact ⟨f.table.reds - rgone k, tL f.table + 1, rfl, by omega, by omega, q⟩
          | false =>
            have ne2 : ¬ (tO f.table = tL f.table ∧ tL f.table ∈ k.potted) := fun z => by
              have : (decide (tO f.table = tL f.table) && k.potted.contains (tL f.table)) = true := by simp only [Bool.and_eq_true, decide_eq_true_eq, List.contains_iff_mem]; exact z
              rw [this] at e2; cases e2
            rw [if_neg ne2] at q
            refine iteF ⟨_, rfl, _, rfl, _, h.obj.table T, _, h.tab.lowest T, ?_⟩
            exact ⟨f.table.reds - rgone k, tL f.table, rfl, by omega, by omega, q⟩
theorem ok_Judgement_cost (T : Txt K mg A) : FnOk P w K mg base CX0 3 A.Judgement.cost.f A.Judgement.cost.fd ["self"] (spJ A Any fun f k => .int (Kg53.penalty f k : Nat)) := by
  refine T.Judgement.F_cost.ok sc_Judgement_cost (fun vs H Q E h => ?_) (fun cdv Ar outer s H vs Q E hr h => ?_)
  · obtain ⟨j, ka, pa, oa, ta, la, f, k, rfl, _⟩ := h; rfl
  · obtain ⟨j, ka, pa, oa, ta, la, f, k, rfl, h, jo, _, q⟩ := h
    have q : ∀ H', Same H H' → Q (.int (Kg53.penalty f k : Nat)) H' := q
    refine ⟨_, ((pss_cons (ps_set (i := 1) sc_Judgement_cost.nd rfl (by first | exact Or.inl rfl | exact Or.inr rfl) (pe_lst (pa_cons (pe_const T.k.c_LEAST_COST rfl) (pa_cons (pe_m0c (pv 0) T.Judgement.cl T.Judgement.t_worth_of_on (ok_Judgement_worth_of_on T) (hr.mono (by decide)) T.Judgement.b_worth_of_on .nil pass0) pa_nil))))
      (pss_cons (ps_expr (pe_bm PySem.F.plainAttrs_list PySem.F.slot_list_extend PySem.F.type_list_extend mt_extend (pv 1) (pa_cons (pe_m0c (pv 0) T.Judgement.cl T.Judgement.t_wrongly_potted (ok_Judgement_wrongly_potted T) (hr.mono (by decide)) T.Judgement.b_wrongly_potted .nil pass0) pa_nil)))
      (pss_cons (ps_expr (pe_bm PySem.F.plainAttrs_list PySem.F.slot_list_extend PySem.F.type_list_extend mt_extend (pv 1) (pa_cons (pe_f (pe_f (pv 0) rfl) rfl) pa_nil)))
      (pss_cons (ps_if (pt_not (pt_val (pe_m0c (pv 0) T.Judgement.cl T.Judgement.t_is_rightly_hit (ok_Judgement_is_rightly_hit T) (hr.mono (by decide)) T.Judgement.b_is_rightly_hit .nil pass0))) (pss_one (ps_expr (pe_bm PySem.F.plainAttrs_list PySem.F.slot_list_append PySem.F.type_list_append mt_append (pv 1) (pa_cons (pe_f (pe_f (pv 0) rfl) rfl) pa_nil)))) pss_nil)
      (pss_cons (ps_if (pt_cmpR op_ne (pe_f (pe_f (pv 0) rfl) rfl) (pe_const T.k.c_ABOUT_NO_BALL rfl) (nomark _)) (pss_one (ps_expr (pe_bm PySem.F.plainAttrs_list PySem.F.slot_list_append PySem.F.type_list_append mt_append (pv 1) (pa_cons (pe_f (pe_f (pv 0) rfl) rfl) pa_nil)))) pss_nil)
      (pss_one (ps_ret (pe_callB (cr_max rfl) rfl T.k.b_max boot_max (pa_cons (pv 1) pa_nil)))))))))), ?_⟩
    have hlp := h.told.lp
    have hlo := h.told.lo
    have hb : (Kg53.badPots f k).length ≤ 30 := Nat.le_trans (by rw [badPots_eq jo]; exact List.length_filter_le _ _) hlp
    have cat : ∀ a b : List Nat, (nints a).map V.int ++ (nints b).map V.int = (nints (a ++ b)).map V.int := fun a b => by rw [← List.map_append, ints_app]
    refine ⟨_, rfl, h.obj.o_worth_of_on, j, ka, pa, oa, ta, la, f, k, rfl, h, jo, trivial, (by show 2 ≤ sizeLine; decide), fun p hp => ?_⟩
    have up : ∀ (Hx : Hp) (o : HO), Same H Hx → Same H (upd Hx p o) := fun Hx o s b u e => by rw [upd_ne (ne_of_none e hp)]; exact s b u e
    have s1 : Same H (upd H p (.lst [.int 4, .int (Kg53.worth f k : Nat)])) := up _ _ (Same.refl H)
    -- the wrongly potted
    have h1 := h.mono s1
    refine ⟨_, rfl, .inl ⟨rfl, _, SqL.of upd_same⟩, _, rfl, h1.obj.o_wrongly_potted, j, ka, pa, oa, ta, la, f, k, rfl, h1, jo, fun H2 b s2 nb hb2 => ?_⟩
    refine ⟨p, b, _, _, rfl, rfl, s2 _ _ upd_same, hb2, (by rw [List.length_map, ints_len]; show 2 + _ ≤ _; exact sz60 (by omega)), ?_⟩
    have e1 : [V.int 4, V.int (Kg53.worth f k : Nat)] ++ (nints (Kg53.badPots f k)).map V.int = (nints ([4, Kg53.worth f k] ++ Kg53.badPots f k)).map V.int := cat [4, Kg53.worth f k] _
    rw [e1]
    have s3 := up H2 (.lst ((nints ([4, Kg53.worth f k] ++ Kg53.badPots f k)).map V.int)) (s1.trans s2)
    generalize hH3 : upd H2 p (.lst ((nints ([4, Kg53.worth f k] ++ Kg53.badPots f k)).map V.int)) = H3 at s3
    have p3 : H3 p = some (.lst ((nints ([4, Kg53.worth f k] ++ Kg53.badPots f k)).map V.int)) := by rw [← hH3, upd_same]
    -- those off the table
    have h3 := h.mono s3
    refine ⟨_, rfl, .inl ⟨rfl, _, SqL.of p3⟩, _, rfl, _, h3.obj.told T, _, h3.told.obj.off T, p, oa, _, _, rfl, rfl, p3, h3.told.off, ?_, ?_⟩
    · rw [List.length_map, List.length_map, ints_len, ints_len, List.length_append]
      show 2 + _ + _ ≤ _
      exact sz60 (by omega)
    rw [cat]
    have s4 := up H3 (.lst ((nints ([4, Kg53.worth f k] ++ Kg53.badPots f k ++ k.off)).map V.int)) s3
    generalize hH4 : upd H3 p (.lst ((nints ([4, Kg53.worth f k] ++ Kg53.badPots f k ++ k.off)).map V.int)) = H4 at s4
    have p4 : H4 p = some (.lst ((nints ([4, Kg53.worth f k] ++ Kg53.badPots f k ++ k.off)).map V.int)) := by rw [← hH4, upd_same]
    have l4 : ([4, Kg53.worth f k] ++ Kg53.badPots f k ++ k.off).length ≤ 62 := by rw [List.length_append, List.length_append]; show 2 + _ + _ ≤ _; omega
    generalize hL4 : [4, Kg53.worth f k] ++ Kg53.badPots f k ++ k.off = L4 at p4 l4
    -- the greatest
    have fin : ∀ (H6 : Hp), Same H H6 → H6 p = some (.lst ((nints (pCosts f k)).map V.int)) → (tRet (tCB (rMax K) (tCons (tVar 1) tNil))) { nx := fun _ H' => Q .non H', rt := Q } [some (.ref j), some (.ref p)] H6 := by
      intro H6 s6 p6
      have pm := penalty_max f k
      refine ⟨_, rfl, p, nints (pCosts f k), rfl, SqL.of p6, ?_, fun m hm hmax => ?_⟩
      · rw [ints_len]; exact List.length_pos_of_mem pm.1
      · have a1 : ((Kg53.penalty f k : Nat) : Int) ≤ m := hmax _ (List.mem_map.mpr ⟨_, pm.1, rfl⟩)
        have a2 : m ≤ ((Kg53.penalty f k : Nat) : Int) := by
          obtain ⟨y, hy, rfl⟩ := List.mem_map.mp hm
          have := pm.2 y hy
          omega
        have a3 : m = ((Kg53.penalty f k : Nat) : Int) := by omega
        rw [a3]
        exact q H6 s6
    -- conduct
    have con : ∀ (H5 : Hp) (L5 : List Nat), Same H H5 → L5.length ≤ 63 → H5 p = some (.lst ((nints L5).map V.int)) → L5 ++ (if k.conduct = 8 then [] else [k.conduct]) = pCosts f k →
        (tSeq (tIfS (tTest (tOp rNe (tF K (tF K (tVar 0) "told") "conduct") (tC (.int 8)))) (tDrop (tBM K "list" rAppend (tVar 1) (tCons (tF K (tF K (tVar 0) "told") "conduct") tNil))) tNext) (tRet (tCB (rMax K) (tCons (tVar 1) tNil)))) { nx := fun _ H' => Q .non H', rt := Q } [some (.ref j), some (.ref p)] H5 := by
      intro H5 L5 s5 l5 p5 e5
      have h5 := h.mono s5
      refine ⟨_, rfl, _, h5.obj.told T, _, h5.told.obj.conduct T, rfl, _, rfl, ?_⟩
      rw [dI]
      have d8 : decide (((k.conduct : Nat) : Int) = 8) = decide (k.conduct = 8) := decN k.conduct 8
      rw [d8]
      by_cases z : k.conduct = 8
      · rw [decide_eq_true z]
        rw [if_pos z, List.append_nil] at e5
        subst e5
        exact iteF (fin H5 s5 p5)
      · rw [decide_eq_false z]
        rw [if_neg z] at e5
        refine iteT ⟨_, rfl, .inl ⟨rfl, _, SqL.of p5⟩, _, rfl, _, h5.obj.told T, _, h5.told.obj.conduct T, p, _, _, rfl, rfl, p5, (by rw [List.length_map, ints_len]; exact small1000 (by omega)), ?_⟩
        have e6 : (nints L5).map V.int ++ [V.int (k.conduct : Nat)] = (nints (pCosts f k)).map V.int := by rw [← e5, ← cat]; rfl
        rw [e6]
        exact fin _ (up _ _ s5) upd_same
    have h4 := h.mono s4
    refine ⟨_, rfl, h4.obj.o_is_rightly_hit, j, ka, pa, oa, ta, la, f, k, rfl, h4, jo, trivial, _, rfl, ?_⟩
    have epc : pCosts f k = L4 ++ (if Kg53.mayHit f k = true then [] else [k.hit]) ++ (if k.conduct = 8 then [] else [k.conduct]) := by rw [← hL4]; rfl
    cases e : Kg53.mayHit f k with
    | true =>
      rw [e, if_pos rfl, List.append_nil] at epc
      exact iteF (con H4 L4 s4 (by omega) p4 epc.symm)
    | false =>
      rw [e, if_neg Bool.false_ne_true] at epc
      refine iteT ⟨_, rfl, .inl ⟨rfl, _, SqL.of p4⟩, _, rfl, _, h4.obj.told T, _, h4.told.obj.hit T, p, _, _, rfl, rfl, p4, (by rw [List.length_map, ints_len]; exact small1000 (by omega)), ?_⟩
      have e6 : (nints L4).map V.int ++ [V.int (k.hit : Nat)] = (nints (L4 ++ [k.hit])).map V.int := by rw [← cat]; rfl
      rw [e6]
      exact con _ (L4 ++ [k.hit]) (up _ _ s4) (by rw [List.length_append]; show _ + 1 ≤ _; omega) upd_same epc.symm
end
end Cue
end
section
set_option Elab.async false
set_option linter.all false
set_option maxRecDepth 100000
set_option autoImplicit false
set_option maxHeartbeats 4000000
namespace Cue
open PySem PySem.Spec PyProof.Rows L2
/-- all that was there but at a is as it was -/
def Kept (H H' : Hp) (a : Addr) : Prop := ∀ b o, H b = some o → b ≠ a → H' b = some o
theorem Kept.seq {K : PySem.W.Frag} {H H' : Hp} {a b C dx : Addr} {fs : List (Str × V)} {xs : List V} (k : Kept H H' a) (ha : H a = some (.ins C dx fs)) (h : SqL K H b xs) : SqL K H' b xs := by
  rcases h with (h | ⟨o, h⟩) | h
  · exact .inl (.inl (k _ _ h fun e => by subst e; rw [ha] at h; cases h))
  · exact .inl (.inr ⟨o, k _ _ h fun e => by subst e; rw [ha] at h; cases h⟩)
  · exact .inr h
structure RdAt (K : PySem.W.Frag) (A : Adr) (H : Hp) (a dx src : Addr) (l : List Int) (at_ : Nat) : Prop where
  obj : H a = some (.ins A.Reader.c dx (Reader_fs (.ref src) (.int at_)))
  src : SqL K H src (l.map V.int)
  le : at_ ≤ l.length
theorem RdAt.at' {K : PySem.W.Frag} {A : Adr} {H : Hp} {a dx src : Addr} {l : List Int} {n : Nat} (h : RdAt K A H a dx src l n) : ReaderAt A H a (.ref src) (.int n) := ⟨dx, h.obj⟩
theorem cut_nat (l : List Int) (i n : Nat) (h : i ≤ l.length) : cutV (l.map V.int) (some (i : Int)) (some ((i : Int) + (n : Int))) = ((l.drop i).take n).map V.int := by
  unfold cutV
  have e : ((i : Int) + (n : Int)) = ((i + n : Nat) : Int) := by omega
  rw [e, HT.sIx_nat, HT.sIx_nat, List.length_map, ← List.map_drop, ← List.map_take]
  congr 1
  have e1 : min i l.length = i := Nat.min_eq_left h
  rw [e1]
  have e2 : min (i + n) l.length - i = min n (l.length - i) := by omega
  rw [e2]
  have e3 : (l.drop i).length = l.length - i := List.length_drop
  rw [← e3]
  exact List.take_eq_take_min.symm
def sp_Reader_init (A : Adr) : Sp := fun vs H Q _ => ∃ (p dx : Addr) (sv : V), vs = [.ref p, sv] ∧ H p = some (.ins A.Reader.c dx []) ∧ Q .non (upd H p (.ins A.Reader.c dx (Reader_fs sv (.int 0))))
def sp_is_at_end (K : PySem.W.Frag) (A : Adr) : Sp := fun vs H Q _ => ∃ (a dx src : Addr) (l : List Int) (i : Nat), vs = [.ref a] ∧ RdAt K A H a dx src l i ∧ Q (.bl (decide (l.length ≤ i))) H
def sp_take_numbers (K : PySem.W.Frag) (A : Adr) : Sp := fun vs H Q _ => ∃ (a dx src : Addr) (l : List Int) (i n : Nat), vs = [.ref a, .int n] ∧ RdAt K A H a dx src l i ∧ i + n ≤ l.length ∧
  ∀ (H' : Hp) (p : Addr), Kept H H' a → H p = none → H' p = some (.lst (((l.drop i).take n).map V.int)) → RdAt K A H' a dx src l (i + n) → Q (.ref p) H'
def sp_take_number (K : PySem.W.Frag) (A : Adr) : Sp := fun vs H Q _ => ∃ (a dx src : Addr) (l : List Int) (i : Nat) (z : Int), vs = [.ref a] ∧ RdAt K A H a dx src l i ∧ l[i]? = some z ∧
  ∀ (H' : Hp), Kept H H' a → RdAt K A H' a dx src l (i + 1) → Q (.int z) H'
def sp_take_row (K : PySem.W.Frag) (A : Adr) : Sp := fun vs H Q _ => ∃ (a dx src : Addr) (l : List Int) (i n : Nat), vs = [.ref a] ∧ RdAt K A H a dx src l i ∧ l[i]? = some (n : Int) ∧ i + 1 + n ≤ l.length ∧
  ∀ (H' : Hp) (p : Addr), Kept H H' a → H p = none → H' p = some (.lst (((l.drop (i + 1)).take n).map V.int)) → RdAt K A H' a dx src l (i + 1 + n) → Q (.ref p) H'
section
variable {P : Program} {w : World} {K : PySem.W.Frag} {mg : Str → Option Value} {base : Heap} {A : Adr}
theorem ok_Reader_init (T : Txt K mg A) : FnOk P w K mg base CX0 1 A.Reader.init.f A.Reader.init.fd ["self", "source"] (sp_Reader_init A) := by
  refine T.Reader.F_init.ok sc_Reader_init (fun vs H Q E h => ?_) (fun cdv Ar outer s H vs Q E hr h => ?_)
  · obtain ⟨p, dx, sv, rfl, _⟩ := h; rfl
  · obtain ⟨p, dx, sv, rfl, hp, k⟩ := h
    refine ⟨_, ((pss_cons (ps_fs (pv 0) (pv 1) rfl)
      (pss_one (ps_fs (pv 0) pe_int rfl)))), ?_⟩
    refine ⟨_, rfl, _, rfl, p, _, dx, _, rfl, hp, ⟨T.Reader.cl, T.Reader.na_source, (by decide)⟩, ?_⟩
    refine ⟨_, rfl, p, _, dx, _, rfl, upd_same, ⟨T.Reader.cl, T.Reader.na_at, Reader_l1 _⟩, ?_⟩
    rw [upd_upd, Reader_mk]
    exact k
theorem ok_Reader_is_at_end (T : Txt K mg A) : FnOk P w K mg base CX0 1 A.Reader.is_at_end.f A.Reader.is_at_end.fd ["self"] (sp_is_at_end K A) := by
  refine T.Reader.F_is_at_end.ok sc_Reader_is_at_end (fun vs H Q E h => ?_) (fun cdv Ar outer s H vs Q E hr h => ?_)
  · obtain ⟨a, dx, src, l, i, rfl, _⟩ := h; rfl
  · obtain ⟨a, dx, src, l, i, rfl, h, k⟩ := h
    refine ⟨_, ((pss_one (ps_ret (pe_cmpR op_ge (pe_f (pv 0) rfl) (pe_callB call_len_seq rfl T.k.b_len boot_len (pa_cons (pe_f (pv 0) rfl) pa_nil)) (nomark _))))), ?_⟩
    refine ⟨_, rfl, _, h.at'.at T, _, rfl, _, h.at'.source T, src, _, rfl, .inl h.src, _, _, rfl, rfl, ?_⟩
    have e : decide ((((l.map V.int).length : Nat) : Int) ≤ ((i : Nat) : Int)) = decide (l.length ≤ i) := by
      rw [List.length_map]
      by_cases z : l.length ≤ i
      · rw [decide_eq_true z, decide_eq_true (by omega)]
      · rw [decide_eq_false z, decide_eq_false (by omega)]
    show Q (.bl (decide ((((l.map V.int).length : Nat) : Int) ≤ ((i : Nat) : Int)))) H
    rw [e]
    exact k
theorem ok_Reader_take_numbers (T : Txt K mg A) : FnOk P w K mg base CX0 1 A.Reader.take_numbers.f A.Reader.take_numbers.fd ["self", "how_many"] (sp_take_numbers K A) := by
  refine T.Reader.F_take_numbers.ok sc_Reader_take_numbers (fun vs H Q E h => ?_) (fun cdv Ar outer s H vs Q E hr h => ?_)
  · obtain ⟨a, dx, src, l, i, n, rfl, _⟩ := h; rfl
  · obtain ⟨a, dx, src, l, i, n, rfl, h, hle, k⟩ := h
    refine ⟨_, ((pss_cons (ps_set (i := 2) sc_Reader_take_numbers.nd rfl (by first | exact Or.inl rfl | exact Or.inr rfl) (pe_slice sl_list (pe_f (pv 0) rfl) (po_some (pe_f (pv 0) rfl)) (po_some (pe_op op_add (pe_f (pv 0) rfl) (pv 1)))))
      (pss_cons (ps_fldaug (pv 0) (pv 1) in_add)
      (pss_one (ps_ret (pv 2)))))), ?_⟩
    refine ⟨_, rfl, _, h.at'.source T, _, rfl, _, h.at'.at T, _, rfl, _, rfl, _, h.at'.at T, _, rfl, _, _, rfl, rfl, _, rfl, src, _, rfl, h.src, fun p hp => ?_⟩
    rw [cut_nat l i n h.le]
    have nap : a ≠ p := ne_of_none h.obj hp
    have ha : upd H p (.lst (((l.drop i).take n).map V.int)) a = some (.ins A.Reader.c dx (Reader_fs (.ref src) (.int i))) := by rw [upd_ne nap]; exact h.obj
    refine ⟨_, rfl, a, _, dx, _, _, rfl, ha, T.Reader.cl, T.Reader.na_at, Reader_g_at _ _, _, rfl, _, _, rfl, rfl, dx, _, ha, Reader_len _ _, ?_⟩
    rw [Reader_p_at]
    have kp : Kept H (upd (upd H p (.lst (((l.drop i).take n).map V.int))) a (.ins A.Reader.c dx (Reader_fs (.ref src) (.int ((i : Int) + (n : Int)))))) a := fun b o e hb => by
      rw [upd_ne hb, upd_ne (ne_of_none e hp)]; exact e
    refine ⟨_, rfl, k _ p kp hp (by rw [upd_ne (Ne.symm nap), upd_same]) ⟨?_, kp.seq h.obj h.src, hle⟩⟩
    rw [upd_same]
    have e : ((i : Int) + (n : Int)) = ((i + n : Nat) : Int) := by omega
    rw [e]
theorem ok_Reader_take_number (T : Txt K mg A) : FnOk P w K mg base CX0 2 A.Reader.take_number.f A.Reader.take_number.fd ["self"] (sp_take_number K A) := by
  refine T.Reader.F_take_number.ok sc_Reader_take_number (fun vs H Q E h => ?_) (fun cdv Ar outer s H vs Q E hr h => ?_)
  · obtain ⟨a, dx, src, l, i, z, rfl, _⟩ := h; rfl
  · obtain ⟨a, dx, src, l, i, z, rfl, h, hz, k⟩ := h
    refine ⟨_, ((pss_one (ps_ret (pe_ix ix_list (pe_mc (pv 0) T.Reader.cl T.Reader.t_take_numbers (ok_Reader_take_numbers T) (hr.mono (by decide)) T.Reader.b_take_numbers .nil pass0 (pa_cons pe_int pa_nil)) pe_int (fun _ _ => rfl))))), ?_⟩
    have hlt : i < l.length := (List.getElem?_eq_some_iff.mp hz).1
    refine ⟨_, rfl, h.at'.o_take_numbers, a, dx, src, l, i, 1, rfl, h, hlt, fun H' p kp hp hp' h' => ?_⟩
    have e : (l.drop i).take 1 = [z] := by
      rw [List.take_one]
      have : (l.drop i)[0]? = some z := by rw [List.getElem?_drop]; exact hz
      rw [List.head?_eq_getElem?, this]; rfl
    rw [e] at hp'
    exact ⟨p, _, _, _, rfl, rfl, SqL.of hp', rfl, k H' kp h'⟩
theorem ok_Reader_take_row (T : Txt K mg A) : FnOk P w K mg base CX0 3 A.Reader.take_row.f A.Reader.take_row.fd ["self"] (sp_take_row K A) := by
  refine T.Reader.F_take_row.ok sc_Reader_take_row (fun vs H Q E h => ?_) (fun cdv Ar outer s H vs Q E hr h => ?_)
  · obtain ⟨a, dx, src, l, i, n, rfl, _⟩ := h; rfl
  · obtain ⟨a, dx, src, l, i, n, rfl, h, hz, hle, k⟩ := h
    refine ⟨_, ((pss_one (ps_ret (pe_mc (pv 0) T.Reader.cl T.Reader.t_take_numbers (ok_Reader_take_numbers T) (hr.mono (by decide)) T.Reader.b_take_numbers .nil pass0 (pa_cons (pe_m0c (pv 0) T.Reader.cl T.Reader.t_take_number (ok_Reader_take_number T) (hr.mono (by decide)) T.Reader.b_take_number .nil pass0) pa_nil))))), ?_⟩
    refine ⟨_, rfl, h.at'.o_take_numbers, _, rfl, h.at'.o_take_number, a, dx, src, l, i, n, rfl, h, hz, fun H1 kp1 h1 => ?_⟩
    refine ⟨a, dx, src, l, i + 1, n, rfl, h1, hle, fun H' p kp hp hp' h' => ?_⟩
    have kp2 : Kept H H' a := fun b o e hb => kp b o (kp1 b o e hb) hb
    have hp0 : H p = none := by
      cases e : H p with
      | none => rfl
      | some o =>
        by_cases hb : p = a
        · subst hb; rw [h1.obj] at hp; cases hp
        · rw [kp1 p o e hb] at hp; cases hp
    exact k H' p kp2 hp0 hp' h'
end
end Cue
end
section
set_option Elab.async false
set_option linter.all false
set_option maxRecDepth 100000
set_option autoImplicit false
set_option maxHeartbeats 4000000
namespace Cue
open PySem PySem.Spec PyProof.Rows L2
/-! ### a frame on the heap -/
def pl (p : Kg53.Pair) : List V := [.int p.a, .int p.b]
abbrev fFs (pa ha ba ta tb : Addr) (f : PF) : List (Str × V) :=
  Frame_fs (.ref pa) (.int f.turn) (.ref ta) (.int f.winner) (.int f.how) (.int f.brk) (.ref ha) (.ref ba) (.int f.misses) (.ref tb) (.int f.mback) (.bl f.free) (.bl f.again) (.bl f.back)
structure FA where
  a : Addr
  dx : Addr
  pa : Addr
  ha : Addr
  ba : Addr
structure PFAt (A : Adr) (H : Hp) (x : FA) (ta tb : Addr) (f : PF) : Prop where
  obj : H x.a = some (.ins A.Frame.c x.dx (fFs x.pa x.ha x.ba ta tb f))
  pts : H x.pa = some (.lst (pl f.pts))
  high : H x.ha = some (.lst (pl f.high))
  big : H x.ba = some (.lst (pl f.big))
  tab : TabAt A H ta f.table
  tbk : TabAt A H tb f.tback
  n1 : x.pa ≠ x.ha
  n2 : x.pa ≠ x.ba
  n3 : x.ha ≠ x.ba
def FAt (A : Adr) (H : Hp) (x : FA) (f : PF) : Prop := ∃ ta tb, PFAt A H x ta tb f
def IsTab (A : Adr) (o : HO) : Prop := ∃ dx r l n, o = .ins A.Table.c dx (Table_fs r l n)
def FA.has (x : FA) (b : Addr) : Prop := b = x.a ∨ b = x.pa ∨ b = x.ha ∨ b = x.ba
/-- all that was there stays, but the frame's own objects; tables always -/
def KF (A : Adr) (x : FA) (H H' : Hp) : Prop := ∀ b o, H b = some o → (¬ x.has b ∨ IsTab A o) → H' b = some o
theorem tabFrame_ne {C C' d d' : Addr} {r l n : V} {pa ha ba ta tb : Addr} {f : PF} : HO.ins C d (Table_fs r l n) ≠ HO.ins C' d' (fFs pa ha ba ta tb f) := fun e => by
  injection e with _ _ e
  exact absurd (show (3 : Nat) = 14 from congrArg List.length e) (by decide)
section
variable {A : Adr} {H H' H1 H2 : Hp} {x : FA} {ta tb : Addr} {f : PF}
theorem PFAt.at_ (h : PFAt A H x ta tb f) : FrameAt A H x.a (.ref x.pa) (.int f.turn) (.ref ta) (.int f.winner) (.int f.how) (.int f.brk) (.ref x.ha) (.ref x.ba) (.int f.misses) (.ref tb) (.int f.mback) (.bl f.free) (.bl f.again) (.bl f.back) := ⟨x.dx, h.obj⟩
theorem KF.refl : KF A x H H := fun _ _ e _ => e
theorem KF.trans (a : KF A x H H1) (b : KF A x H1 H2) : KF A x H H2 := fun c o e q => b c o (a c o e q) q
theorem KF.same (a : Same H H1) : KF A x H H1 := fun c o e _ => a c o e
theorem KF.tab {t : Addr} {T : Kg53.Table} (k : KF A x H H1) (h : TabAt A H t T) : TabAt A H1 t T := let ⟨d, e⟩ := h; ⟨d, k _ _ e (.inr ⟨d, _, _, _, rfl⟩)⟩
theorem KF.out {b : Addr} {o : HO} (k : KF A x H H1) (e : H b = some o) (n : ¬ x.has b) : H1 b = some o := k b o e (.inl n)
theorem TabAt.ne_lst {t b : Addr} {T : Kg53.Table} {l : List V} (h : TabAt A H t T) (e : H b = some (.lst l)) : t ≠ b := let ⟨_, q⟩ := h; ne_of q e (by intro z; cases z)
theorem TabAt.ne_fr {t b C d : Addr} {T : Kg53.Table} {pa ha ba ta tb : Addr} {f : PF} (h : TabAt A H t T) (e : H b = some (.ins C d (fFs pa ha ba ta tb f))) : t ≠ b := let ⟨_, q⟩ := h; ne_of q e tabFrame_ne
theorem TabAt.upd {t b : Addr} {T : Kg53.Table} {o : HO} (h : TabAt A H t T) (n : t ≠ b) : TabAt A (upd H b o) t T := let ⟨d, q⟩ := h; ⟨d, by rw [upd_ne n]; exact q⟩
theorem PFAt.ap (h : PFAt A H x ta tb f) : x.a ≠ x.pa := ne_of h.obj h.pts (by intro z; cases z)
theorem PFAt.ah (h : PFAt A H x ta tb f) : x.a ≠ x.ha := ne_of h.obj h.high (by intro z; cases z)
theorem PFAt.ab (h : PFAt A H x ta tb f) : x.a ≠ x.ba := ne_of h.obj h.big (by intro z; cases z)
theorem PFAt.put (h : PFAt A H x ta tb f) (g : PF) (ta' tb' : Addr) (e : g.pts = f.pts) (e2 : g.high = f.high) (e3 : g.big = f.big) (t1 : TabAt A H ta' g.table) (t2 : TabAt A H tb' g.tback) :
    PFAt A (upd H x.a (.ins A.Frame.c x.dx (fFs x.pa x.ha x.ba ta' tb' g))) x ta' tb' g :=
  ⟨upd_same, by rw [upd_ne (Ne.symm h.ap), e]; exact h.pts, by rw [upd_ne (Ne.symm h.ah), e2]; exact h.high, by rw [upd_ne (Ne.symm h.ab), e3]; exact h.big, t1.upd (t1.ne_fr h.obj), t2.upd (t2.ne_fr h.obj), h.n1, h.n2, h.n3⟩
theorem kf_upd {b : Addr} {o o' : HO} (e : H b = some o) (n : ¬ IsTab A o) (m : x.has b) : KF A x H (upd H b o') := fun c u q z => by
  have hc : c ≠ b := fun ec => by
    subst ec
    rw [e] at q
    cases q
    rcases z with z | z
    · exact z m
    · exact n z
  rw [upd_ne hc]
  exact q
theorem lst_notTab {l : List V} : ¬ IsTab A (.lst l) := fun ⟨_, _, _, _, e⟩ => by cases e
theorem fr_notTab {C d pa ha ba ta tb : Addr} {f : PF} : ¬ IsTab A (.ins C d (fFs pa ha ba ta tb f)) := fun ⟨_, _, _, _, e⟩ => tabFrame_ne e.symm
theorem PFAt.kf (h : PFAt A H x ta tb f) (o : HO) : KF A x H (upd H x.a o) := kf_upd h.obj fr_notTab (.inl rfl)
theorem st_pts (h : PFAt A H x ta tb f) (q : Kg53.Pair) : ∃ H1, upd H x.pa (.lst (pl q)) = H1 ∧ KF A x H H1 ∧ PFAt A H1 x ta tb { f with pts := q } :=
  ⟨_, rfl, kf_upd h.pts lst_notTab (.inr (.inl rfl)), ⟨by rw [upd_ne h.ap]; exact h.obj, upd_same, by rw [upd_ne (Ne.symm h.n1)]; exact h.high, by rw [upd_ne (Ne.symm h.n2)]; exact h.big, h.tab.upd (h.tab.ne_lst h.pts), h.tbk.upd (h.tbk.ne_lst h.pts), h.n1, h.n2, h.n3⟩⟩
theorem st_high (h : PFAt A H x ta tb f) (q : Kg53.Pair) : ∃ H1, upd H x.ha (.lst (pl q)) = H1 ∧ KF A x H H1 ∧ PFAt A H1 x ta tb { f with high := q } :=
  ⟨_, rfl, kf_upd h.high lst_notTab (.inr (.inr (.inl rfl))), ⟨by rw [upd_ne h.ah]; exact h.obj, by rw [upd_ne h.n1]; exact h.pts, upd_same, by rw [upd_ne (Ne.symm h.n3)]; exact h.big, h.tab.upd (h.tab.ne_lst h.high), h.tbk.upd (h.tbk.ne_lst h.high), h.n1, h.n2, h.n3⟩⟩
theorem st_big (h : PFAt A H x ta tb f) (q : Kg53.Pair) : ∃ H1, upd H x.ba (.lst (pl q)) = H1 ∧ KF A x H H1 ∧ PFAt A H1 x ta tb { f with big := q } :=
  ⟨_, rfl, kf_upd h.big lst_notTab (.inr (.inr (.inr rfl))), ⟨by rw [upd_ne h.ab]; exact h.obj, by rw [upd_ne h.n2]; exact h.pts, by rw [upd_ne h.n3]; exact h.high, upd_same, h.tab.upd (h.tab.ne_lst h.big), h.tbk.upd (h.tbk.ne_lst h.big), h.n1, h.n2, h.n3⟩⟩
theorem PFAt.keep (h : PFAt A H x ta tb f) (k : Same H H1) : PFAt A H1 x ta tb f := ⟨k _ _ h.obj, k _ _ h.pts, k _ _ h.high, k _ _ h.big, h.tab.mono k, h.tbk.mono k, h.n1, h.n2, h.n3⟩
theorem KF.free (k : KF A x H H1) (h : PFAt A H1 x ta tb f) {l : Addr} (hl : H1 l = none) : H l = none := by
  cases z : H l with
  | none => rfl
  | some o =>
    exfalso
    by_cases w : x.has l
    · rcases w with w | w | w | w
      · rw [w, h.obj] at hl; cases hl
      · rw [w, h.pts] at hl; cases hl
      · rw [w, h.high] at hl; cases hl
      · rw [w, h.big] at hl; cases hl
    · rw [k.out z w] at hl; cases hl
/-! the pairs -/
theorem w01 {w : Nat} (h : w ≤ 1) : w = 0 ∨ w = 1 := by omega
theorem pl_at {q : Kg53.Pair} {w : Nat} (h : w ≤ 1) : atI (pl q) ((w : Nat) : Int) = some (.int ((q.of w : Nat) : Int)) := by
  rcases w01 h with rfl | rfl
  · exact atI_nat (j := 0) rfl
  · exact atI_nat (j := 1) rfl
theorem pl_ix {q : Kg53.Pair} {w : Nat} (h : w ≤ 1) : ixN (pl q).length ((w : Nat) : Int) = some w := by
  rcases w01 h with rfl | rfl <;> rfl
theorem pl_set {q : Kg53.Pair} {w n : Nat} (h : w ≤ 1) : (pl q).set w (.int (((q.of w : Nat) : Int) + ((n : Nat) : Int))) = pl (q.add w n) := by
  rcases w01 h with rfl | rfl <;> rfl
theorem pl_most {q : Kg53.Pair} {w n : Nat} (h : w ≤ 1) : (pl q).set w (.int ((max (q.of w) n : Nat) : Int)) = pl (q.most w n) := by
  rcases w01 h with rfl | rfl <;> rfl
theorem pl_at0 {q : Kg53.Pair} : atI (pl q) 0 = some (.int ((q.a : Nat) : Int)) := atI_nat (j := 0) rfl
theorem pl_at1 {q : Kg53.Pair} : atI (pl q) 1 = some (.int ((q.b : Nat) : Int)) := atI_nat (j := 1) rfl
theorem st_turn (h : PFAt A H x ta tb f) (w : Nat) : ∃ H1, upd H x.a (.ins A.Frame.c x.dx (putF "turn" (.int w) (fFs x.pa x.ha x.ba ta tb f))) = H1 ∧ KF A x H H1 ∧ PFAt A H1 x ta tb { f with turn := w } :=
  ⟨_, rfl, h.kf _, by rw [Frame_p_turn]; exact h.put { f with turn := w } ta tb rfl rfl rfl h.tab h.tbk⟩
theorem st_winner (h : PFAt A H x ta tb f) (w : Nat) : ∃ H1, upd H x.a (.ins A.Frame.c x.dx (putF "winner" (.int w) (fFs x.pa x.ha x.ba ta tb f))) = H1 ∧ KF A x H H1 ∧ PFAt A H1 x ta tb { f with winner := w } :=
  ⟨_, rfl, h.kf _, by rw [Frame_p_winner]; exact h.put { f with winner := w } ta tb rfl rfl rfl h.tab h.tbk⟩
theorem st_how (h : PFAt A H x ta tb f) (w : Nat) : ∃ H1, upd H x.a (.ins A.Frame.c x.dx (putF "how" (.int w) (fFs x.pa x.ha x.ba ta tb f))) = H1 ∧ KF A x H H1 ∧ PFAt A H1 x ta tb { f with how := w } :=
  ⟨_, rfl, h.kf _, by rw [Frame_p_how]; exact h.put { f with how := w } ta tb rfl rfl rfl h.tab h.tbk⟩
theorem st_break_so_far (h : PFAt A H x ta tb f) (w : Nat) : ∃ H1, upd H x.a (.ins A.Frame.c x.dx (putF "break_so_far" (.int w) (fFs x.pa x.ha x.ba ta tb f))) = H1 ∧ KF A x H H1 ∧ PFAt A H1 x ta tb { f with brk := w } :=
  ⟨_, rfl, h.kf _, by rw [Frame_p_break_so_far]; exact h.put { f with brk := w } ta tb rfl rfl rfl h.tab h.tbk⟩
theorem st_misses (h : PFAt A H x ta tb f) (w : Nat) : ∃ H1, upd H x.a (.ins A.Frame.c x.dx (putF "misses" (.int w) (fFs x.pa x.ha x.ba ta tb f))) = H1 ∧ KF A x H H1 ∧ PFAt A H1 x ta tb { f with misses := w } :=
  ⟨_, rfl, h.kf _, by rw [Frame_p_misses]; exact h.put { f with misses := w } ta tb rfl rfl rfl h.tab h.tbk⟩
theorem st_misses_if_back (h : PFAt A H x ta tb f) (w : Nat) : ∃ H1, upd H x.a (.ins A.Frame.c x.dx (putF "misses_if_back" (.int w) (fFs x.pa x.ha x.ba ta tb f))) = H1 ∧ KF A x H H1 ∧ PFAt A H1 x ta tb { f with mback := w } :=
  ⟨_, rfl, h.kf _, by rw [Frame_p_misses_if_back]; exact h.put { f with mback := w } ta tb rfl rfl rfl h.tab h.tbk⟩
theorem st_may_name_free (h : PFAt A H x ta tb f) (w : Bool) : ∃ H1, upd H x.a (.ins A.Frame.c x.dx (putF "may_name_free" (.bl w) (fFs x.pa x.ha x.ba ta tb f))) = H1 ∧ KF A x H H1 ∧ PFAt A H1 x ta tb { f with free := w } :=
  ⟨_, rfl, h.kf _, by rw [Frame_p_may_name_free]; exact h.put { f with free := w } ta tb rfl rfl rfl h.tab h.tbk⟩
theorem st_may_again (h : PFAt A H x ta tb f) (w : Bool) : ∃ H1, upd H x.a (.ins A.Frame.c x.dx (putF "may_again" (.bl w) (fFs x.pa x.ha x.ba ta tb f))) = H1 ∧ KF A x H H1 ∧ PFAt A H1 x ta tb { f with again := w } :=
  ⟨_, rfl, h.kf _, by rw [Frame_p_may_again]; exact h.put { f with again := w } ta tb rfl rfl rfl h.tab h.tbk⟩
theorem st_may_back (h : PFAt A H x ta tb f) (w : Bool) : ∃ H1, upd H x.a (.ins A.Frame.c x.dx (putF "may_back" (.bl w) (fFs x.pa x.ha x.ba ta tb f))) = H1 ∧ KF A x H H1 ∧ PFAt A H1 x ta tb { f with back := w } :=
  ⟨_, rfl, h.kf _, by rw [Frame_p_may_back]; exact h.put { f with back := w } ta tb rfl rfl rfl h.tab h.tbk⟩
theorem st_table (h : PFAt A H x ta tb f) {t : Kg53.Table} {t1 : Addr} (ht : TabAt A H t1 t) : ∃ H1, upd H x.a (.ins A.Frame.c x.dx (putF "table" (.ref t1) (fFs x.pa x.ha x.ba ta tb f))) = H1 ∧ KF A x H H1 ∧ PFAt A H1 x t1 tb { f with table := t } :=
  ⟨_, rfl, h.kf _, by rw [Frame_p_table]; exact h.put { f with table := t } t1 tb rfl rfl rfl ht h.tbk⟩
theorem st_table_if_back (h : PFAt A H x ta tb f) {t : Kg53.Table} {t1 : Addr} (ht : TabAt A H t1 t) : ∃ H1, upd H x.a (.ins A.Frame.c x.dx (putF "table_if_back" (.ref t1) (fFs x.pa x.ha x.ba ta tb f))) = H1 ∧ KF A x H H1 ∧ PFAt A H1 x ta t1 { f with tback := t } :=
  ⟨_, rfl, h.kf _, by rw [Frame_p_table_if_back]; exact h.put { f with tback := t } ta t1 rfl rfl rfl h.tab ht⟩
end
/-! ### promises -/
def spF (A : Adr) (as : List V) (ok : PF → Prop) (r : PF → PF) (v : PF → V) : Sp := fun vs H Q _ => ∃ (x : FA) (f : PF), vs = .ref x.a :: as ∧ FAt A H x f ∧ ok f ∧ ∀ H', KF A x H H' → FAt A H' x (r f) → Q (v f) H'
def T1 (f : PF) : Prop := f.turn ≤ 1
def Tok (f : PF) : Prop := TOk f.table
def AnyF (_ : PF) : Prop := True
def nonF (_ : PF) : V := .non
def sp_close0 (A : Adr) : Sp := fun vs H Q _ => ∃ (p dx : Addr) (fs : List (Str × V)), vs = [.ref p] ∧ H p = some (.ins A.Frame.c dx fs) ∧ fs.length < 998 ∧
  Q .non (upd H p (.ins A.Frame.c dx (putF "may_back" (.bl false) (putF "may_again" (.bl false) (putF "may_name_free" (.bl false) fs)))))
def sp_reach (A : Adr) : Sp := fun vs H Q _ => ∃ (x : FA) (f : PF), vs = [.ref x.a] ∧ FAt A H x f ∧ TOk f.table ∧ ∀ H', Same H H' → Q (.bl f.reach) H'
def sp_win (A : Adr) : Sp := fun vs H Q E => ∃ w h : Nat, spF A [.int w, .int h] AnyF (fun f => f.win w h) nonF vs H Q E
def sp_count (A : Adr) : Sp := fun vs H Q E => ∃ b : Bool, spF A [.bl b] AnyF (fun f => f.count b) nonF vs H Q E
def sp_toss (A : Adr) : Sp := fun vs H Q E => ∃ w : Nat, spF A [.int w] AnyF (fun f => { f with turn := w }) nonF vs H Q E
def sp_open (A : Adr) : Sp := fun vs H Q E => ∃ (ka pa oa : Addr) (k : Kg53.Stroke) (c : Bool), KAt A H ka pa oa k ∧ spF A [.ref ka, .bl c] AnyF (fun f => f.opn k.hidden c) nonF vs H Q E
theorem hid1 (b : Bool) : decide (V.int (hid b) = V.int 1) = b := by
  cases b <;> decide
section
variable {P : Program} {w : World} {K : PySem.W.Frag} {mg : Str → Option Value} {base : Heap} {A : Adr}
theorem putF_len (g : Str) (v : V) : ∀ fs : List (Str × V), (putF g v fs).length ≤ fs.length + 1
  | [] => Nat.le_refl _
  | (h, y) :: r => by
    unfold putF
    split
    · exact Nat.le_succ _
    · exact Nat.succ_le_succ (putF_len g v r)
theorem ok_Frame_close_choices0 (T : Txt K mg A) : FnOk P w K mg base CX0 1 A.Frame.close_choices.f A.Frame.close_choices.fd ["self"] (sp_close0 A) := by
  refine T.Frame.F_close_choices.ok sc_Frame_close_choices (fun vs H Q E h => ?_) (fun cdv Ar outer s H vs Q E hr h => ?_)
  · obtain ⟨p, dx, fs, rfl, _⟩ := h; rfl
  · obtain ⟨p, dx, fs, rfl, hp, hl, q⟩ := h
    refine ⟨_, ((pss_cons (ps_fs (pv 0) pe_bl rfl)
      (pss_cons (ps_fs (pv 0) pe_bl rfl)
      (pss_one (ps_fs (pv 0) pe_bl rfl))))), ?_⟩
    have l1 := putF_len "may_name_free" (.bl false) fs
    have l2 := putF_len "may_again" (.bl false) (putF "may_name_free" (.bl false) fs)
    refine ⟨_, rfl, p, _, dx, _, rfl, hp, ⟨T.Frame.cl, T.Frame.na_may_name_free, by omega⟩, ?_⟩
    refine ⟨_, rfl, p, _, dx, _, rfl, upd_same, ⟨T.Frame.cl, T.Frame.na_may_again, by omega⟩, ?_⟩
    rw [upd_upd]
    refine ⟨_, rfl, p, _, dx, _, rfl, upd_same, ⟨T.Frame.cl, T.Frame.na_may_back, by omega⟩, ?_⟩
    rw [upd_upd]
    exact q
theorem ok_Frame_close_choices (T : Txt K mg A) : FnOk P w K mg base CX0 1 A.Frame.close_choices.f A.Frame.close_choices.fd ["self"] (spF A [] AnyF PF.close nonF) := by
  refine (ok_Frame_close_choices0 T).imp fun vs H Q E h => ?_
  obtain ⟨x, f, rfl, ⟨ta, tb, h⟩, _, q⟩ := h
  refine ⟨x.a, x.dx, _, rfl, h.obj, by show (14 : Nat) < 998; decide, ?_⟩
  rw [Frame_p_may_name_free, Frame_p_may_again, Frame_p_may_back]
  exact q _ (h.kf _) ⟨ta, tb, h.put f.close ta tb rfl rfl rfl h.tab h.tbk⟩
theorem ok_Frame_end_break (T : Txt K mg A) : FnOk P w K mg base CX0 1 A.Frame.end_break.f A.Frame.end_break.fd ["self"] (spF A [] T1 PF.endBreak nonF) := by
  refine T.Frame.F_end_break.ok sc_Frame_end_break (fun vs H Q E h => ?_) (fun cdv Ar outer s H vs Q E hr h => ?_)
  · obtain ⟨x, f, rfl, _⟩ := h; rfl
  · obtain ⟨x, f, rfl, ⟨ta, tb, h⟩, ht, q⟩ := h
    have ht : f.turn ≤ 1 := ht
    refine ⟨_, ((pss_cons (ps_set (i := 1) sc_Frame_end_break.nd rfl (by first | exact Or.inl rfl | exact Or.inr rfl) (pe_f (pv 0) rfl))
      (pss_cons (ps_asg (pe_callB (call_max2 rfl) rfl T.k.b_max boot_max (pa_cons (pe_ix ix_list (pe_f (pv 0) rfl) (pv 1) (fun _ _ => rfl)) (pa_cons (pe_f (pv 0) rfl) pa_nil))) (pg_sub (pe_f (pv 0) rfl) (pv 1) set_list))
      (pss_cons (ps_if (pt_cmpR op_ge (pe_f (pv 0) rfl) (pe_const T.k.c_BIG_BREAK rfl) (nomark _)) (pss_one (ps_augS (pe_f (pv 0) rfl) (pv 1) get_list pe_int ip_add set_list)) pss_nil)
      (pss_one (ps_fs (pv 0) pe_int rfl)))))), ?_⟩
    refine ⟨_, rfl, _, h.at_.turn T, ?_⟩
    refine ⟨_, rfl, _, h.at_.highest_breaks T, _, rfl, x.ha, pl f.high, _, _, rfl, rfl, SqL.of h.high, pl_at ht, _, rfl, _, h.at_.break_so_far T, _, _, rfl, ?_⟩
    rw [max2_eq]
    refine ⟨_, rfl, _, h.at_.highest_breaks T, _, rfl, x.ha, pl f.high, _, f.turn, rfl, rfl, h.high, pl_ix ht, ?_⟩
    rw [pl_most ht]
    obtain ⟨H1, e1, k1, h1⟩ := st_high h (f.high.most f.turn f.brk)
    rw [e1]
    have fin : ∀ (H2 : Hp) (b : Kg53.Pair), KF A x H H2 → PFAt A H2 x ta tb { f with high := f.high.most f.turn f.brk, big := b } → b = (if 100 ≤ f.brk then f.big.add f.turn 1 else f.big) →
        (sF K (tVar 0) (tC (.int 0)) "break_so_far") { nx := fun _ H' => Q .non H', rt := Q } [some (.ref x.a), some (.int f.turn)] H2 := by
      intro H2 b k2 h2 eb
      refine ⟨_, rfl, x.a, _, x.dx, _, rfl, h2.obj, ⟨T.Frame.cl, T.Frame.na_break_so_far, Frame_len ..⟩, ?_⟩
      obtain ⟨H3, e3, k3, h3⟩ := st_break_so_far h2 0
      have e3' : upd H2 x.a (.ins A.Frame.c x.dx (putF "break_so_far" (.int 0) (fFs x.pa x.ha x.ba ta tb { f with high := f.high.most f.turn f.brk, big := b }))) = H3 := e3
      rw [e3']
      subst eb
      exact q H3 (k2.trans k3) ⟨ta, tb, h3⟩
    refine ⟨_, rfl, _, h1.at_.break_so_far T, _, _, rfl, rfl, _, rfl, ?_⟩
    by_cases z : 100 ≤ f.brk
    · rw [decide_eq_true (show (100 : Int) ≤ ((f.brk : Nat) : Int) by omega)]
      refine iteT ⟨_, rfl, _, h1.at_.big_breaks T, _, rfl, x.ba, pl f.big, _, _, rfl, rfl, SqL.of h1.big, pl_at ht, _, _, rfl, rfl, x.ba, pl f.big, _, f.turn, rfl, rfl, h1.big, pl_ix ht, ?_⟩
      have es : (pl f.big).set f.turn (.int (((f.big.of f.turn : Nat) : Int) + 1)) = pl (f.big.add f.turn 1) := pl_set (n := 1) ht
      rw [es]
      obtain ⟨H2, e2, k2, h2⟩ := st_big h1 (f.big.add f.turn 1)
      rw [e2]
      exact fin H2 _ (k1.trans k2) h2 (by rw [if_pos z])
    · rw [decide_eq_false (show ¬ (100 : Int) ≤ ((f.brk : Nat) : Int) by omega)]
      exact iteF (fin H1 f.big k1 h1 (by rw [if_neg z]))
theorem ok_Frame_pass_turn (T : Txt K mg A) : FnOk P w K mg base CX0 2 A.Frame.pass_turn.f A.Frame.pass_turn.fd ["self"] (spF A [] T1 PF.pass nonF) := by
  refine T.Frame.F_pass_turn.ok sc_Frame_pass_turn (fun vs H Q E h => ?_) (fun cdv Ar outer s H vs Q E hr h => ?_)
  · obtain ⟨x, f, rfl, _⟩ := h; rfl
  · obtain ⟨x, f, rfl, ⟨ta, tb, h⟩, ht, q⟩ := h
    have ht' : f.turn ≤ 1 := ht
    refine ⟨_, ((pss_cons (ps_expr (pe_m0c (pv 0) T.Frame.cl T.Frame.t_end_break (ok_Frame_end_break T) (hr.mono (by decide)) T.Frame.b_end_break .nil pass0))
      (pss_one (ps_fs (pv 0) (pe_call (ok_other T) (hr.mono (by decide)) rfl T.fs.m_other T.fs.F_other.kp T.fs.b_other .nil pass0 (pa_cons (pe_f (pv 0) rfl) pa_nil)) rfl)))), ?_⟩
    refine ⟨_, rfl, h.at_.o_end_break, x, f, rfl, ⟨ta, tb, h⟩, ht, fun H1 k1 ⟨ta1, tb1, h1⟩ => ?_⟩
    refine ⟨_, rfl, _, h1.at_.turn T, _, rfl, ?_⟩
    have e : ((1 : Int) - ((f.endBreak.turn : Nat) : Int)) = ((1 - f.turn : Nat) : Int) := by show ((1 : Int) - ((f.turn : Nat) : Int)) = _; omega
    rw [e]
    refine ⟨_, rfl, x.a, _, x.dx, _, rfl, h1.obj, ⟨T.Frame.cl, T.Frame.na_turn, Frame_len ..⟩, ?_⟩
    obtain ⟨H2, e2, k2, h2⟩ := st_turn h1 (1 - f.turn)
    rw [e2]
    exact q H2 (k1.trans k2) ⟨ta1, tb1, h2⟩
theorem ok_Frame_win (T : Txt K mg A) : FnOk P w K mg base CX0 1 A.Frame.win.f A.Frame.win.fd ["self", "player", "how"] (sp_win A) := by
  refine T.Frame.F_win.ok sc_Frame_win (fun vs H Q E h => ?_) (fun cdv Ar outer s H vs Q E hr h => ?_)
  · obtain ⟨w, hw, x, f, rfl, _⟩ := h; rfl
  · obtain ⟨w, hw, x, f, rfl, ⟨ta, tb, h⟩, _, q⟩ := h
    refine ⟨_, ((pss_cons (ps_fs (pv 0) (pv 1) rfl)
      (pss_one (ps_fs (pv 0) (pv 2) rfl)))), ?_⟩
    refine ⟨_, rfl, _, rfl, x.a, _, x.dx, _, rfl, h.obj, ⟨T.Frame.cl, T.Frame.na_winner, Frame_len ..⟩, ?_⟩
    obtain ⟨H1, e1, k1, h1⟩ := st_winner h w
    rw [e1]
    refine ⟨_, rfl, _, rfl, x.a, _, x.dx, _, rfl, h1.obj, ⟨T.Frame.cl, T.Frame.na_how, Frame_len ..⟩, ?_⟩
    obtain ⟨H2, e2, k2, h2⟩ := st_how h1 hw
    rw [e2]
    exact q H2 (k1.trans k2) ⟨ta, tb, h2⟩
theorem ok_Frame_settle (T : Txt K mg A) : FnOk P w K mg base CX0 5 A.Frame.settle.f A.Frame.settle.fd ["self"] (spF A [] AnyF PF.settle nonF) := by
  refine T.Frame.F_settle.ok sc_Frame_settle (fun vs H Q E h => ?_) (fun cdv Ar outer s H vs Q E hr h => ?_)
  · obtain ⟨x, f, rfl, _⟩ := h; rfl
  · obtain ⟨x, f, rfl, ⟨ta, tb, h⟩, _, q⟩ := h
    refine ⟨_, ((pss_one (ps_if (pt_cmpR op_eq (pe_ix ix_list (pe_f (pv 0) rfl) pe_int (fun _ _ => rfl)) (pe_ix ix_list (pe_f (pv 0) rfl) pe_int (fun _ _ => rfl)) (nomark _)) (pss_cons (ps_fs (pv 0) (pe_call0 (ok_black_alone T) (hr.mono (by decide)) rfl T.fs.m_black_alone T.fs.F_black_alone.kp T.fs.b_black_alone .nil pass0) rfl)
      (pss_cons (ps_fs (pv 0) (pe_const T.k.c_TO_BE_TOSSED rfl) rfl)
      (pss_one (ps_expr (pe_m0c (pv 0) T.Frame.cl T.Frame.t_close_choices (ok_Frame_close_choices T) (hr.mono (by decide)) T.Frame.b_close_choices .nil pass0))))) (pss_one (ps_expr (pe_mc (pv 0) T.Frame.cl T.Frame.t_win (ok_Frame_win T) (hr.mono (by decide)) T.Frame.b_win .nil pass0 (pa_cons (pe_ifExp (pt_cmpR op_gt (pe_ix ix_list (pe_f (pv 0) rfl) pe_int (fun _ _ => rfl)) (pe_ix ix_list (pe_f (pv 0) rfl) pe_int (fun _ _ => rfl)) (nomark _)) pe_int pe_int) (pa_cons (pe_const T.k.c_PLAYED_OUT rfl) pa_nil)))))))), ?_⟩
    refine ⟨_, rfl, _, h.at_.points T, x.pa, _, _, _, rfl, rfl, SqL.of h.pts, pl_at0, _, rfl, _, h.at_.points T, x.pa, _, _, _, rfl, rfl, SqL.of h.pts, pl_at1, rfl, _, rfl, ?_⟩
    rw [dI, decN]
    unfold PF.settle at q
    by_cases z : f.pts.a = f.pts.b
    · rw [if_pos z] at q
      rw [decide_eq_true z]
      refine iteT ⟨rfl, fun H0 t1 s0 nt ht1 => ?_⟩
      have h0 := h.keep s0
      refine ⟨_, rfl, x.a, _, x.dx, _, rfl, h0.obj, ⟨T.Frame.cl, T.Frame.na_table, Frame_len ..⟩, ?_⟩
      obtain ⟨H1, e1, k1, h1⟩ := st_table h0 ht1
      rw [e1]
      refine ⟨_, rfl, x.a, _, x.dx, _, rfl, h1.obj, ⟨T.Frame.cl, T.Frame.na_turn, Frame_len ..⟩, ?_⟩
      obtain ⟨H2, e2, k2, h2⟩ := st_turn h1 2
      have e2' : upd H1 x.a (.ins A.Frame.c x.dx (putF "turn" (.int 2) (fFs x.pa x.ha x.ba t1 tb { f with table := rnd 0 7 }))) = H2 := e2
      rw [e2']
      refine ⟨_, rfl, h2.at_.o_close_choices, x, _, rfl, ⟨t1, tb, h2⟩, trivial, fun H3 k3 h3 => ?_⟩
      exact q H3 (((KF.same s0).trans k1).trans (k2.trans k3)) h3
    · rw [if_neg z] at q
      rw [decide_eq_false z]
      refine iteF ⟨_, rfl, h.at_.o_win, ?_⟩
      refine ⟨_, rfl, _, h.at_.points T, x.pa, _, _, _, rfl, rfl, SqL.of h.pts, pl_at0, _, rfl, _, h.at_.points T, x.pa, _, _, _, rfl, rfl, SqL.of h.pts, pl_at1, _, _, rfl, rfl, _, rfl, ?_⟩
      by_cases y : f.pts.b < f.pts.a
      · rw [if_pos y] at q
        rw [decide_eq_true (show ((f.pts.b : Nat) : Int) < ((f.pts.a : Nat) : Int) by omega)]
        exact iteT ⟨0, 0, x, f, rfl, ⟨ta, tb, h⟩, trivial, q⟩
      · rw [if_neg y] at q
        rw [decide_eq_false (show ¬ ((f.pts.b : Nat) : Int) < ((f.pts.a : Nat) : Int) by omega)]
        exact iteF ⟨1, 0, x, f, rfl, ⟨ta, tb, h⟩, trivial, q⟩
theorem ok_Frame_is_within_reach (T : Txt K mg A) : FnOk P w K mg base CX0 2 A.Frame.is_within_reach.f A.Frame.is_within_reach.fd ["self"] (sp_reach A) := by
  refine T.Frame.F_is_within_reach.ok sc_Frame_is_within_reach (fun vs H Q E h => ?_) (fun cdv Ar outer s H vs Q E hr h => ?_)
  · obtain ⟨x, f, rfl, _⟩ := h; rfl
  · obtain ⟨x, f, rfl, ⟨ta, tb, h⟩, ht, q⟩ := h
    refine ⟨_, ((pss_one (ps_ret (pe_cmpR op_le (pe_callB call_abs rfl T.k.b_abs boot_abs (pa_cons (pe_op op_sub (pe_ix ix_list (pe_f (pv 0) rfl) pe_int (fun _ _ => rfl)) (pe_ix ix_list (pe_f (pv 0) rfl) pe_int (fun _ _ => rfl))) pa_nil)) (pe_m0c (pe_f (pv 0) rfl) T.Table.cl T.Table.t_left (ok_Table_left T) (hr.mono (by decide)) T.Table.b_left .nil pass0) (nomark _))))), ?_⟩
    refine ⟨_, rfl, _, h.at_.points T, x.pa, _, _, _, rfl, rfl, SqL.of h.pts, pl_at0, _, rfl, _, h.at_.points T, x.pa, _, _, _, rfl, rfl, SqL.of h.pts, pl_at1, _, _, rfl, rfl, _, rfl, ?_⟩
    refine ⟨_, rfl, _, h.at_.table T, h.tab.o_left, ta, f.table, rfl, h.tab, ht, fun H' s' => ⟨_, _, rfl, rfl, ?_⟩⟩
    have q' := q H' s'
    show Q (.bl (decide ((if ((f.pts.a : Nat) : Int) - ((f.pts.b : Nat) : Int) < 0 then -(((f.pts.a : Nat) : Int) - ((f.pts.b : Nat) : Int)) else ((f.pts.a : Nat) : Int) - ((f.pts.b : Nat) : Int)) ≤ ((f.table.left : Nat) : Int)))) H'
    rw [abs_eq]
    exact q'
theorem ok_Frame_count_miss (T : Txt K mg A) : FnOk P w K mg base CX0 1 A.Frame.count_miss.f A.Frame.count_miss.fd ["self", "is_in_sight"] (sp_count A) := by
  refine T.Frame.F_count_miss.ok sc_Frame_count_miss (fun vs H Q E h => ?_) (fun cdv Ar outer s H vs Q E hr h => ?_)
  · obtain ⟨b, x, f, rfl, _⟩ := h; rfl
  · obtain ⟨b, x, f, rfl, ⟨ta, tb, h⟩, _, q⟩ := h
    refine ⟨_, ((pss_cons (ps_fs (pv 0) (pe_ifExp (pt_val (pv 1)) (pe_op op_add (pe_f (pv 0) rfl) pe_int) pe_int) rfl)
      (pss_one (ps_fs (pv 0) pe_int rfl)))), ?_⟩
    have fin : ∀ n : Nat, n = (if b = true then f.misses + 1 else 0) → (fun (y : V) (H1 : Hp) => tVar 0 [some (.ref x.a), some (.bl b)] H1 fun xv H2 => ∃ a C dx fs, xv = .ref a ∧ H2 a = some (.ins C dx fs) ∧ (Cls K C ∧ NoAttr K C "misses_if_back" ∧ fs.length < 1000) ∧
        (sF K (tVar 0) (tC (.int 0)) "misses") { nx := fun _ H' => Q .non H', rt := Q } [some (.ref x.a), some (.bl b)] (upd H2 a (.ins C dx (putF "misses_if_back" y fs)))) (.int n) H := by
      intro n en
      refine ⟨_, rfl, x.a, _, x.dx, _, rfl, h.obj, ⟨T.Frame.cl, T.Frame.na_misses_if_back, Frame_len ..⟩, ?_⟩
      obtain ⟨H1, e1, k1, h1⟩ := st_misses_if_back h n
      rw [e1]
      refine ⟨_, rfl, x.a, _, x.dx, _, rfl, h1.obj, ⟨T.Frame.cl, T.Frame.na_misses, Frame_len ..⟩, ?_⟩
      obtain ⟨H2, e2, k2, h2⟩ := st_misses h1 0
      have e2' : upd H1 x.a (.ins A.Frame.c x.dx (putF "misses" (.int 0) (fFs x.pa x.ha x.ba ta tb { f with mback := n }))) = H2 := e2
      rw [e2']
      subst en
      exact q H2 (k1.trans k2) ⟨ta, tb, h2⟩
    refine ⟨_, rfl, _, rfl, ?_⟩
    cases b with
    | true => exact iteT ⟨_, rfl, _, h.at_.misses T, _, _, rfl, rfl, fin (f.misses + 1) rfl⟩
    | false => exact iteF (fin 0 rfl)
theorem ok_Frame_open_choices (T : Txt K mg A) : FnOk P w K mg base CX0 2 A.Frame.open_choices.f A.Frame.open_choices.fd ["self", "told", "miss_is_called"] (sp_open A) := by
  refine T.Frame.F_open_choices.ok sc_Frame_open_choices (fun vs H Q E h => ?_) (fun cdv Ar outer s H vs Q E hr h => ?_)
  · obtain ⟨ka, pa, oa, k, c, hk, x, f, rfl, _⟩ := h; rfl
  · obtain ⟨ka, pa, oa, k, c, hk, x, f, rfl, ⟨ta, tb, h⟩, _, q⟩ := h
    refine ⟨_, ((pss_cons (ps_fs (pv 0) (pe_and (pe_cmpR op_eq (pe_f (pv 1) rfl) pe_int (nomark _)) (pe_one (pe_m0c (pe_f (pv 0) rfl) T.Table.cl T.Table.t_has_more_than_black (ok_Table_has_more_than_black T) (hr.mono (by decide)) T.Table.b_has_more_than_black .nil pass0))) rfl)
      (pss_cons (ps_fs (pv 0) pe_bl rfl)
      (pss_one (ps_fs (pv 0) (pv 2) rfl))))), ?_⟩
    have fin : ∀ b : Bool, b = (k.hidden && decide (tL f.table < 7)) → (tVar 0 [some (.ref x.a), some (.ref ka), some (.bl c)] H fun xv H2 => ∃ a C dx fs, xv = .ref a ∧ H2 a = some (.ins C dx fs) ∧ (Cls K C ∧ NoAttr K C "may_name_free" ∧ fs.length < 1000) ∧
        (tSeq (sF K (tVar 0) (tC (.bl true)) "may_again") (sF K (tVar 0) (tVar 2) "may_back")) { nx := fun _ H' => Q .non H', rt := Q } [some (.ref x.a), some (.ref ka), some (.bl c)] (upd H2 a (.ins C dx (putF "may_name_free" (.bl b) fs)))) := by
      intro b eb
      refine ⟨_, rfl, x.a, _, x.dx, _, rfl, h.obj, ⟨T.Frame.cl, T.Frame.na_may_name_free, Frame_len ..⟩, ?_⟩
      obtain ⟨H1, e1, k1, h1⟩ := st_may_name_free h b
      rw [e1]
      refine ⟨_, rfl, x.a, _, x.dx, _, rfl, h1.obj, ⟨T.Frame.cl, T.Frame.na_may_again, Frame_len ..⟩, ?_⟩
      obtain ⟨H2, e2, k2, h2⟩ := st_may_again h1 true
      rw [e2]
      refine ⟨_, rfl, _, rfl, x.a, _, x.dx, _, rfl, h2.obj, ⟨T.Frame.cl, T.Frame.na_may_back, Frame_len ..⟩, ?_⟩
      obtain ⟨H3, e3, k3, h3⟩ := st_may_back h2 c
      rw [e3]
      subst eb
      exact q H3 ((k1.trans k2).trans k3) ⟨ta, tb, h3⟩
    refine ⟨_, rfl, _, hk.obj.hidden T, rfl, _, rfl, ?_⟩
    rw [hid1]
    cases e : k.hidden with
    | false => exact iteF (fin false (by rw [e]; rfl))
    | true => exact iteT ⟨_, rfl, _, h.at_.table T, h.tab.o_has_more_than_black, ta, f.table, rfl, h.tab, fin _ (by rw [e]; rfl)⟩
theorem ok_Frame_again (T : Txt K mg A) : FnOk P w K mg base CX0 3 A.Frame.again.f A.Frame.again.fd ["self"] (spF A [] T1 PF.doAgain nonF) := by
  refine T.Frame.F_again.ok sc_Frame_again (fun vs H Q E h => ?_) (fun cdv Ar outer s H vs Q E hr h => ?_)
  · obtain ⟨x, f, rfl, _⟩ := h; rfl
  · obtain ⟨x, f, rfl, ⟨ta, tb, h⟩, ht, q⟩ := h
    refine ⟨_, ((pss_cons (ps_expr (pe_m0c (pv 0) T.Frame.cl T.Frame.t_pass_turn (ok_Frame_pass_turn T) (hr.mono (by decide)) T.Frame.b_pass_turn .nil pass0))
      (pss_one (ps_expr (pe_m0c (pv 0) T.Frame.cl T.Frame.t_close_choices (ok_Frame_close_choices T) (hr.mono (by decide)) T.Frame.b_close_choices .nil pass0))))), ?_⟩
    refine ⟨_, rfl, h.at_.o_pass_turn, x, f, rfl, ⟨ta, tb, h⟩, ht, fun H1 k1 ⟨ta1, tb1, h1⟩ => ?_⟩
    refine ⟨_, rfl, h1.at_.o_close_choices, x, _, rfl, ⟨ta1, tb1, h1⟩, trivial, fun H2 k2 h2 => ?_⟩
    exact q H2 (k1.trans k2) h2
theorem ok_Frame_back (T : Txt K mg A) : FnOk P w K mg base CX0 4 A.Frame.back.f A.Frame.back.fd ["self"] (spF A [] T1 PF.doBack nonF) := by
  refine T.Frame.F_back.ok sc_Frame_back (fun vs H Q E h => ?_) (fun cdv Ar outer s H vs Q E hr h => ?_)
  · obtain ⟨x, f, rfl, _⟩ := h; rfl
  · obtain ⟨x, f, rfl, ⟨ta, tb, h⟩, ht, q⟩ := h
    refine ⟨_, ((pss_cons (ps_expr (pe_m0c (pv 0) T.Frame.cl T.Frame.t_again (ok_Frame_again T) (hr.mono (by decide)) T.Frame.b_again .nil pass0))
      (pss_cons (ps_fs (pv 0) (pe_f (pv 0) rfl) rfl)
      (pss_one (ps_fs (pv 0) (pe_f (pv 0) rfl) rfl))))), ?_⟩
    refine ⟨_, rfl, h.at_.o_again, x, f, rfl, ⟨ta, tb, h⟩, ht, fun H1 k1 ⟨ta1, tb1, h1⟩ => ?_⟩
    refine ⟨_, rfl, _, h1.at_.table_if_back T, _, rfl, x.a, _, x.dx, _, rfl, h1.obj, ⟨T.Frame.cl, T.Frame.na_table, Frame_len ..⟩, ?_⟩
    obtain ⟨H2, e2, k2, h2⟩ := st_table h1 h1.tbk
    rw [e2]
    refine ⟨_, rfl, _, h2.at_.misses_if_back T, _, rfl, x.a, _, x.dx, _, rfl, h2.obj, ⟨T.Frame.cl, T.Frame.na_misses, Frame_len ..⟩, ?_⟩
    obtain ⟨H3, e3, k3, h3⟩ := st_misses h2 f.mback
    have e3' : upd H2 x.a (.ins A.Frame.c x.dx (putF "misses" (.int f.doAgain.mback) (fFs x.pa x.ha x.ba tb1 tb1 { f.doAgain with table := f.doAgain.tback }))) = H3 := e3
    rw [e3']
    exact q H3 ((k1.trans k2).trans k3) ⟨tb1, tb1, h3⟩
theorem ok_Frame_toss (T : Txt K mg A) : FnOk P w K mg base CX0 1 A.Frame.toss.f A.Frame.toss.fd ["self", "who"] (sp_toss A) := by
  refine T.Frame.F_toss.ok sc_Frame_toss (fun vs H Q E h => ?_) (fun cdv Ar outer s H vs Q E hr h => ?_)
  · obtain ⟨w, x, f, rfl, _⟩ := h; rfl
  · obtain ⟨w, x, f, rfl, ⟨ta, tb, h⟩, _, q⟩ := h
    refine ⟨_, ((pss_one (ps_fs (pv 0) (pv 1) rfl))), ?_⟩
    refine ⟨_, rfl, _, rfl, x.a, _, x.dx, _, rfl, h.obj, ⟨T.Frame.cl, T.Frame.na_turn, Frame_len ..⟩, ?_⟩
    obtain ⟨H1, e1, k1, h1⟩ := st_turn h w
    rw [e1]
    exact q H1 k1 ⟨ta, tb, h1⟩
theorem ok_Frame_give (T : Txt K mg A) : FnOk P w K mg base CX0 3 A.Frame.give.f A.Frame.give.fd ["self"] (spF A [] T1 PF.doGive nonF) := by
  refine T.Frame.F_give.ok sc_Frame_give (fun vs H Q E h => ?_) (fun cdv Ar outer s H vs Q E hr h => ?_)
  · obtain ⟨x, f, rfl, _⟩ := h; rfl
  · obtain ⟨x, f, rfl, ⟨ta, tb, h⟩, ht, q⟩ := h
    refine ⟨_, ((pss_cons (ps_expr (pe_m0c (pv 0) T.Frame.cl T.Frame.t_pass_turn (ok_Frame_pass_turn T) (hr.mono (by decide)) T.Frame.b_pass_turn .nil pass0))
      (pss_one (ps_expr (pe_mc (pv 0) T.Frame.cl T.Frame.t_win (ok_Frame_win T) (hr.mono (by decide)) T.Frame.b_win .nil pass0 (pa_cons (pe_f (pv 0) rfl) (pa_cons (pe_const T.k.c_GIVEN_UP rfl) pa_nil))))))), ?_⟩
    refine ⟨_, rfl, h.at_.o_pass_turn, x, f, rfl, ⟨ta, tb, h⟩, ht, fun H1 k1 ⟨ta1, tb1, h1⟩ => ?_⟩
    refine ⟨_, rfl, h1.at_.o_win, _, rfl, _, h1.at_.turn T, 1 - f.turn, 1, x, _, rfl, ⟨ta1, tb1, h1⟩, trivial, fun H2 k2 h2 => ?_⟩
    exact q H2 (k1.trans k2) h2
end
end Cue
end
section
set_option Elab.async false
set_option linter.all false
set_option maxRecDepth 100000
set_option autoImplicit false
set_option maxHeartbeats 4000000
namespace Cue
open PySem PySem.Spec PyProof.Rows L2
/-! ### a frame is made -/
def sp_Frame_init (A : Adr) : Sp := fun vs H Q _ => ∃ (p dx : Addr) (n : Nat), vs = [.ref p, .int n] ∧ H p = some (.ins A.Frame.c dx []) ∧
  ∀ (H' : Hp) (x : FA), x.a = p → Kept H H' p → FAt A H' x (PF.new n) → (∀ b, x.has b → b = p ∨ H b = none) → Q .non H'
/-! ### a stroke is played -/
structure JSep (x : FA) (j ka pa oa la : Addr) : Prop where
  j : ¬ x.has j
  ka : ¬ x.has ka
  pa : ¬ x.has pa
  oa : ¬ x.has oa
  la : ¬ x.has la
theorem KAt.keep {A : Adr} {H H' : Hp} {x : FA} {ka pa oa : Addr} {k : Kg53.Stroke} (h : KAt A H ka pa oa k) (kf : KF A x H H') (n1 : ¬ x.has ka) (n2 : ¬ x.has pa) (n3 : ¬ x.has oa) : KAt A H' ka pa oa k :=
  ⟨let ⟨d, e⟩ := h.obj; ⟨d, kf.out e n1⟩, kf.out h.pot n2, kf.out h.off n3, h.lp, h.lo⟩
theorem JudAt.keep {A : Adr} {H H' : Hp} {x : FA} {j ka pa oa ta la : Addr} {f : Kg53.Frame} {k : Kg53.Stroke} (h : JudAt A H j ka pa oa ta la f k) (kf : KF A x H H') (s : JSep x j ka pa oa la) : JudAt A H' j ka pa oa ta la f k :=
  ⟨let ⟨d, e⟩ := h.obj; ⟨d, kf.out e s.j⟩, h.told.keep kf s.ka s.pa s.oa, kf.tab h.tab, kf.out h.on s.la⟩
def sp_can_call_miss (A : Adr) : Sp := fun vs H Q _ => ∃ (x : FA) (p : PF) (j ka pa oa ta la : Addr) (f : Kg53.Frame) (k : Kg53.Stroke), vs = [.ref x.a, .ref j] ∧ FAt A H x p ∧ JudAt A H j ka pa oa ta la f k ∧ JOk f k ∧ TOk p.table ∧
  ∀ H', Same H H' → Q (.bl (p.mayCall k.miss (Kg53.mayHit f k))) H'
def sp_play_fair (A : Adr) : Sp := fun vs H Q _ => ∃ (x : FA) (p : PF) (j ka pa oa ta la : Addr) (f : Kg53.Frame) (k : Kg53.Stroke), vs = [.ref x.a, .ref j] ∧ FAt A H x p ∧ JudAt A H j ka pa oa ta la f k ∧ JOk f k ∧ Kg53.isFoul f k = false ∧ p.turn ≤ 1 ∧ JSep x j ka pa oa la ∧
  ∀ (H' : Hp) (l : Addr), KF A x H H' → FAt A H' x (p.fair (Kg53.scored f k) (fairT f k)) → H l = none → H' l = some (.lst [.int (if 0 < Kg53.scored f k then 1 else 0 : Nat), .int (Kg53.scored f k : Nat), .int 0]) → Q (.ref l) H'
def sp_play_foul (A : Adr) : Sp := fun vs H Q _ => ∃ (x : FA) (p : PF) (j ka pa oa ta la : Addr) (f : Kg53.Frame) (k : Kg53.Stroke), vs = [.ref x.a, .ref j] ∧ FAt A H x p ∧ JudAt A H j ka pa oa ta la f k ∧ JOk f k ∧ p.turn ≤ 1 ∧ p.table = f.table ∧ JSep x j ka pa oa la ∧
  ∀ (H' : Hp) (l : Addr), KF A x H H' → FAt A H' x (p.foul k (Kg53.mayHit f k) (Kg53.penalty f k) (foulT f k)) → H l = none →
    H' l = some (.lst [.int 2, .int (Kg53.penalty f k : Nat), .int (Kg53.truth (p.call k (Kg53.mayHit f k) (Kg53.penalty f k) (foulT f k)) : Nat)]) → Q (.ref l) H'
def playP (p : PF) (f : Kg53.Frame) (k : Kg53.Stroke) : PF := if Kg53.isFoul f k = true then p.close.foul k (Kg53.mayHit f k) (Kg53.penalty f k) (foulT f k) else p.close.fair (Kg53.scored f k) (fairT f k)
def playL (p : PF) (f : Kg53.Frame) (k : Kg53.Stroke) : List Nat := if Kg53.isFoul f k = true then [2, Kg53.penalty f k, Kg53.truth (p.close.call k (Kg53.mayHit f k) (Kg53.penalty f k) (foulT f k))] else [if 0 < Kg53.scored f k then 1 else 0, Kg53.scored f k, 0]
def sp_play (A : Adr) : Sp := fun vs H Q _ => ∃ (x : FA) (p : PF) (ka pa oa : Addr) (f : Kg53.Frame) (k : Kg53.Stroke), vs = [.ref x.a, .ref ka] ∧ FAt A H x p ∧ KAt A H ka pa oa k ∧ JOk f k ∧ p.turn ≤ 1 ∧ p.table = f.table ∧ p.free = f.free ∧ ¬ x.has ka ∧ ¬ x.has pa ∧ ¬ x.has oa ∧
  ∀ (H' : Hp) (l : Addr), KF A x H H' → FAt A H' x (playP p f k) → H l = none → H' l = some (.lst ((nints (playL p f k)).map V.int)) → Q (.ref l) H'
def sp_fouls_needed (A : Adr) : Sp := fun vs H Q _ => ∃ (x : FA) (p : PF) (n : Nat), vs = [.ref x.a, .int n] ∧ FAt A H x p ∧ TOk p.table ∧ n ≤ 1 ∧ ∀ H', Same H H' → Q (.int ((p.pts.of (1 - n) - (p.pts.of n + p.table.left) + 3) / 4 : Nat)) H'
def standL (p : PF) : List Nat := [p.turn, p.pts.a, p.pts.b, p.table.reds, tO p.table, p.brk, p.table.left, Kg53.truth p.free, (p.pts.of 1 - (p.pts.of 0 + p.table.left) + 3) / 4, (p.pts.of 0 - (p.pts.of 1 + p.table.left) + 3) / 4]
def sp_as_it_stands (A : Adr) : Sp := fun vs H Q _ => ∃ (x : FA) (p : PF), vs = [.ref x.a] ∧ FAt A H x p ∧ TOk p.table ∧ ∀ (H' : Hp) (l : Addr), Same H H' → H l = none → H' l = some (.lst ((nints (standL p)).map V.int)) → Q (.ref l) H'
def outL (p : PF) : List Nat := [p.winner, p.how, p.pts.a, p.pts.b, p.high.a, p.high.b]
/-- what is read of a frame that is over -/
structure OvObj (A : Adr) (H : Hp) (x : FA) (ta tb : Addr) (p : PF) : Prop where
  obj : H x.a = some (.ins A.Frame.c x.dx (fFs x.pa x.ha x.ba ta tb p))
  pts : H x.pa = some (.lst (pl p.pts))
  high : H x.ha = some (.lst (pl p.high))
  big : H x.ba = some (.lst (pl p.big))
theorem OvObj.at_ {A : Adr} {H : Hp} {x : FA} {ta tb : Addr} {f : PF} (h : OvObj A H x ta tb f) : FrameAt A H x.a (.ref x.pa) (.int f.turn) (.ref ta) (.int f.winner) (.int f.how) (.int f.brk) (.ref x.ha) (.ref x.ba) (.int f.misses) (.ref tb) (.int f.mback) (.bl f.free) (.bl f.again) (.bl f.back) := ⟨x.dx, h.obj⟩
theorem OvObj.mono {A : Adr} {H H' : Hp} {x : FA} {ta tb : Addr} {f : PF} (h : OvObj A H x ta tb f) (s : Same H H') : OvObj A H' x ta tb f := ⟨s _ _ h.obj, s _ _ h.pts, s _ _ h.high, s _ _ h.big⟩
def sp_outcome (A : Adr) : Sp := fun vs H Q _ => ∃ (x : FA) (ta tb : Addr) (p : PF), vs = [.ref x.a] ∧ OvObj A H x ta tb p ∧ ∀ (H' : Hp) (l : Addr), Same H H' → H l = none → H' l = some (.lst ((nints (outL p)).map V.int)) → Q (.ref l) H'
theorem new_obj {H : Hp} {l : Addr} {o : HO} (n : H l = none) : ∃ H1, upd H l o = H1 ∧ H1 l = some o ∧ Same H H1 := ⟨_, rfl, upd_same, same_upd_new n⟩
theorem same_cat {H H1 : Hp} {l : Addr} {o : HO} (s : Same H H1) (n : H1 l = none) : Same H (upd H1 l o) := fun b u e => by rw [upd_ne (ne_of_none (s b u e) n)]; exact s b u e
section
variable {P : Program} {w : World} {K : PySem.W.Frag} {mg : Str → Option Value} {base : Heap} {A : Adr}
theorem ok_Frame_can_call_miss (T : Txt K mg A) : FnOk P w K mg base CX0 3 A.Frame.can_call_miss.f A.Frame.can_call_miss.fd ["self", "judgement"] (sp_can_call_miss A) := by
  refine T.Frame.F_can_call_miss.ok sc_Frame_can_call_miss (fun vs H Q E h => ?_) (fun cdv Ar outer s H vs Q E hr h => ?_)
  · obtain ⟨x, p, j, ka, pa, oa, ta, la, f, k, rfl, _⟩ := h; rfl
  · obtain ⟨x, p, j, ka, pa, oa, ta, la, f, k, rfl, ⟨t1, tb, h⟩, hj, jo, ht, q⟩ := h
    refine ⟨_, ((pss_cons (ps_if (PW.pt (pw_or (pt_cmpR op_eq (pe_f (pe_f (pv 1) rfl) rfl) pe_int (nomark _)) (pw_or1 (pt_val (pe_m0c (pv 1) T.Judgement.cl T.Judgement.t_is_rightly_hit (ok_Judgement_is_rightly_hit T) (hr.mono (by decide)) T.Judgement.b_is_rightly_hit .nil pass0))))) (pss_one (ps_ret pe_bl)) pss_nil)
      (pss_one (ps_ret (pe_and (pe_m0c (pe_f (pv 0) rfl) T.Table.cl T.Table.t_has_more_than_black (ok_Table_has_more_than_black T) (hr.mono (by decide)) T.Table.b_has_more_than_black .nil pass0) (pe_one (pe_m0c (pv 0) T.Frame.cl T.Frame.t_is_within_reach (ok_Frame_is_within_reach T) (hr.mono (by decide)) T.Frame.b_is_within_reach .nil pass0))))))), ?_⟩
    refine sIfO (decide (k.miss = 0)) (Kg53.mayHit f k) (fun Q z => ⟨_, rfl, _, hj.obj.told T, _, hj.told.obj.miss T, rfl, _, rfl, by rw [dI, decN0]; exact z⟩)
      (fun _ Q z => ⟨_, rfl, hj.obj.o_is_rightly_hit, j, ka, pa, oa, ta, la, f, k, rfl, hj, jo, trivial, _, rfl, z⟩) ?_
    unfold PF.mayCall at q
    cases e : (decide (k.miss = 0) || Kg53.mayHit f k) with
    | true => rw [e] at q; exact iteT (q H (Same.refl H))
    | false =>
      rw [e] at q
      refine iteF ?_
      dsimp only [tNext]
      refine (rAndVS (decide (tL p.table < 7)) p.reach (fun Q z => ⟨_, rfl, _, h.at_.table T, h.tab.o_has_more_than_black, t1, p.table, rfl, h.tab, z⟩)
        (fun _ Q z => ⟨_, rfl, h.at_.o_is_within_reach, x, p, rfl, ⟨t1, tb, h⟩, ht, z⟩) q)
theorem ok_Frame_play_fair (T : Txt K mg A) : FnOk P w K mg base CX0 6 A.Frame.play_fair.f A.Frame.play_fair.fd ["self", "judgement"] (sp_play_fair A) := by
  refine T.Frame.F_play_fair.ok sc_Frame_play_fair (fun vs H Q E h => ?_) (fun cdv Ar outer s H vs Q E hr h => ?_)
  · obtain ⟨x, p, j, ka, pa, oa, ta, la, f, k, rfl, _⟩ := h; rfl
  · obtain ⟨x, p, j, ka, pa, oa, ta, la, f, k, rfl, ⟨t1, tb, h⟩, hj, jo, fair, ht, sep, q⟩ := h
    refine ⟨_, ((pss_cons (ps_set (i := 2) sc_Frame_play_fair.nd rfl (by first | exact Or.inl rfl | exact Or.inr rfl) (pe_m0c (pv 1) T.Judgement.cl T.Judgement.t_made (ok_Judgement_made T) (hr.mono (by decide)) T.Judgement.b_made .nil pass0))
      (pss_cons (ps_augS (pe_f (pv 0) rfl) (pe_f (pv 0) rfl) get_list (pv 2) ip_add set_list)
      (pss_cons (ps_fldaug (pv 0) (pv 2) in_add)
      (pss_cons (ps_fs (pv 0) (pe_m0c (pv 1) T.Judgement.cl T.Judgement.t_table_behind_fair (ok_Judgement_table_behind_fair T) (hr.mono (by decide)) T.Judgement.b_table_behind_fair .nil pass0) rfl)
      (pss_cons (ps_fs (pv 0) pe_int rfl)
      (pss_cons (ps_if (pt_cmpR op_eq (pv 2) pe_int (nomark _)) (pss_one (ps_expr (pe_m0c (pv 0) T.Frame.cl T.Frame.t_pass_turn (ok_Frame_pass_turn T) (hr.mono (by decide)) T.Frame.b_pass_turn .nil pass0))) pss_nil)
      (pss_cons (ps_if (pt_cmpR op_gt (pe_f (pe_f (pv 0) rfl) rfl) (pe_const T.k.c_BLACK rfl) (nomark _)) (pss_cons (ps_expr (pe_m0c (pv 0) T.Frame.cl T.Frame.t_end_break (ok_Frame_end_break T) (hr.mono (by decide)) T.Frame.b_end_break .nil pass0))
      (pss_one (ps_expr (pe_m0c (pv 0) T.Frame.cl T.Frame.t_settle (ok_Frame_settle T) (hr.mono (by decide)) T.Frame.b_settle .nil pass0)))) pss_nil)
      (pss_one (ps_ret (pe_lst (pa_cons (pe_ifExp (pt_cmpR op_gt (pv 2) pe_int (nomark _)) (pe_const T.k.c_MADE_SOMETHING rfl) (pe_const T.k.c_MADE_NOTHING rfl)) (pa_cons (pv 2) (pa_cons pe_int pa_nil)))))))))))))), ?_⟩
    generalize hn : Kg53.scored f k = n at q
    refine ⟨_, rfl, hj.obj.o_made, j, ka, pa, oa, ta, la, f, k, rfl, hj, jo, fair, ?_⟩
    dsimp only [gName, tNext]
    rw [hn]
    -- points
    refine ⟨_, rfl, _, h.at_.points T, _, rfl, _, h.at_.turn T, x.pa, pl p.pts, _, _, rfl, rfl, SqL.of h.pts, pl_at ht, _, rfl, _, _, rfl, rfl, x.pa, pl p.pts, _, p.turn, rfl, rfl, h.pts, pl_ix ht, ?_⟩
    rw [pl_set ht]
    obtain ⟨H1, e1, k1, h1⟩ := st_pts h (p.pts.add p.turn n)
    rw [e1]
    -- the break
    refine ⟨_, rfl, x.a, _, x.dx, _, _, rfl, h1.obj, T.Frame.cl, T.Frame.na_break_so_far, Frame_g_break_so_far .., _, rfl, _, _, rfl, rfl, x.dx, _, h1.obj, Frame_len .., ?_⟩
    obtain ⟨H2, e2, k2, h2⟩ := st_break_so_far h1 (p.brk + n)
    have e2' : upd H1 x.a (.ins A.Frame.c x.dx (putF "break_so_far" (.int (((p.brk : Nat) : Int) + ((n : Nat) : Int))) (fFs x.pa x.ha x.ba t1 tb { p with pts := p.pts.add p.turn n }))) = H2 := e2
    rw [e2']
    -- the table
    have hj2 := (hj.keep k1 sep).keep k2 sep
    refine ⟨_, rfl, hj2.obj.o_table_behind_fair, j, ka, pa, oa, ta, la, f, k, rfl, hj2, jo, fair, fun H3 t3 s3 n3 ht3 => ?_⟩
    have h3 := h2.keep s3
    refine ⟨_, rfl, x.a, _, x.dx, _, rfl, h3.obj, ⟨T.Frame.cl, T.Frame.na_table, Frame_len ..⟩, ?_⟩
    obtain ⟨H4, e4, k4, h4⟩ := st_table h3 ht3
    rw [e4]
    refine ⟨_, rfl, x.a, _, x.dx, _, rfl, h4.obj, ⟨T.Frame.cl, T.Frame.na_misses, Frame_len ..⟩, ?_⟩
    obtain ⟨H5, e5, k5, h5⟩ := st_misses h4 0
    have e5' : upd H4 x.a (.ins A.Frame.c x.dx (putF "misses" (.int 0) (fFs x.pa x.ha x.ba t3 tb { p with pts := p.pts.add p.turn n, brk := p.brk + n, table := fairT f k }))) = H5 := e5
    rw [e5']
    have h5 : PFAt A H5 x t3 tb (p.fair1 n (fairT f k)) := h5
    have k05 : KF A x H H5 := ((k1.trans k2).trans (KF.same s3)).trans (k4.trans k5)
    -- nothing made: the turn passes
    try dsimp only [gName, tNext]
    refine seq_of (fun σ' H' => σ' = [some (.ref x.a), some (.ref j), some (.int n)] ∧ KF A x H H' ∧ FAt A H' x ((p.fair1 n (fairT f k)).fair2 n)) ?_ ?_
    · rintro σ6 H6 ⟨rfl, k06, t6, tb6, h6⟩
      try dsimp only [gName, tNext]
      refine seq_of (fun σ' H' => σ' = [some (.ref x.a), some (.ref j), some (.int n)] ∧ KF A x H H' ∧ FAt A H' x (p.fair n (fairT f k))) ?_ ?_
      · rintro σ7 H7 ⟨rfl, k07, h7⟩
        refine ⟨_, rfl, _, _, rfl, rfl, _, rfl, ?_⟩
        have fin : ∀ i : Int, i = ((if 0 < n then 1 else 0 : Nat) : Int) → tCons (tVar 2) (tCons (tC (.int 0)) tNil) [some (.ref x.a), some (.ref j), some (.int n)] H7 (fun xs H2 => (V.int i :: xs).length ≤ sizeLine ∧ ∀ p, H2 p = none → Q (.ref p) (upd H2 p (.lst (V.int i :: xs)))) := by
          intro i ei
          refine ⟨_, rfl, by show 3 ≤ sizeLine; decide, fun l hl => ?_⟩
          have s8 : Same H7 (upd H7 l (.lst [.int i, .int n, .int 0])) := same_upd_new hl
          obtain ⟨t7, tb7, h7⟩ := h7
          have hl0 : H l = none := k07.free h7 hl
          refine q _ l (k07.trans (KF.same s8)) ⟨t7, tb7, h7.keep s8⟩ hl0 ?_
          rw [upd_same, ei]
        by_cases z : 0 < n
        · rw [decide_eq_true (show (0 : Int) < ((n : Nat) : Int) by omega)]
          exact iteT (fin 1 (by rw [if_pos z]; rfl))
        · rw [decide_eq_false (show ¬ (0 : Int) < ((n : Nat) : Int) by omega)]
          exact iteF (fin 0 (by rw [if_neg z]; rfl))
      · intro N hN
        refine ⟨_, rfl, _, h6.at_.table T, _, h6.tab.lowest T, _, _, rfl, rfl, _, rfl, ?_⟩
        unfold PF.fair PF.fair3 at hN
        by_cases z : 7 < tL ((p.fair1 n (fairT f k)).fair2 n).table
        · rw [decide_eq_true (show (7 : Int) < ((tL ((p.fair1 n (fairT f k)).fair2 n).table : Nat) : Int) by omega)]
          rw [if_pos z] at hN
          have t1le : ((p.fair1 n (fairT f k)).fair2 n).turn ≤ 1 := by
            unfold PF.fair2
            split
            · show 1 - p.turn ≤ 1; omega
            · exact ht
          refine iteT ⟨_, rfl, h6.at_.o_end_break, x, _, rfl, ⟨t6, tb6, h6⟩, t1le, fun H7 k7 ⟨t7, tb7, h7⟩ => ?_⟩
          refine ⟨_, rfl, h7.at_.o_settle, x, _, rfl, ⟨t7, tb7, h7⟩, trivial, fun H8 k8 h8 => ?_⟩
          exact hN _ _ ⟨rfl, (k06.trans k7).trans k8, h8⟩
        · rw [decide_eq_false (show ¬ (7 : Int) < ((tL ((p.fair1 n (fairT f k)).fair2 n).table : Nat) : Int) by omega)]
          rw [if_neg z] at hN
          exact iteF (hN _ _ ⟨rfl, k06, t6, tb6, h6⟩)
    · intro N hN
      refine ⟨_, rfl, rfl, _, rfl, ?_⟩
      rw [dI, decN0]
      unfold PF.fair2 at hN
      by_cases z : n = 0
      · rw [decide_eq_true z]
        rw [if_pos z] at hN
        refine iteT ⟨_, rfl, h5.at_.o_pass_turn, x, _, rfl, ⟨t3, tb, h5⟩, ht, fun H6 k6 h6 => ?_⟩
        exact hN _ _ ⟨rfl, k05.trans k6, h6⟩
      · rw [decide_eq_false z]
        rw [if_neg z] at hN
        exact iteF (hN _ _ ⟨rfl, k05, t3, tb, h5⟩)
end
end Cue
end
section
set_option Elab.async false
set_option linter.all false
set_option maxRecDepth 100000
set_option autoImplicit false
set_option maxHeartbeats 4000000
namespace Cue
open PySem PySem.Spec PyProof.Rows L2
section
variable {P : Program} {w : World} {K : PySem.W.Frag} {mg : Str → Option Value} {base : Heap} {A : Adr}
theorem ok_Frame_play_foul (T : Txt K mg A) : FnOk P w K mg base CX0 6 A.Frame.play_foul.f A.Frame.play_foul.fd ["self", "judgement"] (sp_play_foul A) := by
  refine T.Frame.F_play_foul.ok sc_Frame_play_foul (fun vs H Q E h => ?_) (fun cdv Ar outer s H vs Q E hr h => ?_)
  · obtain ⟨x, p, j, ka, pa, oa, ta, la, f, k, rfl, _⟩ := h; rfl
  · obtain ⟨x, p, j, ka, pa, oa, ta, la, f, k, rfl, ⟨t1, tb, h⟩, hj, jo, ht, etab, sep, q⟩ := h
    refine ⟨_, ((pss_cons (ps_set (i := 2) sc_Frame_play_foul.nd rfl (by first | exact Or.inl rfl | exact Or.inr rfl) (pe_m0c (pv 1) T.Judgement.cl T.Judgement.t_cost (ok_Judgement_cost T) (hr.mono (by decide)) T.Judgement.b_cost .nil pass0))
      (pss_cons (ps_set (i := 3) sc_Frame_play_foul.nd rfl (by first | exact Or.inl rfl | exact Or.inr rfl) (pe_mc (pv 0) T.Frame.cl T.Frame.t_can_call_miss (ok_Frame_can_call_miss T) (hr.mono (by decide)) T.Frame.b_can_call_miss .nil pass0 (pa_cons (pv 1) pa_nil)))
      (pss_cons (ps_fs (pv 0) (pe_f (pv 0) rfl) rfl)
      (pss_cons (ps_fs (pv 0) (pe_m0c (pv 1) T.Judgement.cl T.Judgement.t_table_behind_foul (ok_Judgement_table_behind_foul T) (hr.mono (by decide)) T.Judgement.b_table_behind_foul .nil pass0) rfl)
      (pss_cons (ps_expr (pe_m0c (pv 0) T.Frame.cl T.Frame.t_pass_turn (ok_Frame_pass_turn T) (hr.mono (by decide)) T.Frame.b_pass_turn .nil pass0))
      (pss_cons (ps_augS (pe_f (pv 0) rfl) (pe_f (pv 0) rfl) get_list (pv 2) ip_add set_list)
      (pss_cons (ps_set (i := 4) sc_Frame_play_foul.nd rfl (by first | exact Or.inl rfl | exact Or.inr rfl) (pe_and (pv 3) (pe_one (pe_m0c (pv 0) T.Frame.cl T.Frame.t_is_within_reach (ok_Frame_is_within_reach T) (hr.mono (by decide)) T.Frame.b_is_within_reach .nil pass0))))
      (pss_cons (ps_expr (pe_mc (pv 0) T.Frame.cl T.Frame.t_count_miss (ok_Frame_count_miss T) (hr.mono (by decide)) T.Frame.b_count_miss .nil pass0 (pa_cons (pe_and (pv 4) (pe_one (pe_cmpR op_eq (pe_f (pe_f (pv 1) rfl) rfl) (pe_const T.k.c_MISS_IN_SIGHT rfl) (nomark _)))) pa_nil)))
      (pss_cons (ps_expr (pe_mc (pv 0) T.Frame.cl T.Frame.t_open_choices (ok_Frame_open_choices T) (hr.mono (by decide)) T.Frame.b_open_choices .nil pass0 (pa_cons (pe_f (pv 1) rfl) (pa_cons (pv 4) pa_nil))))
      (pss_cons (ps_if (pt_cmpR op_eq (pe_f (pv 0) rfl) (pe_const T.k.c_MISSES_THAT_LOSE rfl) (nomark _)) (pss_one (ps_expr (pe_mc (pv 0) T.Frame.cl T.Frame.t_win (ok_Frame_win T) (hr.mono (by decide)) T.Frame.b_win .nil pass0 (pa_cons (pe_f (pv 0) rfl) (pa_cons (pe_const T.k.c_LOST_BY_MISSES rfl) pa_nil))))) (pss_one (ps_if (pt_not (pt_val (pe_m0c (pe_f (pv 0) rfl) T.Table.cl T.Table.t_has_more_than_black (ok_Table_has_more_than_black T) (hr.mono (by decide)) T.Table.b_has_more_than_black .nil pass0))) (pss_one (ps_expr (pe_m0c (pv 0) T.Frame.cl T.Frame.t_settle (ok_Frame_settle T) (hr.mono (by decide)) T.Frame.b_settle .nil pass0))) pss_nil)))
      (pss_one (ps_ret (pe_lst (pa_cons (pe_const T.k.c_FOUL rfl) (pa_cons (pv 2) (pa_cons (pe_ifExp (pt_val (pv 4)) pe_int pe_int) pa_nil))))))))))))))))), ?_⟩
    generalize hn : Kg53.penalty f k = n at q
    generalize hr0 : Kg53.mayHit f k = r at q
    have ht0 : TOk p.table := by rw [etab]; exact jo.t
    -- cost, may_be_called
    refine ⟨_, rfl, hj.obj.o_cost, j, ka, pa, oa, ta, la, f, k, rfl, hj, jo, trivial, fun H1 s1 => ?_⟩
    dsimp only [gName, tNext]
    rw [hn]
    have hj1 := hj.mono s1
    have h1 := h.keep s1
    refine ⟨_, rfl, h1.at_.o_can_call_miss, _, rfl, x, p, j, ka, pa, oa, ta, la, f, k, rfl, ⟨t1, tb, h1⟩, hj1, jo, ht0, fun H2 s2 => ?_⟩
    dsimp only [gName, tNext]
    rw [hr0]
    have hj2 := hj1.mono s2
    have h2 := h1.keep s2
    -- the tables
    refine ⟨_, rfl, _, h2.at_.table T, _, rfl, x.a, _, x.dx, _, rfl, h2.obj, ⟨T.Frame.cl, T.Frame.na_table_if_back, Frame_len ..⟩, ?_⟩
    obtain ⟨H3, e3, k3, h3⟩ := st_table_if_back h2 h2.tab
    rw [e3]
    have hj3 := hj2.keep k3 sep
    refine ⟨_, rfl, hj3.obj.o_table_behind_foul, j, ka, pa, oa, ta, la, f, k, rfl, hj3, jo, trivial, fun H4 t4 s4 n4 ht4 => ?_⟩
    have h4 := h3.keep s4
    have hj4 := hj3.mono s4
    refine ⟨_, rfl, x.a, _, x.dx, _, rfl, h4.obj, ⟨T.Frame.cl, T.Frame.na_table, Frame_len ..⟩, ?_⟩
    obtain ⟨H5, e5, k5, h5⟩ := st_table h4 ht4
    rw [e5]
    have hj5 := hj4.keep k5 sep
    have k05 : KF A x H H5 := ((((KF.same s1).trans (KF.same s2)).trans k3).trans (KF.same s4)).trans k5
    -- the turn passes
    refine ⟨_, rfl, h5.at_.o_pass_turn, x, _, rfl, ⟨t4, t1, h5⟩, ht, fun H6 k6 ⟨t6, tb6, h6⟩ => ?_⟩
    have hj6 := hj5.keep k6 sep
    generalize hg : PF.pass { p with tback := p.table, table := foulT f k } = g at h6
    have gt : g.turn = 1 - p.turn := by rw [← hg]; rfl
    have gle : g.turn ≤ 1 := by rw [gt]; omega
    have gp : g.pts = p.pts := by rw [← hg]; rfl
    refine ⟨_, rfl, _, h6.at_.points T, _, rfl, _, h6.at_.turn T, x.pa, pl g.pts, _, _, rfl, rfl, SqL.of h6.pts, pl_at gle, _, rfl, _, _, rfl, rfl, x.pa, pl g.pts, _, g.turn, rfl, rfl, h6.pts, pl_ix gle, ?_⟩
    rw [pl_set gle]
    obtain ⟨H7, e7, k7, h7⟩ := st_pts h6 (g.pts.add g.turn n)
    rw [e7]
    have hj7 := hj6.keep k7 sep
    have k07 := (k05.trans k6).trans k7
    have eg : { g with pts := g.pts.add g.turn n } = p.foul1 n (foulT f k) := by
      rw [gp, gt, ← hg]; rfl
    rw [eg] at h7
    generalize hf1 : p.foul1 n (foulT f k) = f1 at h7
    have htf : TOk f1.table := by rw [← hf1]; exact foulT_ok jo
    have ec : p.call k r n (foulT f k) = (p.mayCall k.miss r && f1.reach) := by rw [← hf1]; rfl
    have ef : p.foul k r n (foulT f k) = ((f1.count (p.call k r n (foulT f k) && decide (k.miss = 2))).opn k.hidden (p.call k r n (foulT f k))).foul3 := by rw [← hf1]; rfl
    rw [ef] at q
    generalize p.call k r n (foulT f k) = c at ec q
    -- is_called
    try dsimp only [gName, tNext]
    refine seq_of (fun σ' H' => σ' = [some (.ref x.a), some (.ref j), some (.int n), some (.bl (p.mayCall k.miss r)), some (.bl c)] ∧ Same H7 H') ?_ ?_
    · rintro σ8 H8 ⟨rfl, s8⟩
      have h8 := h7.keep s8
      have hj8 := hj7.mono s8
      -- count_miss
      refine ⟨_, rfl, h8.at_.o_count_miss, cAndVP c (decide (k.miss = 2)) (fun Q z => ⟨_, rfl, z⟩) (fun _ Q z => ⟨_, rfl, _, hj8.obj.told T, _, hj8.told.obj.miss T, rfl, ?_⟩) ?_⟩
      · have d2 : decide (((k.miss : Nat) : Int) = 2) = decide (k.miss = 2) := decN k.miss 2
        rw [dI, d2]; exact z
      refine ⟨_, x, _, rfl, ⟨t6, tb6, h8⟩, trivial, fun H9 k9 ⟨t9, tb9, h9⟩ => ?_⟩
      have hj9 := hj8.keep k9 sep
      -- open_choices
      refine ⟨_, rfl, h9.at_.o_open_choices, _, rfl, _, hj9.obj.told T, _, rfl, ka, pa, oa, k, c, hj9.told, x, _, rfl, ⟨t9, tb9, h9⟩, trivial, fun H10 k10 ⟨t10, tb10, h10⟩ => ?_⟩
      have k010 : KF A x H H10 := ((k07.trans (KF.same s8)).trans k9).trans k10
      have h10 : PFAt A H10 x t10 tb10 ((f1.count (c && decide (k.miss = 2))).opn k.hidden c) := h10
      generalize hf2 : (f1.count (c && decide (k.miss = 2))).opn k.hidden c = f2 at h10 q
      try dsimp only [gName, tNext]
      refine seq_of (fun σ' H' => σ' = [some (.ref x.a), some (.ref j), some (.int n), some (.bl (p.mayCall k.miss r)), some (.bl c)] ∧ KF A x H H' ∧ FAt A H' x f2.foul3) ?_ ?_
      · rintro σ11 H11 ⟨rfl, k011, t11, tb11, h11⟩
        refine ⟨_, rfl, _, rfl, _, rfl, ?_⟩
        have fin : ∀ i : Int, i = ((Kg53.truth c : Nat) : Int) → [V.int 2, V.int n, V.int i].length ≤ sizeLine ∧ ∀ p, H11 p = none → Q (.ref p) (upd H11 p (.lst [V.int 2, V.int n, V.int i])) := by
          intro i ei
          refine ⟨by show 3 ≤ sizeLine; decide, fun l hl => ?_⟩
          have s12 : Same H11 (upd H11 l (.lst [.int 2, .int n, .int i])) := same_upd_new hl
          refine q _ l (k011.trans (KF.same s12)) ⟨t11, tb11, h11.keep s12⟩ (k011.free h11 hl) ?_
          rw [upd_same, ei]
        cases c with
        | true => exact iteT (fin 1 rfl)
        | false => exact iteF (fin 0 rfl)
      · intro N hN
        refine ⟨_, rfl, _, h10.at_.misses_if_back T, rfl, _, rfl, ?_⟩
        have d3 : decide (((f2.mback : Nat) : Int) = 3) = decide (f2.mback = 3) := decN f2.mback 3
        rw [dI, d3]
        unfold PF.foul3 at hN
        by_cases z : f2.mback = 3
        · rw [decide_eq_true z]
          rw [if_pos z] at hN
          refine iteT ⟨_, rfl, h10.at_.o_win, _, rfl, _, h10.at_.turn T, f2.turn, 2, x, _, rfl, ⟨t10, tb10, h10⟩, trivial, fun H11 k11 h11 => ?_⟩
          exact hN _ _ ⟨rfl, k010.trans k11, h11⟩
        · rw [decide_eq_false z]
          rw [if_neg z] at hN
          refine iteF ⟨_, rfl, _, h10.at_.table T, h10.tab.o_has_more_than_black, t10, f2.table, rfl, h10.tab, _, rfl, ?_⟩
          by_cases y : tL f2.table < 7
          · rw [decide_eq_true y]
            rw [if_pos y] at hN
            exact iteF (hN _ _ ⟨rfl, k010, t10, tb10, h10⟩)
          · rw [decide_eq_false y]
            rw [if_neg y] at hN
            refine iteT ⟨_, rfl, h10.at_.o_settle, x, _, rfl, ⟨t10, tb10, h10⟩, trivial, fun H11 k11 h11 => ?_⟩
            exact hN _ _ ⟨rfl, k010.trans k11, h11⟩
    · intro N hN
      refine gAndVS (p.mayCall k.miss r) f1.reach (fun Q z => ⟨_, rfl, z⟩) (fun _ Q z => ⟨_, rfl, h7.at_.o_is_within_reach, x, f1, rfl, ⟨t6, tb6, h7⟩, htf, z⟩) (fun H8 s8 => ?_)
      rw [← ec]
      exact hN _ _ ⟨rfl, s8⟩
theorem ok_Frame_play (T : Txt K mg A) : FnOk P w K mg base CX0 7 A.Frame.play.f A.Frame.play.fd ["self", "told"] (sp_play A) := by
  refine T.Frame.F_play.ok sc_Frame_play (fun vs H Q E h => ?_) (fun cdv Ar outer s H vs Q E hr h => ?_)
  · obtain ⟨x, p, ka, pa, oa, f, k, rfl, _⟩ := h; rfl
  · obtain ⟨x, p, ka, pa, oa, f, k, rfl, ⟨ta, tb, h⟩, hk, jo, ht, etab, efr, n1, n2, n3, q⟩ := h
    refine ⟨_, ((pss_cons (ps_set (i := 2) sc_Frame_play.nd rfl (by first | exact Or.inl rfl | exact Or.inr rfl) (pe_make T.Judgement.mak (ok_Judgement_init T) (hr.mono (by decide)) rfl T.Judgement.m T.Judgement.b_init .nil pass0 (pa_cons (pv 1) (pa_cons (pe_f (pv 0) rfl) (pa_cons (pe_f (pv 0) rfl) pa_nil)))))
      (pss_cons (ps_expr (pe_m0c (pv 0) T.Frame.cl T.Frame.t_close_choices (ok_Frame_close_choices T) (hr.mono (by decide)) T.Frame.b_close_choices .nil pass0))
      (pss_cons (ps_if (pt_val (pe_m0c (pv 2) T.Judgement.cl T.Judgement.t_is_foul (ok_Judgement_is_foul T) (hr.mono (by decide)) T.Judgement.b_is_foul .nil pass0)) (pss_one (ps_ret (pe_mc (pv 0) T.Frame.cl T.Frame.t_play_foul (ok_Frame_play_foul T) (hr.mono (by decide)) T.Frame.b_play_foul .nil pass0 (pa_cons (pv 2) pa_nil)))) pss_nil)
      (pss_one (ps_ret (pe_mc (pv 0) T.Frame.cl T.Frame.t_play_fair (ok_Frame_play_fair T) (hr.mono (by decide)) T.Frame.b_play_fair .nil pass0 (pa_cons (pv 2) pa_nil)))))))), ?_⟩
    have htab : TabAt A H ta f.table := by rw [← etab]; exact h.tab
    refine ⟨_, rfl, _, rfl, _, h.at_.table T, _, rfl, _, h.at_.may_name_free T, fun j dj nj ndj nej => ?_⟩
    have s0 : Same H (mkO H j dj A.Judgement.c []) := mkO_same nj ndj
    refine ⟨j, dj, ka, pa, oa, ta, f, k, by rw [efr]; rfl, mkO_new, hk.mono s0, htab.mono s0, fun H1 la kp nla hj => ⟨rfl, ?_⟩⟩
    have s1 : Same H H1 := fun b o e => kp b o (s0 b o e) (ne_of_none e nj)
    have h1 := h.keep s1
    have has_some : ∀ b, x.has b → H b ≠ none := by
      rintro b (e | e | e | e)
      · rw [e, h.obj]; simp
      · rw [e, h.pts]; simp
      · rw [e, h.high]; simp
      · rw [e, h.big]; simp
    have sep : JSep x j ka pa oa la := ⟨fun z => has_some j z nj, n1, n2, n3, fun z => has_some la z (s0.free nla)⟩
    refine ⟨_, rfl, h1.at_.o_close_choices, x, p, rfl, ⟨ta, tb, h1⟩, trivial, fun H2 k2 ⟨t2, tb2, h2⟩ => ?_⟩
    have hj2 := hj.keep k2 sep
    refine ⟨_, rfl, hj2.obj.o_is_foul, j, ka, pa, oa, ta, la, f, k, rfl, hj2, jo, trivial, fun H3 s3 => ⟨_, rfl, ?_⟩⟩
    have hj3 := hj2.mono s3
    have h3 := h2.keep s3
    have k03 : KF A x H H3 := ((KF.same s1).trans k2).trans (KF.same s3)
    unfold playP playL at q
    cases e : Kg53.isFoul f k with
    | true =>
      rw [if_pos e, if_pos e] at q
      refine iteT ⟨_, rfl, h3.at_.o_play_foul, _, rfl, x, p.close, j, ka, pa, oa, ta, la, f, k, rfl, ⟨t2, tb2, h3⟩, hj3, jo, ht, etab, sep, fun H4 l k4 h4 nl hl => ?_⟩
      exact q H4 l (k03.trans k4) h4 (k03.free h3 nl) hl
    | false =>
      rw [if_neg (by rw [e]; exact Bool.false_ne_true), if_neg (by rw [e]; exact Bool.false_ne_true)] at q
      refine iteF ⟨_, rfl, h3.at_.o_play_fair, _, rfl, x, p.close, j, ka, pa, oa, ta, la, f, k, rfl, ⟨t2, tb2, h3⟩, hj3, jo, e, ht, sep, fun H4 l k4 h4 nl hl => ?_⟩
      exact q H4 l (k03.trans k4) h4 (k03.free h3 nl) hl
theorem ok_Frame_fouls_needed (T : Txt K mg A) : FnOk P w K mg base CX0 2 A.Frame.fouls_needed.f A.Frame.fouls_needed.fd ["self", "player"] (sp_fouls_needed A) := by
  refine T.Frame.F_fouls_needed.ok sc_Frame_fouls_needed (fun vs H Q E h => ?_) (fun cdv Ar outer s H vs Q E hr h => ?_)
  · obtain ⟨x, p, n, rfl, _⟩ := h; rfl
  · obtain ⟨x, p, n, rfl, ⟨ta, tb, h⟩, ht, hn, q⟩ := h
    refine ⟨_, ((pss_cons (ps_set (i := 2) sc_Frame_fouls_needed.nd rfl (by first | exact Or.inl rfl | exact Or.inr rfl) (pe_op op_sub (pe_op op_sub (pe_ix ix_list (pe_f (pv 0) rfl) (pe_call (ok_other T) (hr.mono (by decide)) rfl T.fs.m_other T.fs.F_other.kp T.fs.b_other .nil pass0 (pa_cons (pv 1) pa_nil)) (fun _ _ => rfl)) (pe_ix ix_list (pe_f (pv 0) rfl) (pv 1) (fun _ _ => rfl))) (pe_m0c (pe_f (pv 0) rfl) T.Table.cl T.Table.t_left (ok_Table_left T) (hr.mono (by decide)) T.Table.b_left .nil pass0)))
      (pss_one (ps_ret (pe_callB (call_max2 rfl) rfl T.k.b_max boot_max (pa_cons pe_int (pa_cons (pe_op op_fdiv (pe_op op_sub (pe_op op_add (pv 2) (pe_const T.k.c_LEAST_COST rfl)) pe_int) (pe_const T.k.c_LEAST_COST rfl)) pa_nil))))))), ?_⟩
    have eo : ((1 : Int) - ((n : Nat) : Int)) = ((1 - n : Nat) : Int) := by omega
    refine ⟨_, rfl, _, h.at_.points T, _, rfl, _, rfl, ?_⟩
    rw [eo]
    refine ⟨x.pa, pl p.pts, _, _, rfl, rfl, SqL.of h.pts, pl_at (by omega), _, rfl, _, h.at_.points T, _, rfl, x.pa, pl p.pts, _, _, rfl, rfl, SqL.of h.pts, pl_at hn, _, _, rfl, rfl, ?_⟩
    refine ⟨_, rfl, _, h.at_.table T, h.tab.o_left, ta, p.table, rfl, h.tab, ht, fun H' s' => ⟨_, _, rfl, rfl, ?_⟩⟩
    refine ⟨_, rfl, _, _, rfl, rfl, _, _, rfl, rfl, _, _, rfl, rfl, ⟨by decide, by decide⟩, _, _, rfl, ?_⟩
    rw [behind_eq]
    exact q H' s'
theorem ok_Frame_as_it_stands (T : Txt K mg A) : FnOk P w K mg base CX0 3 A.Frame.as_it_stands.f A.Frame.as_it_stands.fd ["self"] (sp_as_it_stands A) := by
  refine T.Frame.F_as_it_stands.ok sc_Frame_as_it_stands (fun vs H Q E h => ?_) (fun cdv Ar outer s H vs Q E hr h => ?_)
  · obtain ⟨x, p, rfl, _⟩ := h; rfl
  · obtain ⟨x, p, rfl, ⟨ta, tb, h⟩, ht, q⟩ := h
    refine ⟨_, ((pss_cons (ps_set (i := 1) sc_Frame_as_it_stands.nd rfl (by first | exact Or.inl rfl | exact Or.inr rfl) (pe_ifExp (pt_val (pe_f (pv 0) rfl)) pe_int pe_int))
      (pss_cons (ps_set (i := 2) sc_Frame_as_it_stands.nd rfl (by first | exact Or.inl rfl | exact Or.inr rfl) (pe_lst (pa_cons (pe_f (pe_f (pv 0) rfl) rfl) (pa_cons (pe_f (pe_f (pv 0) rfl) rfl) (pa_cons (pe_f (pv 0) rfl) (pa_cons (pe_m0c (pe_f (pv 0) rfl) T.Table.cl T.Table.t_left (ok_Table_left T) (hr.mono (by decide)) T.Table.b_left .nil pass0) (pa_cons (pv 1) pa_nil)))))))
      (pss_one (ps_ret (pe_op op_cat (pe_op op_cat (pe_op op_cat (pe_lst (pa_cons (pe_f (pv 0) rfl) pa_nil)) (pe_f (pv 0) rfl)) (pv 2)) (pe_lst (pa_cons (pe_mc (pv 0) T.Frame.cl T.Frame.t_fouls_needed (ok_Frame_fouls_needed T) (hr.mono (by decide)) T.Frame.b_fouls_needed .nil pass0 (pa_cons pe_int pa_nil)) (pa_cons (pe_mc (pv 0) T.Frame.cl T.Frame.t_fouls_needed (ok_Frame_fouls_needed T) (hr.mono (by decide)) T.Frame.b_fouls_needed .nil pass0 (pa_cons pe_int pa_nil)) pa_nil))))))))), ?_⟩
    try dsimp only [gName, tNext]
    refine seq_of (fun σ' H' => σ' = [some (.ref x.a), some (.int (Kg53.truth p.free : Nat)), none] ∧ H' = H) ?_ ?_
    · rintro σ0 H0 ⟨rfl, rfl⟩
      refine ⟨_, rfl, _, h.at_.table T, _, h.tab.reds T, _, rfl, _, h.at_.table T, _, h.tab.on T, _, rfl, _, h.at_.break_so_far T, _, rfl, _, h.at_.table T, h.tab.o_left, ta, p.table, rfl, h.tab, ht, fun H1 s1 => ?_⟩
      have h1 := h.keep s1
      refine ⟨_, rfl, by show 5 ≤ sizeLine; decide, fun l1 hl1 => ?_⟩
      -- [turn] + points
      obtain ⟨H2, e2, g1, s12⟩ := new_obj (o := .lst [.int p.table.reds, .int (tO p.table : Nat), .int p.brk, .int p.table.left, .int (Kg53.truth p.free : Nat)]) hl1
      dsimp only [gName, tNext]
      rw [e2]
      have s2 := s1.trans s12
      have h2 := h.keep s2
      refine ⟨_, rfl, _, h2.at_.turn T, by show 1 ≤ sizeLine; decide, fun l2 hl2 => ?_⟩
      have s3 := same_cat (o := .lst [.int p.turn]) s2 hl2
      have g2 : Same H2 (upd H2 l2 (.lst [.int p.turn])) := same_upd_new hl2
      generalize hH3 : upd H2 l2 (.lst [.int p.turn]) = H3 at s3 g2
      have g3 : H3 l2 = some (.lst [.int p.turn]) := by rw [← hH3, upd_same]
      have h3 := h.keep s3
      refine ⟨_, rfl, _, h3.at_.points T, l2, x.pa, _, _, rfl, rfl, g3, h3.pts, by show 3 ≤ sizeLine; decide, fun l3 hl3 => ?_⟩
      have s4 := same_cat (o := .lst ([.int p.turn] ++ pl p.pts)) s3 hl3
      have g4 : Same H3 (upd H3 l3 (.lst ([.int p.turn] ++ pl p.pts))) := same_upd_new hl3
      generalize hH4 : upd H3 l3 (.lst ([.int p.turn] ++ pl p.pts)) = H4 at s4 g4
      have g5 : H4 l3 = some (.lst ([.int p.turn] ++ pl p.pts)) := by rw [← hH4, upd_same]
      refine ⟨_, rfl, l3, l1, _, _, rfl, rfl, g5, g4 _ _ (g2 _ _ g1), by show 8 ≤ sizeLine; decide, fun l4 hl4 => ?_⟩
      generalize hL : [V.int p.turn] ++ pl p.pts ++ [.int p.table.reds, .int (tO p.table : Nat), .int p.brk, .int p.table.left, .int (Kg53.truth p.free : Nat)] = L
      have s5 := same_cat (o := .lst L) s4 hl4
      generalize hH5 : upd H4 l4 (.lst L) = H5 at s5
      have g6 : H5 l4 = some (.lst L) := by rw [← hH5, upd_same]
      have h5 := h.keep s5
      refine ⟨_, rfl, h5.at_.o_fouls_needed, x, p, 0, rfl, ⟨ta, tb, h5⟩, ht, by omega, fun H6 s6 => ?_⟩
      have h6 := h5.keep s6
      refine ⟨_, rfl, h6.at_.o_fouls_needed, x, p, 1, rfl, ⟨ta, tb, h6⟩, ht, by omega, fun H7 s7 => ?_⟩
      refine ⟨by show 2 ≤ sizeLine; decide, fun l5 hl5 => ?_⟩
      have s8 := same_cat (o := .lst [.int ((p.pts.of (1 - 0) - (p.pts.of 0 + p.table.left) + 3) / 4 : Nat), .int ((p.pts.of (1 - 1) - (p.pts.of 1 + p.table.left) + 3) / 4 : Nat)]) ((s5.trans s6).trans s7) hl5
      have g8 : Same H7 (upd H7 l5 (.lst [.int ((p.pts.of (1 - 0) - (p.pts.of 0 + p.table.left) + 3) / 4 : Nat), .int ((p.pts.of (1 - 1) - (p.pts.of 1 + p.table.left) + 3) / 4 : Nat)])) := same_upd_new hl5
      refine ⟨l4, l5, _, _, rfl, rfl, g8 _ _ (s7 _ _ (s6 _ _ g6)), upd_same, by rw [← hL]; show 10 ≤ sizeLine; decide, fun l6 hl6 => ?_⟩
      refine q _ l6 (same_cat s8 hl6) (s8.free hl6) ?_
      rw [upd_same, ← hL]
      rfl
    · intro N hN
      refine ⟨_, rfl, _, h.at_.may_name_free T, _, rfl, ?_⟩
      cases e : p.free with
      | true => rw [e] at hN; exact iteT (hN _ _ ⟨rfl, rfl⟩)
      | false => rw [e] at hN; exact iteF (hN _ _ ⟨rfl, rfl⟩)
theorem ok_Frame_outcome (T : Txt K mg A) : FnOk P w K mg base CX0 1 A.Frame.outcome.f A.Frame.outcome.fd ["self"] (sp_outcome A) := by
  refine T.Frame.F_outcome.ok sc_Frame_outcome (fun vs H Q E h => ?_) (fun cdv Ar outer s H vs Q E hr h => ?_)
  · obtain ⟨x, ta, tb, p, rfl, _⟩ := h; rfl
  · obtain ⟨x, ta, tb, p, rfl, h, q⟩ := h
    refine ⟨_, ((pss_one (ps_ret (pe_op op_cat (pe_op op_cat (pe_lst (pa_cons (pe_f (pv 0) rfl) (pa_cons (pe_f (pv 0) rfl) pa_nil))) (pe_f (pv 0) rfl)) (pe_f (pv 0) rfl))))), ?_⟩
    refine ⟨_, rfl, _, h.at_.winner T, _, rfl, _, h.at_.how T, by show 2 ≤ sizeLine; decide, fun l1 hl1 => ?_⟩
    have s1 := same_cat (o := .lst [.int p.winner, .int p.how]) (Same.refl H) hl1
    have h1 := h.mono s1
    refine ⟨_, rfl, _, h1.at_.points T, l1, x.pa, _, _, rfl, rfl, upd_same, h1.pts, by show 4 ≤ sizeLine; decide, fun l2 hl2 => ?_⟩
    have s2 := same_cat (o := .lst ([.int p.winner, .int p.how] ++ pl p.pts)) s1 hl2
    have h2 := h.mono s2
    refine ⟨_, rfl, _, h2.at_.highest_breaks T, l2, x.ha, _, _, rfl, rfl, upd_same, h2.high, by show 6 ≤ sizeLine; decide, fun l3 hl3 => ?_⟩
    exact q _ l3 (same_cat s2 hl3) (s2.free hl3) upd_same
theorem ok_Frame_init (T : Txt K mg A) : FnOk P w K mg base CX0 5 A.Frame.init.f A.Frame.init.fd ["self", "first"] (sp_Frame_init A) := by
  refine T.Frame.F_init.ok sc_Frame_init (fun vs H Q E h => ?_) (fun cdv Ar outer s H vs Q E hr h => ?_)
  · obtain ⟨p, dx, n, rfl, _⟩ := h; rfl
  · obtain ⟨p, dx, n, rfl, hp, q⟩ := h
    refine ⟨_, ((pss_cons (ps_fs (pv 0) (pe_lst (pa_cons pe_int (pa_cons pe_int pa_nil))) rfl)
      (pss_cons (ps_fs (pv 0) (pv 1) rfl)
      (pss_cons (ps_fs (pv 0) (pe_call0 (ok_full_table T) (hr.mono (by decide)) rfl T.fs.m_full_table T.fs.F_full_table.kp T.fs.b_full_table .nil pass0) rfl)
      (pss_cons (ps_fs (pv 0) (pe_const T.k.c_NOBODY rfl) rfl)
      (pss_cons (ps_fs (pv 0) (pe_const T.k.c_PLAYED_OUT rfl) rfl)
      (pss_cons (ps_fs (pv 0) pe_int rfl)
      (pss_cons (ps_fs (pv 0) (pe_lst (pa_cons pe_int (pa_cons pe_int pa_nil))) rfl)
      (pss_cons (ps_fs (pv 0) (pe_lst (pa_cons pe_int (pa_cons pe_int pa_nil))) rfl)
      (pss_cons (ps_fs (pv 0) pe_int rfl)
      (pss_cons (ps_fs (pv 0) (pe_f (pv 0) rfl) rfl)
      (pss_cons (ps_fs (pv 0) pe_int rfl)
      (pss_one (ps_expr (pe_m0c (pv 0) T.Frame.cl T.Frame.t_close_choices (ok_Frame_close_choices0 T) (hr.mono (by decide)) T.Frame.b_close_choices .nil pass0))))))))))))))), ?_⟩
    -- points
    refine ⟨by show 2 ≤ sizeLine; decide, fun l1 hl1 => ?_⟩
    have n1 : p ≠ l1 := ne_of_none hp hl1
    refine ⟨_, rfl, p, _, dx, _, rfl, by rw [upd_ne n1]; exact hp, ⟨T.Frame.cl, T.Frame.na_points, by decide⟩, ?_⟩
    refine ⟨_, rfl, _, rfl, p, _, dx, _, rfl, upd_same, ⟨T.Frame.cl, T.Frame.na_turn, Frame_l1 ..⟩, ?_⟩
    rw [upd_upd]
    -- table
    refine ⟨rfl, fun G t sG nt hT => ?_⟩
    have Gp := sG _ _ upd_same
    have G1 : G l1 = some (.lst [.int 0, .int 0]) := sG _ _ (by rw [upd_ne (Ne.symm n1), upd_same])
    have kG : Kept H G p := fun b o e hb => sG b o (by rw [upd_ne hb, upd_ne (ne_of_none e hl1)]; exact e)
    refine ⟨_, rfl, p, _, dx, _, rfl, Gp, ⟨T.Frame.cl, T.Frame.na_table, Frame_l2 ..⟩, ?_⟩
    refine ⟨_, rfl, p, _, dx, _, rfl, upd_same, ⟨T.Frame.cl, T.Frame.na_winner, Frame_l3 ..⟩, ?_⟩
    rw [upd_upd]
    refine ⟨_, rfl, p, _, dx, _, rfl, upd_same, ⟨T.Frame.cl, T.Frame.na_how, Frame_l4 ..⟩, ?_⟩
    rw [upd_upd]
    refine ⟨_, rfl, p, _, dx, _, rfl, upd_same, ⟨T.Frame.cl, T.Frame.na_break_so_far, Frame_l5 ..⟩, ?_⟩
    rw [upd_upd]
    -- highest breaks
    refine ⟨by show 2 ≤ sizeLine; decide, fun l2 hl2 => ?_⟩
    have n2 : p ≠ l2 := ne_of_none upd_same hl2
    rw [upd_ne (Ne.symm n2)] at hl2
    refine ⟨_, rfl, p, _, dx, _, rfl, by rw [upd_ne n2, upd_same], ⟨T.Frame.cl, T.Frame.na_highest_breaks, Frame_l6 ..⟩, ?_⟩
    -- big breaks
    refine ⟨by show 2 ≤ sizeLine; decide, fun l3 hl3 => ?_⟩
    have n3 : p ≠ l3 := ne_of_none upd_same hl3
    rw [upd_ne (Ne.symm n3)] at hl3
    have n23 : l2 ≠ l3 := ne_of_none upd_same hl3
    rw [upd_ne (Ne.symm n23), upd_ne (Ne.symm n3)] at hl3
    refine ⟨_, rfl, p, _, dx, _, rfl, by rw [upd_ne n3, upd_same], ⟨T.Frame.cl, T.Frame.na_big_breaks, Frame_l7 ..⟩, ?_⟩
    refine ⟨_, rfl, p, _, dx, _, rfl, upd_same, ⟨T.Frame.cl, T.Frame.na_misses, Frame_l8 ..⟩, ?_⟩
    rw [upd_upd]
    refine ⟨_, rfl, V.ref t, ⟨p, _, dx, _, rfl, upd_same, T.Frame.cl, T.Frame.na_table, (by kernel_rfl)⟩, _, rfl, p, _, dx, _, rfl, upd_same, ⟨T.Frame.cl, T.Frame.na_table_if_back, Frame_l9 ..⟩, ?_⟩
    rw [upd_upd]
    refine ⟨_, rfl, p, _, dx, _, rfl, upd_same, ⟨T.Frame.cl, T.Frame.na_misses_if_back, Frame_l10 ..⟩, ?_⟩
    rw [upd_upd]
    refine ⟨_, rfl, ⟨p, dx, _, rfl, upd_same, (by kernel_rfl)⟩, p, dx, _, rfl, upd_same, of_decide_eq_true (by kernel_rfl), ?_⟩
    rw [upd_upd, Frame_mk]
    have m1 : l1 ≠ l2 := ne_of_none G1 hl2
    have m2 : l1 ≠ l3 := ne_of_none G1 hl3
    have kL : ∀ {b : Addr} {u : HO} {o1 o2 o3 L2 L3 : HO}, G b = some u → b ≠ p → upd (upd (upd (upd (upd G p o1) l2 L2) p o2) l3 L3) p o3 b = some u := fun {b u o1 o2 o3 L2 L3} e hb => by
      rw [upd_ne hb, upd_ne (ne_of_none e hl3), upd_ne hb, upd_ne (ne_of_none e hl2), upd_ne hb]; exact e
    obtain ⟨dT, eT⟩ := hT
    have nT : t ≠ p := Ne.symm (ne_of_none upd_same nt)
    refine (fun a b c => q _ ⟨p, dx, l1, l2, l3⟩ rfl a b c) (fun b o e hb => kL (kG b o e hb) hb) ⟨t, t, ⟨upd_same, kL G1 (Ne.symm n1), ?_, ?_, ⟨dT, kL eT nT⟩, ⟨dT, kL eT nT⟩, m1, m2, n23⟩⟩ ?_
    · show upd (upd (upd (upd (upd G p _) l2 _) p _) l3 _) p _ l2 = _
      rw [upd_ne (Ne.symm n2), upd_ne n23, upd_ne (Ne.symm n2), upd_same]; rfl
    · show upd (upd (upd (upd (upd G p _) l2 _) p _) l3 _) p _ l3 = _
      rw [upd_ne (Ne.symm n3), upd_same]; rfl
    · have fr : ∀ l, l ≠ p → G l = none → H l = none := fun l hl e => by
        cases z : H l with
        | none => rfl
        | some o => rw [kG l o z hl] at e; cases e
      rintro b (e | e | e | e)
      · exact .inl e
      · right; rw [e]; exact hl1
      · right; rw [e]; exact fr l2 (Ne.symm n2) hl2
      · right; rw [e]; exact fr l3 (Ne.symm n3) hl3
end
end Cue
end
section
set_option Elab.async false
set_option linter.all false
set_option maxRecDepth 100000
set_option autoImplicit false
set_option maxHeartbeats 4000000
namespace Cue
open PySem PySem.Spec PyProof.Rows L2
/-! ### the match on the heap -/
def OvAt (A : Adr) (G : Hp) (a : Addr) (o : Kg53.Over) : Prop := ∃ (x : FA) (ta tb : Addr) (p : PF), x.a = a ∧ OvObj A G x ta tb p ∧ OR o p
theorem OvAt.mono {A : Adr} {G G' : Hp} {a : Addr} {o : Kg53.Over} (s : Same G G') (h : OvAt A G a o) : OvAt A G' a o := let ⟨x, ta, tb, p, e, h, r⟩ := h; ⟨x, ta, tb, p, e, h.mono s, r⟩
structure MC (A : Adr) (H : Hp) (Z : Addr → Prop) (m dx wa oa : Addr) (as : List Addr) (G : Hp) (fv : V) (st : Nat) (s : Kg53.State) : Prop where
  obj : H m = some (.ins A.Match.c dx (Match_fs (.int s.best) (.ref wa) (.int st) fv (.ref oa)))
  won : H wa = some (.lst [.int (Kg53.wins s.over 0 : Nat), .int (Kg53.wins s.over 1 : Nat)])
  ovr : H oa = some (.lst (as.map V.ref))
  sub : Same G H
  all : Paired (OvAt A G) as s.over
  gm : G m = none
  gw : G wa = none
  go : G oa = none
  nwo : wa ≠ oa
  zm : Z m
  zw : Z wa
  zo : Z oa
  zg : ∀ b, G b ≠ none → Z b
  dom : ∀ b, Z b → H b ≠ none
structure MF (A : Adr) (H : Hp) (Z : Addr → Prop) (m wa oa : Addr) (G : Hp) (st : Nat) (s : Kg53.State) (x : FA) (p : PF) : Prop where
  fr : FAt A H x p
  ok : SOk s
  st : st = (s.first + s.over.length) % 2
  sep : ∀ b, x.has b → Z b ∧ G b = none ∧ b ≠ m ∧ b ≠ wa ∧ b ≠ oa
def MM (A : Adr) (H : Hp) (Z : Addr → Prop) (m : Addr) (s : Kg53.State) : Prop := ∃ (dx wa oa : Addr) (as : List Addr) (G : Hp) (fv : V) (st : Nat), MC A H Z m dx wa oa as G fv st s ∧
  ((s.frame = none ∧ fv = .non) ∨ ∃ f x p, s.frame = some f ∧ fv = .ref x.a ∧ MF A H Z m wa oa G st s x p ∧ FR f p)
def MEnd (A : Adr) (H : Hp) (Z : Addr → Prop) (m : Addr) (s : Kg53.State) (o : Kg53.Over) : Prop := ∃ (dx wa oa : Addr) (as : List Addr) (G : Hp) (st : Nat) (x : FA) (p : PF), MC A H Z m dx wa oa as G (.ref x.a) st s ∧ MF A H Z m wa oa G st s x p ∧ OR o p
structure KZ (Z : Addr → Prop) (H H' : Hp) : Prop where
  out : ∀ b o, H b = some o → ¬ Z b → H' b = some o
  dm : ∀ b, H' b = none → H b = none
def Nw (Z Z' : Addr → Prop) (H : Hp) : Prop := ∀ b, Z' b → Z b ∨ H b = none
section
variable {A : Adr} {H H' H1 : Hp} {Z : Addr → Prop} {m dx wa oa : Addr} {as : List Addr} {G : Hp} {fv : V} {st : Nat} {s : Kg53.State} {x : FA} {p : PF}
theorem MC.keep (h : MC A H Z m dx wa oa as G fv st s) (k : ∀ b o, H b = some o → Z b → H' b = some o) : MC A H' Z m dx wa oa as G fv st s :=
  ⟨k _ _ h.obj h.zm, k _ _ h.won h.zw, k _ _ h.ovr h.zo, fun b o e => k b o (h.sub b o e) (h.zg b (by rw [e]; simp)), h.all, h.gm, h.gw, h.go, h.nwo, h.zm, h.zw, h.zo, h.zg, fun b z e => by
    cases q : H b with
    | none => exact h.dom b z q
    | some o => rw [k b o q z] at e; cases e⟩
theorem FAt.keepZ (h : FAt A H x p) (k : ∀ b o, H b = some o → (x.has b ∨ IsTab A o) → H' b = some o) : FAt A H' x p :=
  let ⟨ta, tb, h⟩ := h
  ⟨ta, tb, k _ _ h.obj (.inl (.inl rfl)), k _ _ h.pts (.inl (.inr (.inl rfl))), k _ _ h.high (.inl (.inr (.inr (.inl rfl)))), k _ _ h.big (.inl (.inr (.inr (.inr rfl)))),
    let ⟨d, e⟩ := h.tab; ⟨d, k _ _ e (.inr ⟨d, _, _, _, rfl⟩)⟩, let ⟨d, e⟩ := h.tbk; ⟨d, k _ _ e (.inr ⟨d, _, _, _, rfl⟩)⟩, h.n1, h.n2, h.n3⟩
theorem MF.keep (h : MF A H Z m wa oa G st s x p) (k : ∀ b o, H b = some o → (Z b ∨ IsTab A o) → H' b = some o) : MF A H' Z m wa oa G st s x p :=
  ⟨h.fr.keepZ fun b o e z => k b o e (z.imp (fun q => (h.sep b q).1) id), h.ok, h.st, h.sep⟩
theorem MM.keep (h : MM A H Z m s) (k : ∀ b o, H b = some o → (Z b ∨ IsTab A o) → H' b = some o) : MM A H' Z m s := by
  obtain ⟨dx, wa, oa, as, G, fv, st, c, h⟩ := h
  refine ⟨dx, wa, oa, as, G, fv, st, c.keep fun b o e z => k b o e (.inl z), ?_⟩
  rcases h with h | ⟨f, x, p, e1, e2, h, r⟩
  · exact .inl h
  · exact .inr ⟨f, x, p, e1, e2, h.keep k, r⟩
theorem MM.same (h : MM A H Z m s) (k : Same H H') : MM A H' Z m s := h.keep fun b o e _ => k b o e
theorem MM.dom (h : MM A H Z m s) : ∀ b, Z b → H b ≠ none := let ⟨_, _, _, _, _, _, _, c, _⟩ := h; c.dom
theorem KZ.same (k : Same H H') : KZ Z H H' := ⟨fun b o e _ => k b o e, fun b e => k.free e⟩
theorem KZ.then_ (a : KZ Z H H') (k : Same H' H1) : KZ Z H H1 := ⟨fun b o e z => k b o (a.out b o e z), fun b e => a.dm b (k.free e)⟩
theorem KZ.trans {Z' : Addr → Prop} (a : KZ Z H H') (b : KZ Z' H' H1) (n : Nw Z Z' H) : KZ Z H H1 := ⟨fun c o e z => b.out c o (a.out c o e z) fun z' => (n c z').elim z fun q => (by rw [q] at e; cases e), fun c e => a.dm c (b.dm c e)⟩
theorem Nw.refl : Nw Z Z H := fun b z => .inl z
/-- the frame has changed, by itself alone -/
theorem MC.frame (c : MC A H Z m dx wa oa as G fv st s) (h : MF A H Z m wa oa G st s x p) (k : KF A x H H') {q : PF} (hq : FAt A H' x q) : MC A H' Z m dx wa oa as G fv st s ∧ MF A H' Z m wa oa G st s x q ∧ KZ Z H H' := by
  have no : ∀ b, (b = m ∨ b = wa ∨ b = oa) → ¬ x.has b := fun b e z => by
    have := h.sep b z
    rcases e with e | e | e
    · exact this.2.2.1 e
    · exact this.2.2.2.1 e
    · exact this.2.2.2.2 e
  have hx : ∀ b, x.has b → H' b ≠ none := by
    obtain ⟨ta, tb, hq⟩ := hq
    rintro b (e | e | e | e)
    · rw [e, hq.obj]; simp
    · rw [e, hq.pts]; simp
    · rw [e, hq.high]; simp
    · rw [e, hq.big]; simp
  refine ⟨⟨k.out c.obj (no m (.inl rfl)), k.out c.won (no wa (.inr (.inl rfl))), k.out c.ovr (no oa (.inr (.inr rfl))), fun b o e => k.out (c.sub b o e) fun z => (by have := (h.sep b z).2.1; rw [e] at this; cases this), c.all, c.gm, c.gw, c.go, c.nwo, c.zm, c.zw, c.zo, c.zg, fun b z e => ?_⟩,
    ⟨hq, h.ok, h.st, h.sep⟩, ⟨fun b o e z => k.out e fun w => z (h.sep b w).1, fun b e => let ⟨_, _, hq⟩ := hq; k.free hq e⟩⟩
  by_cases w : x.has b
  · exact hx b w e
  · cases q : H b with
    | none => exact c.dom b z q
    | some o => rw [k.out q w] at e; cases e
/-! stores to the match -/
theorem m_st_best {b w s f o v : V} {C : Addr} (h : H m = some (.ins C dx (Match_fs b w s f o))) : ∃ H1, upd H m (.ins C dx (putF "best" v (Match_fs b w s f o))) = H1 ∧ H1 m = some (.ins C dx (Match_fs v w s f o)) ∧ ∀ c, c ≠ m → H1 c = H c := ⟨_, rfl, by rw [Match_p_best, upd_same], fun c hc => upd_ne hc⟩
theorem m_st_won {b w s f o v : V} {C : Addr} (h : H m = some (.ins C dx (Match_fs b w s f o))) : ∃ H1, upd H m (.ins C dx (putF "won" v (Match_fs b w s f o))) = H1 ∧ H1 m = some (.ins C dx (Match_fs b v s f o)) ∧ ∀ c, c ≠ m → H1 c = H c := ⟨_, rfl, by rw [Match_p_won, upd_same], fun c hc => upd_ne hc⟩
theorem m_st_starter {b w s f o v : V} {C : Addr} (h : H m = some (.ins C dx (Match_fs b w s f o))) : ∃ H1, upd H m (.ins C dx (putF "starter" v (Match_fs b w s f o))) = H1 ∧ H1 m = some (.ins C dx (Match_fs b w v f o)) ∧ ∀ c, c ≠ m → H1 c = H c := ⟨_, rfl, by rw [Match_p_starter, upd_same], fun c hc => upd_ne hc⟩
theorem m_st_frame {b w s f o v : V} {C : Addr} (h : H m = some (.ins C dx (Match_fs b w s f o))) : ∃ H1, upd H m (.ins C dx (putF "frame" v (Match_fs b w s f o))) = H1 ∧ H1 m = some (.ins C dx (Match_fs b w s v o)) ∧ ∀ c, c ≠ m → H1 c = H c := ⟨_, rfl, by rw [Match_p_frame, upd_same], fun c hc => upd_ne hc⟩
theorem m_st_over {b w s f o v : V} {C : Addr} (h : H m = some (.ins C dx (Match_fs b w s f o))) : ∃ H1, upd H m (.ins C dx (putF "frames_over" v (Match_fs b w s f o))) = H1 ∧ H1 m = some (.ins C dx (Match_fs b w s f v)) ∧ ∀ c, c ≠ m → H1 c = H c := ⟨_, rfl, by rw [Match_p_frames_over, upd_same], fun c hc => upd_ne hc⟩
theorem MC.at_ (c : MC A H Z m dx wa oa as G fv st s) : MatchAt A H m (.int s.best) (.ref wa) (.int st) fv (.ref oa) := ⟨dx, c.obj⟩
end
/-! ### promises -/
/-- a call of the match: what the document says of it -/
def spM (A : Adr) (as : List V) (c : Kg53.Call) : Sp := fun vs H Q _ => ∃ (m : Addr) (Z : Addr → Prop) (s : Kg53.State), vs = .ref m :: as ∧ MM A H Z m s ∧ s.over.length ≤ 1000 ∧
  ∀ (H' : Hp) (Z' : Addr → Prop) (l : Addr), KZ Z H H' → Nw Z Z' H → MM A H' Z' m (Kg53.spec s c).1 → H l = none → H' l = some (.lst (((Kg53.spec s c).2.value :: (Kg53.spec s c).2.out).map V.int)) → Q (.ref l) H'
def sp_is_player : Sp := fun vs H Q _ => ∃ z : Int, vs = [.int z] ∧ Q (.bl (decide (z = 0) || decide (z = 1))) H
def sp_toss_m (A : Adr) : Sp := fun vs H Q E => ∃ z : Int, spM A [.int z] (.toss z) vs H Q E
def sp_begin (A : Adr) : Sp := fun vs H Q E => ∃ b f : Int, spM A [.int b, .int f] (.begin_ b f) vs H Q E
def sp_tell (A : Adr) (r : Kg53.State → Nat → Nat) : Sp := fun vs H Q _ => ∃ (m : Addr) (Z : Addr → Prop) (s : Kg53.State) (n : Nat), vs = [.ref m, .int n] ∧ MM A H Z m s ∧ s.over.length ≤ 1000 ∧ n ≤ 1 ∧ ∀ H', Same H H' → Q (.int (r s n : Nat)) H'
def highN (s : Kg53.State) (n : Nat) : Nat := (s.over.map fun o => o.high.of n).foldl max 0
def bigN (s : Kg53.State) (n : Nat) : Nat := (s.over.map fun o => o.hundreds.of n).sum
theorem paired_get {α β : Type} {F : α → β → Prop} : ∀ {l : List α} {r : List β} {i : Nat} {a : α}, Paired F l r → l[i]? = some a → ∃ b, r[i]? = some b ∧ F a b
  | _, _, i, a, .nil, h => by simp at h
  | _, _, 0, a, .cons h t, e => ⟨_, rfl, by have e := Option.some.inj e; subst e; exact h⟩
  | _, _, i + 1, a, .cons h t, e => paired_get (i := i) t e
section
variable {P : Program} {w : World} {K : PySem.W.Frag} {mg : Str → Option Value} {base : Heap} {A : Adr}
theorem ok_is_player (T : Txt K mg A) : FnOk P w K mg base CX0 1 A.fs.is_player.f A.fs.is_player.fd ["number"] sp_is_player := by
  refine T.fs.F_is_player.ok sc_is_player (fun vs H Q E h => ?_) (fun cdv Ar outer s H vs Q E hr h => ?_)
  · obtain ⟨z, rfl, _⟩ := h; rfl
  · obtain ⟨z, rfl, q⟩ := h
    refine ⟨_, ((pss_one (ps_ret (pe_or (pe_cmpR op_eq (pv 0) pe_int (nomark _)) (pe_one (pe_cmpR op_eq (pv 0) pe_int (nomark _))))))), ?_⟩
    refine ⟨_, rfl, rfl, _, rfl, ?_⟩
    rw [dI]
    cases e : decide (z = 0) with
    | true => rw [e] at q; exact iteT q
    | false =>
      rw [e] at q
      refine iteF ⟨_, rfl, rfl, ?_⟩
      rw [dI]
      exact q
/-- a list is answered, nothing else is done -/
theorem spM_same {H H0 : Hp} {Z : Addr → Prop} {m : Addr} {s : Kg53.State} {Q : VK} {s' : Kg53.State} {ans : List Int} (h : MM A H Z m s) (k : Same H H0) (q : ∀ (H' : Hp) (Z' : Addr → Prop) (l : Addr), KZ Z H H' → Nw Z Z' H → MM A H' Z' m s' → H l = none → H' l = some (.lst (ans.map V.int)) → Q (.ref l) H') (es : s' = s) :
    ∀ l, H0 l = none → Q (.ref l) (upd H0 l (.lst (ans.map V.int))) := fun l hl => by
  subst es
  exact q _ Z l (KZ.same (same_cat k hl)) Nw.refl (h.same (same_cat k hl)) (k.free hl) upd_same
theorem ok_Match_again (T : Txt K mg A) : FnOk P w K mg base CX0 4 A.Match.again.f A.Match.again.fd ["self"] (spM A [] .again) := by
  refine T.Match.F_again.ok sc_Match_again (fun vs H Q E h => ?_) (fun cdv Ar outer s H vs Q E hr h => ?_)
  · obtain ⟨m, Z, s, rfl, _⟩ := h; rfl
  · obtain ⟨m, Z, s, rfl, hm, _, q⟩ := h
    refine ⟨_, ((pss_cons (ps_if (pt_cmpR op_isN (pe_f (pv 0) rfl) pe_non (nomark _)) (pss_one (ps_ret (pe_lst (pa_cons (pe_const T.k.c_NO_FRAME rfl) pa_nil)))) pss_nil)
      (pss_cons (ps_if (pt_not (pt_val (pe_f (pe_f (pv 0) rfl) rfl))) (pss_one (ps_ret (pe_lst (pa_cons (pe_const T.k.c_NOT_NOW rfl) pa_nil)))) pss_nil)
      (pss_cons (ps_expr (pe_m0c (pe_f (pv 0) rfl) T.Frame.cl T.Frame.t_again (ok_Frame_again T) (hr.mono (by decide)) T.Frame.b_again .nil pass0))
      (pss_one (ps_ret (pe_lst (pa_cons (pe_f (pe_f (pv 0) rfl) rfl) pa_nil)))))))), ?_⟩
    obtain ⟨dx, wa, oa, as, G, fv, st, c, h⟩ := id hm
    refine ⟨_, rfl, _, c.at_.frame T, rfl, _, rfl, ?_⟩
    rcases h with ⟨en, rfl⟩ | ⟨f, x, p, es, rfl, mf, fr⟩
    · have e1 : Kg53.spec s .again = (s, Kg53.num (-2)) := by show Kg53.onFrame s _ = _; unfold Kg53.onFrame; rw [en]
      rw [e1] at q
      exact iteT ⟨by show 1 ≤ sizeLine; decide, spM_same (ans := [-2]) hm (Same.refl H) q rfl⟩
    · refine iteF ?_
      obtain ⟨ta, tb, hf⟩ := mf.fr
      refine ⟨_, rfl, _, c.at_.frame T, _, hf.at_.may_again T, _, rfl, ?_⟩
      rw [fr.ago]
      cases ef : f.foul with
      | none =>
        have e1 : Kg53.spec s .again = (s, Kg53.num (-5)) := by show Kg53.onFrame s _ = _; unfold Kg53.onFrame; rw [es]; dsimp only; rw [ef]; rfl
        rw [e1] at q
        exact iteT ⟨by show 1 ≤ sizeLine; decide, spM_same (ans := [-5]) hm (Same.refl H) q rfl⟩
      | some u =>
        obtain ⟨fr', ht⟩ := again_rel fr ef
        have e1 : Kg53.spec s .again = ({ s with frame := some { f with who := Kg53.other f.who, free := false, foul := none, misses := 0 } }, Kg53.num (Kg53.other f.who : Nat)) := by show Kg53.onFrame s _ = _; unfold Kg53.onFrame; rw [es]; dsimp only; rw [ef]; rfl
        rw [e1] at q
        refine iteF ⟨_, rfl, _, c.at_.frame T, hf.at_.o_again, x, p, rfl, ⟨ta, tb, hf⟩, fr.turn_le ht, fun H1 k1 h1 => ?_⟩
        obtain ⟨c1, mf1, kz⟩ := c.frame mf k1 h1
        obtain ⟨ta1, tb1, hf1⟩ := id h1
        refine ⟨_, rfl, _, c1.at_.frame T, _, hf1.at_.turn T, by show 1 ≤ sizeLine; decide, fun l hl => ?_⟩
        have s2 : Same H1 (upd H1 l (.lst [.int (p.doAgain.turn : Nat)])) := same_upd_new hl
        have hm1 : MM A H1 Z m { s with frame := some { f with who := Kg53.other f.who, free := false, foul := none, misses := 0 } } := ⟨dx, wa, oa, as, G, _, st, ⟨c1.obj, c1.won, c1.ovr, c1.sub, c1.all, c1.gm, c1.gw, c1.go, c1.nwo, c1.zm, c1.zw, c1.zo, c1.zg, c1.dom⟩, .inr ⟨_, x, _, rfl, rfl, ⟨mf1.fr, ⟨mf1.ok.first, mf1.ok.w0, mf1.ok.w1⟩, mf1.st, mf1.sep⟩, fr'⟩⟩
        refine q _ Z l (kz.then_ s2) Nw.refl (hm1.same s2) (k1.free hf1 hl) ?_
        rw [upd_same]
        have et : p.doAgain.turn = Kg53.other f.who := by have := fr'.turn; rw [this]; show (if f.toss = true then 2 else Kg53.other f.who) = _; rw [ht]; rfl
        rw [et]
        rfl
theorem ok_Match_back (T : Txt K mg A) : FnOk P w K mg base CX0 5 A.Match.back.f A.Match.back.fd ["self"] (spM A [] .back) := by
  refine T.Match.F_back.ok sc_Match_back (fun vs H Q E h => ?_) (fun cdv Ar outer s H vs Q E hr h => ?_)
  · obtain ⟨m, Z, s, rfl, _⟩ := h; rfl
  · obtain ⟨m, Z, s, rfl, hm, _, q⟩ := h
    refine ⟨_, ((pss_cons (ps_if (pt_cmpR op_isN (pe_f (pv 0) rfl) pe_non (nomark _)) (pss_one (ps_ret (pe_lst (pa_cons (pe_const T.k.c_NO_FRAME rfl) pa_nil)))) pss_nil)
      (pss_cons (ps_if (pt_not (pt_val (pe_f (pe_f (pv 0) rfl) rfl))) (pss_one (ps_ret (pe_lst (pa_cons (pe_const T.k.c_NOT_NOW rfl) pa_nil)))) pss_nil)
      (pss_cons (ps_expr (pe_m0c (pe_f (pv 0) rfl) T.Frame.cl T.Frame.t_back (ok_Frame_back T) (hr.mono (by decide)) T.Frame.b_back .nil pass0))
      (pss_one (ps_ret (pe_lst (pa_cons (pe_f (pe_f (pv 0) rfl) rfl) pa_nil)))))))), ?_⟩
    obtain ⟨dx, wa, oa, as, G, fv, st, c, h⟩ := id hm
    refine ⟨_, rfl, _, c.at_.frame T, rfl, _, rfl, ?_⟩
    rcases h with ⟨en, rfl⟩ | ⟨f, x, p, es, rfl, mf, fr⟩
    · have e1 : Kg53.spec s .back = (s, Kg53.num (-2)) := by show Kg53.onFrame s _ = _; unfold Kg53.onFrame; rw [en]
      rw [e1] at q
      exact iteT ⟨by show 1 ≤ sizeLine; decide, spM_same (ans := [-2]) hm (Same.refl H) q rfl⟩
    · refine iteF ?_
      obtain ⟨ta, tb, hf⟩ := mf.fr
      refine ⟨_, rfl, _, c.at_.frame T, _, hf.at_.may_back T, _, rfl, ?_⟩
      rw [fr.bck]
      have no : (f.foul.map Kg53.Foul.missed).getD false = false → Kg53.spec s .back = (s, Kg53.num (-5)) := fun eb => by
        show Kg53.onFrame s _ = _
        unfold Kg53.onFrame
        rw [es]
        dsimp only
        cases ef : f.foul with
        | none => rfl
        | some u =>
          obtain ⟨mi, wasT⟩ := u
          rw [ef] at eb
          have eb : mi = false := eb
          subst eb
          rfl
      cases eb : (f.foul.map Kg53.Foul.missed).getD false with
      | false =>
        rw [no eb] at q
        exact iteT ⟨by show 1 ≤ sizeLine; decide, spM_same (ans := [-5]) hm (Same.refl H) q rfl⟩
      | true =>
        cases ef : f.foul with
        | none => rw [ef] at eb; cases eb
        | some u =>
        obtain ⟨mi, wasT⟩ := u
        rw [ef] at eb
        have eb : mi = true := eb
        subst eb
        have fr' := back_rel fr ef
        have ht := (again_rel fr ef).2
        have e1 : Kg53.spec s .back = ({ s with frame := some { f with who := Kg53.other f.who, free := false, foul := none, table := wasT } }, Kg53.num (Kg53.other f.who : Nat)) := by show Kg53.onFrame s _ = _; unfold Kg53.onFrame; rw [es]; dsimp only; rw [ef]
        rw [e1] at q
        refine iteF ⟨_, rfl, _, c.at_.frame T, hf.at_.o_back, x, p, rfl, ⟨ta, tb, hf⟩, fr.turn_le ht, fun H1 k1 h1 => ?_⟩
        obtain ⟨c1, mf1, kz⟩ := c.frame mf k1 h1
        obtain ⟨ta1, tb1, hf1⟩ := id h1
        refine ⟨_, rfl, _, c1.at_.frame T, _, hf1.at_.turn T, by show 1 ≤ sizeLine; decide, fun l hl => ?_⟩
        have s2 : Same H1 (upd H1 l (.lst [.int (p.doBack.turn : Nat)])) := same_upd_new hl
        have hm1 : MM A H1 Z m { s with frame := some { f with who := Kg53.other f.who, free := false, foul := none, table := wasT } } := ⟨dx, wa, oa, as, G, _, st, ⟨c1.obj, c1.won, c1.ovr, c1.sub, c1.all, c1.gm, c1.gw, c1.go, c1.nwo, c1.zm, c1.zw, c1.zo, c1.zg, c1.dom⟩, .inr ⟨_, x, _, rfl, rfl, ⟨mf1.fr, ⟨mf1.ok.first, mf1.ok.w0, mf1.ok.w1⟩, mf1.st, mf1.sep⟩, fr'⟩⟩
        refine q _ Z l (kz.then_ s2) Nw.refl (hm1.same s2) (k1.free hf1 hl) ?_
        rw [upd_same]
        have et : p.doBack.turn = Kg53.other f.who := by have := fr'.turn; rw [this]; show (if f.toss = true then 2 else Kg53.other f.who) = _; rw [ht]; rfl
        rw [et]
        rfl
theorem ok_Match_toss (T : Txt K mg A) : FnOk P w K mg base CX0 2 A.Match.toss.f A.Match.toss.fd ["self", "who"] (sp_toss_m A) := by
  refine T.Match.F_toss.ok sc_Match_toss (fun vs H Q E h => ?_) (fun cdv Ar outer s H vs Q E hr h => ?_)
  · obtain ⟨z, m, Z, s, rfl, _⟩ := h; rfl
  · obtain ⟨z, m, Z, s, rfl, hm, _, q⟩ := h
    refine ⟨_, ((pss_cons (ps_if (pt_not (pt_val (pe_call (ok_is_player T) (hr.mono (by decide)) rfl T.fs.m_is_player T.fs.F_is_player.kp T.fs.b_is_player .nil pass0 (pa_cons (pv 1) pa_nil)))) (pss_one (ps_ret (pe_lst (pa_cons (pe_const T.k.c_UNKNOWN_NUMBER rfl) pa_nil)))) pss_nil)
      (pss_cons (ps_if (pt_cmpR op_isN (pe_f (pv 0) rfl) pe_non (nomark _)) (pss_one (ps_ret (pe_lst (pa_cons (pe_const T.k.c_NO_FRAME rfl) pa_nil)))) pss_nil)
      (pss_cons (ps_if (pt_cmpR op_ne (pe_f (pe_f (pv 0) rfl) rfl) (pe_const T.k.c_TO_BE_TOSSED rfl) (nomark _)) (pss_one (ps_ret (pe_lst (pa_cons (pe_const T.k.c_NOT_NOW rfl) pa_nil)))) pss_nil)
      (pss_cons (ps_expr (pe_mc (pe_f (pv 0) rfl) T.Frame.cl T.Frame.t_toss (ok_Frame_toss T) (hr.mono (by decide)) T.Frame.b_toss .nil pass0 (pa_cons (pv 1) pa_nil)))
      (pss_one (ps_ret (pe_lst (pa_cons pe_int pa_nil))))))))), ?_⟩
    obtain ⟨dx, wa, oa, as, G, fv, st, c, h⟩ := id hm
    refine ⟨_, rfl, z, rfl, _, rfl, ?_⟩
    rw [← player_eq]
    cases ew : Kg53.within z 0 1 with
    | false =>
      have e1 : Kg53.spec s (.toss z) = (s, Kg53.num (-1)) := if_pos ew
      rw [e1] at q
      exact iteT ⟨by show 1 ≤ sizeLine; decide, spM_same (ans := [-1]) hm (Same.refl H) q rfl⟩
    | true =>
      have hz := within_iff.mp ew
      have e0 : Kg53.spec s (.toss z) = Kg53.onFrame s fun f => if f.toss = false then (s, Kg53.num (-5)) else ({ s with frame := some { f with who := z.toNat, toss := false } }, Kg53.num 0) := if_neg (by rw [ew]; exact fun h => nomatch h)
      refine iteF ⟨_, rfl, _, c.at_.frame T, rfl, _, rfl, ?_⟩
      rcases h with ⟨en, rfl⟩ | ⟨f, x, p, es, rfl, mf, fr⟩
      · have e1 : Kg53.spec s (.toss z) = (s, Kg53.num (-2)) := by rw [e0]; unfold Kg53.onFrame; rw [en]
        rw [e1] at q
        exact iteT ⟨by show 1 ≤ sizeLine; decide, spM_same (ans := [-2]) hm (Same.refl H) q rfl⟩
      · refine iteF ?_
        obtain ⟨ta, tb, hf⟩ := mf.fr
        refine ⟨_, rfl, _, c.at_.frame T, _, hf.at_.turn T, rfl, _, rfl, ?_⟩
        have d2 : decide (((p.turn : Nat) : Int) = 2) = decide (p.turn = 2) := decN p.turn 2
        rw [dI, d2]
        cases ht : f.toss with
        | false =>
          have nt : ¬ p.turn = 2 := fun w => by have := fr.turn2.mp w; rw [ht] at this; cases this
          rw [decide_eq_false nt]
          have e1 : Kg53.spec s (.toss z) = (s, Kg53.num (-5)) := by rw [e0]; unfold Kg53.onFrame; rw [es]; dsimp only; rw [ht]; rfl
          rw [e1] at q
          exact iteT ⟨by show 1 ≤ sizeLine; decide, spM_same (ans := [-5]) hm (Same.refl H) q rfl⟩
        | true =>
          rw [decide_eq_true (fr.turn2.mpr ht)]
          have e1 : Kg53.spec s (.toss z) = ({ s with frame := some { f with who := z.toNat, toss := false } }, Kg53.num 0) := by rw [e0]; unfold Kg53.onFrame; rw [es]; dsimp only; rw [ht]; rfl
          rw [e1] at q
          have ez : z = ((z.toNat : Nat) : Int) := by omega
          refine iteF ⟨_, rfl, _, c.at_.frame T, hf.at_.o_toss, _, rfl, z.toNat, x, p, by rw [← ez]; rfl, ⟨ta, tb, hf⟩, trivial, fun H1 k1 h1 => ?_⟩
          obtain ⟨c1, mf1, kz⟩ := c.frame mf k1 h1
          obtain ⟨ta1, tb1, hf1⟩ := id h1
          refine ⟨by show 1 ≤ sizeLine; decide, fun l hl => ?_⟩
          have s2 : Same H1 (upd H1 l (.lst [.int 0])) := same_upd_new hl
          have fr' := toss_rel (w := z.toNat) fr ht (by omega)
          have hm1 : MM A H1 Z m { s with frame := some { f with who := z.toNat, toss := false } } := ⟨dx, wa, oa, as, G, _, st, ⟨c1.obj, c1.won, c1.ovr, c1.sub, c1.all, c1.gm, c1.gw, c1.go, c1.nwo, c1.zm, c1.zw, c1.zo, c1.zg, c1.dom⟩, .inr ⟨_, x, _, rfl, rfl, ⟨mf1.fr, ⟨mf1.ok.first, mf1.ok.w0, mf1.ok.w1⟩, mf1.st, mf1.sep⟩, fr'⟩⟩
          exact q _ Z l (kz.then_ s2) Nw.refl (hm1.same s2) (k1.free hf1 hl) upd_same
theorem ok_Match_now (T : Txt K mg A) : FnOk P w K mg base CX0 4 A.Match.now.f A.Match.now.fd ["self"] (spM A [] .now) := by
  refine T.Match.F_now.ok sc_Match_now (fun vs H Q E h => ?_) (fun cdv Ar outer s H vs Q E hr h => ?_)
  · obtain ⟨m, Z, s, rfl, _⟩ := h; rfl
  · obtain ⟨m, Z, s, rfl, hm, _, q⟩ := h
    refine ⟨_, ((pss_cons (ps_if (pt_cmpR op_isN (pe_f (pv 0) rfl) pe_non (nomark _)) (pss_one (ps_ret (pe_lst (pa_cons (pe_const T.k.c_NO_FRAME rfl) pa_nil)))) pss_nil)
      (pss_one (ps_ret (pe_m0c (pe_f (pv 0) rfl) T.Frame.cl T.Frame.t_as_it_stands (ok_Frame_as_it_stands T) (hr.mono (by decide)) T.Frame.b_as_it_stands .nil pass0))))), ?_⟩
    obtain ⟨dx, wa, oa, as, G, fv, st, c, h⟩ := id hm
    refine ⟨_, rfl, _, c.at_.frame T, rfl, _, rfl, ?_⟩
    rcases h with ⟨en, rfl⟩ | ⟨f, x, p, es, rfl, mf, fr⟩
    · have e1 : Kg53.spec s .now = (s, Kg53.num (-2)) := by show Kg53.onFrame s _ = _; unfold Kg53.onFrame; rw [en]
      rw [e1] at q
      exact iteT ⟨by show 1 ≤ sizeLine; decide, spM_same (ans := [-2]) hm (Same.refl H) q rfl⟩
    · refine iteF ?_
      obtain ⟨ta, tb, hf⟩ := id mf.fr
      have e1 : Kg53.spec s .now = (s, ⟨((if f.toss = true then 2 else f.who : Nat) : Int), Kg53.whole (Kg53.showFrame f)⟩) := by show Kg53.onFrame s _ = _; unfold Kg53.onFrame; rw [es]
      rw [e1] at q
      refine ⟨_, rfl, _, c.at_.frame T, hf.at_.o_as_it_stands, x, p, rfl, mf.fr, by rw [fr.table]; exact fr.ok, fun H1 l s1 nl hl => ?_⟩
      refine q H1 Z l (KZ.same s1) Nw.refl (hm.same s1) nl ?_
      rw [hl]
      have e2 : standL p = (if f.toss = true then 2 else f.who) :: Kg53.showFrame f := by
        unfold standL Kg53.showFrame Kg53.behindBy
        rw [fr.turn, fr.pts, fr.table, fr.brk, fr.free, onNumber_eq fr.ok]
        rfl
      rw [e2]
      rfl
/-- a list of what the frames that are over tell -/
theorem ok_Match_highest_break (T : Txt K mg A) : FnOk P w K mg base CX0 1 A.Match.highest_break.f A.Match.highest_break.fd ["self", "player"] (sp_tell A highN) := by
  refine T.Match.F_highest_break.ok sc_Match_highest_break (fun vs H Q E h => ?_) (fun cdv Ar outer s H vs Q E hr h => ?_)
  · obtain ⟨m, Z, s, n, rfl, _⟩ := h; rfl
  · obtain ⟨m, Z, s, n, rfl, hm, hlen, hn, q⟩ := h
    refine ⟨_, ((pss_one (ps_ret (pe_maxD rfl rfl T.k.b_max (pe_lc (own := [("frame", 2)]) rfl sc_Match_highest_break.nd (pi_list (pe_f (pv 0) rfl)) (blkOk_by (by kernel_rfl)) (fun _ _ _ _ _ => pg_name (i := 2) sc_Match_highest_break.nd rfl (Or.inl rfl)) (fun _ _ _ _ _ => pts_nil) (fun _ _ _ _ _ => (pe_ix (ix_listK (K := K) rfl) (pe_fK (K := K) rfl (pv 2) rfl) (pv 1) (fun _ _ => rfl)))) pe_int)))), ?_⟩
    obtain ⟨dx, wa, oa, as, G, fv, st, c, _⟩ := id hm
    have al := c.all.length
    refine ⟨_, rfl, _, c.at_.frames_over T, oa, rfl, ⟨_, SqL.of c.ovr⟩, fun D hD => ?_⟩
    refine lc_list (K := K) (a := oa) (xs := as.map V.ref) (fun i H' => H' D = some (.lst ((nints ((s.over.take i).map fun o => o.high.of n)).map V.int)) ∧ Same H H')
      ⟨by rw [upd_same]; rfl, same_upd_new hD⟩ (fun i H' _ x => SqL.of (x.2 _ _ c.ovr)) ?_ ?_
    · rintro i y H' hi ⟨h2, h3⟩
      obtain ⟨fa, hfa, rfl⟩ : ∃ fa, as[i]? = some fa ∧ y = V.ref fa := by
        rw [List.getElem?_map] at hi
        cases e : as[i]? with
        | none => rw [e] at hi; cases hi
        | some z => rw [e] at hi; exact ⟨z, rfl, (Option.some.inj hi).symm⟩
      obtain ⟨o, ho, x, ta, tb, p, rfl, hov, ro⟩ := paired_get c.all hfa
      have hov' := hov.mono (c.sub.trans h3)
      refine ⟨rfl, ?_⟩
      refine ⟨_, rfl, _, hov'.at_.highest_breaks T, _, rfl, x.ha, pl p.high, _, _, rfl, rfl, SqL.of hov'.high, pl_at hn, _, h2, ?_, ?_⟩
      · rw [List.length_map, ints_len, List.length_map, List.length_take]
        exact small1000 (by omega)
      · refine ⟨?_, fun b u e => by rw [upd_ne (ne_of_none e hD)]; exact h3 b u e⟩
        rw [upd_same, take_snoc ho, List.map_append, ← ints_app, List.map_append, ro.high]
        rfl
    · rintro H' ⟨h2, h3⟩
      have et : s.over.take (as.map V.ref).length = s.over := by rw [List.length_map, al, List.take_length]
      rw [et] at h2
      refine ⟨D, nints (s.over.map fun o => o.high.of n), 0, rfl, rfl, SqL.of h2, fun en => ?_, fun mx h4 h5 => ?_⟩
      · have e0 : highN s n = 0 := by
          unfold highN
          have : (s.over.map fun o => o.high.of n) = [] := List.map_eq_nil_iff.mp en
          rw [this]; rfl
        have := q H' h3
        rw [e0] at this
        exact this
      · rw [max_fold h4 h5]
        exact q H' h3
theorem ok_Match_count_big_breaks (T : Txt K mg A) : FnOk P w K mg base CX0 1 A.Match.count_big_breaks.f A.Match.count_big_breaks.fd ["self", "player"] (sp_tell A bigN) := by
  refine T.Match.F_count_big_breaks.ok sc_Match_count_big_breaks (fun vs H Q E h => ?_) (fun cdv Ar outer s H vs Q E hr h => ?_)
  · obtain ⟨m, Z, s, n, rfl, _⟩ := h; rfl
  · obtain ⟨m, Z, s, n, rfl, hm, hlen, hn, q⟩ := h
    refine ⟨_, ((pss_one (ps_ret (pe_callB (cr_sum rfl) rfl T.k.b_sum boot_sum (pa_cons (pe_lc (own := [("frame", 2)]) rfl sc_Match_count_big_breaks.nd (pi_list (pe_f (pv 0) rfl)) (blkOk_by (by kernel_rfl)) (fun _ _ _ _ _ => pg_name (i := 2) sc_Match_count_big_breaks.nd rfl (Or.inl rfl)) (fun _ _ _ _ _ => pts_nil) (fun _ _ _ _ _ => (pe_ix (ix_listK (K := K) rfl) (pe_fK (K := K) rfl (pv 2) rfl) (pv 1) (fun _ _ => rfl)))) pa_nil))))), ?_⟩
    obtain ⟨dx, wa, oa, as, G, fv, st, c, _⟩ := id hm
    have al := c.all.length
    refine ⟨_, rfl, _, c.at_.frames_over T, oa, rfl, ⟨_, SqL.of c.ovr⟩, fun D hD => ?_⟩
    refine lc_list (K := K) (a := oa) (xs := as.map V.ref) (fun i H' => H' D = some (.lst ((nints ((s.over.take i).map fun o => o.hundreds.of n)).map V.int)) ∧ Same H H')
      ⟨by rw [upd_same]; rfl, same_upd_new hD⟩ (fun i H' _ x => SqL.of (x.2 _ _ c.ovr)) ?_ ?_
    · rintro i y H' hi ⟨h2, h3⟩
      obtain ⟨fa, hfa, rfl⟩ : ∃ fa, as[i]? = some fa ∧ y = V.ref fa := by
        rw [List.getElem?_map] at hi
        cases e : as[i]? with
        | none => rw [e] at hi; cases hi
        | some z => rw [e] at hi; exact ⟨z, rfl, (Option.some.inj hi).symm⟩
      obtain ⟨o, ho, x, ta, tb, p, rfl, hov, ro⟩ := paired_get c.all hfa
      have hov' := hov.mono (c.sub.trans h3)
      refine ⟨rfl, ?_⟩
      refine ⟨_, rfl, _, hov'.at_.big_breaks T, _, rfl, x.ba, pl p.big, _, _, rfl, rfl, SqL.of hov'.big, pl_at hn, _, h2, ?_, ?_⟩
      · rw [List.length_map, ints_len, List.length_map, List.length_take]
        exact small1000 (by omega)
      · refine ⟨?_, fun b u e => by rw [upd_ne (ne_of_none e hD)]; exact h3 b u e⟩
        rw [upd_same, take_snoc ho, List.map_append, ← ints_app, List.map_append, ro.big]
        rfl
    · rintro H' ⟨h2, h3⟩
      have et : s.over.take (as.map V.ref).length = s.over := by rw [List.length_map, al, List.take_length]
      rw [et] at h2
      refine ⟨D, nints (s.over.map fun o => o.hundreds.of n), rfl, SqL.of h2, ?_⟩
      rw [nints_sum]
      exact q H' h3
theorem ok_Match_tell_match (T : Txt K mg A) : FnOk P w K mg base CX0 2 A.Match.tell_match.f A.Match.tell_match.fd ["self"] (spM A [] .match_) := by
  refine T.Match.F_tell_match.ok sc_Match_tell_match (fun vs H Q E h => ?_) (fun cdv Ar outer s H vs Q E hr h => ?_)
  · obtain ⟨m, Z, s, rfl, _⟩ := h; rfl
  · obtain ⟨m, Z, s, rfl, hm, hlen, q⟩ := h
    refine ⟨_, ((pss_cons (ps_set (i := 1) sc_Match_tell_match.nd rfl (by first | exact Or.inl rfl | exact Or.inr rfl) (pe_ifExp (pt_cmpR op_isN (pe_f (pv 0) rfl) pe_non (nomark _)) pe_int pe_int))
      (pss_cons (ps_set (i := 2) sc_Match_tell_match.nd rfl (by first | exact Or.inl rfl | exact Or.inr rfl) (pe_lst (pa_cons (pe_mc (pv 0) T.Match.cl T.Match.t_highest_break (ok_Match_highest_break T) (hr.mono (by decide)) T.Match.b_highest_break .nil pass0 (pa_cons pe_int pa_nil)) (pa_cons (pe_mc (pv 0) T.Match.cl T.Match.t_highest_break (ok_Match_highest_break T) (hr.mono (by decide)) T.Match.b_highest_break .nil pass0 (pa_cons pe_int pa_nil)) pa_nil))))
      (pss_cons (ps_set (i := 3) sc_Match_tell_match.nd rfl (by first | exact Or.inl rfl | exact Or.inr rfl) (pe_lst (pa_cons (pe_mc (pv 0) T.Match.cl T.Match.t_count_big_breaks (ok_Match_count_big_breaks T) (hr.mono (by decide)) T.Match.b_count_big_breaks .nil pass0 (pa_cons pe_int pa_nil)) (pa_cons (pe_mc (pv 0) T.Match.cl T.Match.t_count_big_breaks (ok_Match_count_big_breaks T) (hr.mono (by decide)) T.Match.b_count_big_breaks .nil pass0 (pa_cons pe_int pa_nil)) pa_nil))))
      (pss_one (ps_ret (pe_op op_cat (pe_op op_cat (pe_op op_cat (pe_lst (pa_cons (pv 1) (pa_cons (pe_f (pv 0) rfl) pa_nil))) (pe_f (pv 0) rfl)) (pv 2)) (pv 3)))))))), ?_⟩
    obtain ⟨dx, wa, oa, as, G, fv, st, c, h⟩ := id hm
    try dsimp only [gName, tNext]
    refine seq_of (fun σ' H' => σ' = [some (.ref m), some (.int (Kg53.truth s.frame.isNone : Nat)), none, none] ∧ H' = H) ?_ ?_
    · rintro σ0 H0 ⟨rfl, rfl⟩
      refine ⟨_, rfl, c.at_.o_highest_break, m, Z, s, 0, rfl, hm, hlen, by omega, fun H1 s1 => ?_⟩
      have hm1 := hm.same s1
      have c1 : MC A H1 Z m dx wa oa as G fv st s := c.keep fun b o e _ => s1 b o e
      refine ⟨_, rfl, c1.at_.o_highest_break, m, Z, s, 1, rfl, hm1, hlen, by omega, fun H2 s2 => ?_⟩
      refine ⟨by show 2 ≤ sizeLine; decide, fun l1 hl1 => ?_⟩
      obtain ⟨H3, e3, g3, s3⟩ := new_obj (o := .lst [.int (highN s 0 : Nat), .int (highN s 1 : Nat)]) hl1
      rw [e3]
      have s03 := (s1.trans s2).trans s3
      have hm3 := hm.same s03
      have c3 : MC A H3 Z m dx wa oa as G fv st s := c.keep fun b o e _ => s03 b o e
      refine ⟨_, rfl, c3.at_.o_count_big_breaks, m, Z, s, 0, rfl, hm3, hlen, by omega, fun H4 s4 => ?_⟩
      have hm4 := hm3.same s4
      have c4 : MC A H4 Z m dx wa oa as G fv st s := c3.keep fun b o e _ => s4 b o e
      refine ⟨_, rfl, c4.at_.o_count_big_breaks, m, Z, s, 1, rfl, hm4, hlen, by omega, fun H5 s5 => ?_⟩
      refine ⟨by show 2 ≤ sizeLine; decide, fun l2 hl2 => ?_⟩
      obtain ⟨H6, e6, g6, s6⟩ := new_obj (o := .lst [.int (bigN s 0 : Nat), .int (bigN s 1 : Nat)]) hl2
      rw [e6]
      have s36 := (s4.trans s5).trans s6
      have c6 : MC A H6 Z m dx wa oa as G fv st s := c3.keep fun b o e _ => s36 b o e
      refine ⟨_, rfl, _, rfl, _, c6.at_.best T, by show 2 ≤ sizeLine; decide, fun l3 hl3 => ?_⟩
      obtain ⟨H7, e7, g7, s7⟩ := new_obj (o := .lst [.int (Kg53.truth s.frame.isNone : Nat), .int s.best]) hl3
      rw [e7]
      have c7 : MC A H7 Z m dx wa oa as G fv st s := c6.keep fun b o e _ => s7 b o e
      refine ⟨_, rfl, _, c7.at_.won T, l3, wa, _, _, rfl, rfl, g7, c7.won, by show 4 ≤ sizeLine; decide, fun l4 hl4 => ?_⟩
      obtain ⟨H8, e8, g8, s8⟩ := new_obj (o := .lst ([.int (Kg53.truth s.frame.isNone : Nat), .int s.best] ++ [.int (Kg53.wins s.over 0 : Nat), .int (Kg53.wins s.over 1 : Nat)])) hl4
      rw [e8]
      refine ⟨_, rfl, l4, l1, _, _, rfl, rfl, g8, (s7.trans s8) _ _ (s36 _ _ g3), by show 6 ≤ sizeLine; decide, fun l5 hl5 => ?_⟩
      obtain ⟨H9, e9, g9, s9⟩ := new_obj (o := .lst ([.int (Kg53.truth s.frame.isNone : Nat), .int s.best] ++ [.int (Kg53.wins s.over 0 : Nat), .int (Kg53.wins s.over 1 : Nat)] ++ [.int (highN s 0 : Nat), .int (highN s 1 : Nat)])) hl5
      rw [e9]
      refine ⟨_, rfl, l5, l2, _, _, rfl, rfl, g9, ((s7.trans s8).trans s9) _ _ g6, by show 8 ≤ sizeLine; decide, fun l6 hl6 => ?_⟩
      have s09 : Same H0 H9 := (s03.trans s36).trans ((s7.trans s8).trans s9)
      exact q _ Z l6 (KZ.same (same_cat s09 hl6)) Nw.refl (hm.same (same_cat s09 hl6)) (s09.free hl6) upd_same
    · intro N hN
      refine ⟨_, rfl, _, c.at_.frame T, rfl, _, rfl, ?_⟩
      rcases h with ⟨en, rfl⟩ | ⟨f, x, p, es, rfl, mf, fr⟩
      · rw [en] at hN; exact iteT (hN _ _ ⟨rfl, rfl⟩)
      · rw [es] at hN; exact iteF (hN _ _ ⟨rfl, rfl⟩)
theorem show_len (o : Kg53.Over) : (Kg53.showOver o).length = 6 := rfl
theorem flat_len : ∀ l : List Kg53.Over, (l.flatMap Kg53.showOver).length = 6 * l.length
  | [] => rfl
  | o :: r => by rw [List.flatMap_cons, List.length_append, flat_len r, show_len, List.length_cons]; omega
theorem ok_Match_tell_frames (T : Txt K mg A) : FnOk P w K mg base CX0 2 A.Match.tell_frames.f A.Match.tell_frames.fd ["self"] (spM A [] .frames) := by
  refine T.Match.F_tell_frames.ok sc_Match_tell_frames (fun vs H Q E h => ?_) (fun cdv Ar outer s H vs Q E hr h => ?_)
  · obtain ⟨m, Z, s, rfl, _⟩ := h; rfl
  · obtain ⟨m, Z, s, rfl, hm, hlen, q⟩ := h
    refine ⟨_, ((pss_cons (ps_set (i := 1) sc_Match_tell_frames.nd rfl (by first | exact Or.inl rfl | exact Or.inr rfl) (pe_lst (pa_cons (pe_callB call_len_seq rfl T.k.b_len boot_len (pa_cons (pe_f (pv 0) rfl) pa_nil)) pa_nil)))
      (pss_cons (ps_for PassesOwn.never rfl (pi_list (pe_f (pv 0) rfl)) (pg_name (i := 2) sc_Match_tell_frames.nd rfl (Or.inl rfl)) (pss_one (ps_expr (pe_bm PySem.F.plainAttrs_list PySem.F.slot_list_extend PySem.F.type_list_extend mt_extend (pv 1) (pa_cons (pe_m0c (pv 2) T.Frame.cl T.Frame.t_outcome (ok_Frame_outcome T) (hr.mono (by decide)) T.Frame.b_outcome .nil pass0) pa_nil)))))
      (pss_one (ps_ret (pv 1)))))), ?_⟩
    obtain ⟨dx, wa, oa, as, G, fv, st, c, _⟩ := id hm
    have al := c.all.length
    refine ⟨_, rfl, _, c.at_.frames_over T, oa, _, rfl, .inl (SqL.of c.ovr), by show 1 ≤ sizeLine; decide, fun l hl => ?_⟩
    have el : (((as.map V.ref).length : Nat) : Int) = ((s.over.length : Nat) : Int) := by rw [List.length_map, al]
    rw [el]
    obtain ⟨H1, e1, g1, s1⟩ := new_obj (o := .lst [.int (s.over.length : Nat)]) hl
    rw [e1]
    have c1 : MC A H1 Z m dx wa oa as G fv st s := c.keep fun b o e _ => s1 b o e
    refine ⟨_, rfl, _, c1.at_.frames_over T, oa, rfl, ⟨_, SqL.of c1.ovr⟩, for_list (K := K) (a := oa) (xs := as.map V.ref)
      (fun i σ H' => (∃ v : Option V, σ = [some (.ref m), some (.ref l), v]) ∧ H' l = some (.lst ((nints (s.over.length :: (s.over.take i).flatMap Kg53.showOver)).map V.int)) ∧ Same H H')
      ⟨⟨none, rfl⟩, by rw [g1]; rfl, s1⟩ (fun i σ H' _ ⟨_, _, s5⟩ => SqL.of (s5 _ _ c.ovr)) ?_ ?_⟩
    · rintro i y σ H' hi ⟨⟨v, rfl⟩, h2, h3⟩
      obtain ⟨fa, hfa, rfl⟩ : ∃ fa, as[i]? = some fa ∧ y = V.ref fa := by
        rw [List.getElem?_map] at hi
        cases e : as[i]? with
        | none => rw [e] at hi; cases hi
        | some z => rw [e] at hi; exact ⟨z, rfl, (Option.some.inj hi).symm⟩
      obtain ⟨o, ho, x, ta, tb, p, rfl, hov, ro⟩ := paired_get c.all hfa
      have hov' := hov.mono (c.sub.trans h3)
      refine ⟨_, rfl, .inl ⟨rfl, _, SqL.of h2⟩, _, rfl, hov'.at_.o_outcome, x, ta, tb, p, rfl, hov', fun H4 l4 s4 n4 h4 => ?_⟩
      have eo : outL p = Kg53.showOver o := by unfold outL Kg53.showOver; rw [ro.win, ro.how, ro.pts, ro.high]
      rw [eo] at h4
      have nl : l ≠ l4 := ne_of_none h2 n4
      refine ⟨l, l4, _, _, rfl, rfl, s4 _ _ h2, h4, ?_, ?_⟩
      · rw [List.length_map, ints_len, List.length_map, ints_len, show_len, List.length_cons, flat_len, List.length_take]
        exact Nat.le_trans (by omega : _ ≤ 8000) (by decide)
      · refine ⟨⟨_, rfl⟩, ?_, fun b u e => by rw [upd_ne (ne_of_none e hl)]; exact s4 b u (h3 b u e)⟩
        rw [upd_same, take_snoc ho, List.flatMap_append, ← List.map_append, ints_app]
        simp
    · rintro σ H' ⟨⟨v, rfl⟩, h2, h3⟩
      have et : s.over.take (as.map V.ref).length = s.over := by rw [List.length_map, al, List.take_length]
      rw [et] at h2
      refine ⟨_, rfl, ?_⟩
      exact q H' Z l (KZ.same h3) Nw.refl (hm.same h3) hl h2
end
end Cue
end
section
set_option Elab.async false
set_option linter.all false
set_option maxRecDepth 100000
set_option autoImplicit false
set_option maxHeartbeats 4000000
namespace Cue
open PySem PySem.Spec PyProof.Rows L2
/-! ### a frame ends, a match begins -/
instance (x : FA) (b : Addr) : Decidable (x.has b) := by unfold FA.has; infer_instance
def Zn (Z : Addr → Prop) (H H' : Hp) (b : Addr) : Prop := (Z b ∨ H b = none) ∧ H' b ≠ none
theorem Zn.nw {Z : Addr → Prop} {H H' : Hp} : Nw Z (Zn Z H H') H := fun _ z => z.1
section
variable {A : Adr} {H H' H1 : Hp} {Z : Addr → Prop} {m dx wa oa : Addr} {as : List Addr} {G : Hp} {fv : V} {st : Nat} {s : Kg53.State} {x : FA} {p : PF} {o : Kg53.Over}
theorem MF.some_ (h : MF A H Z m wa oa G st s x p) : ∀ b, x.has b → H b ≠ none := by
  obtain ⟨ta, tb, hq⟩ := h.fr
  rintro b (e | e | e | e)
  · rw [e, hq.obj]; simp
  · rw [e, hq.pts]; simp
  · rw [e, hq.high]; simp
  · rw [e, hq.big]; simp
theorem MC.ended (c : MC A H Z m dx wa oa as G fv st s) (mf : MF A H Z m wa oa G st s x p) (ro : OR o p) {fv' : V} {st' : Nat} (fo : Option Kg53.Frame)
    (obj' : H' m = some (.ins A.Match.c dx (Match_fs (.int s.best) (.ref wa) (.int st') fv' (.ref oa))))
    (won' : H' wa = some (.lst [.int (Kg53.wins (s.over ++ [o]) 0 : Nat), .int (Kg53.wins (s.over ++ [o]) 1 : Nat)])) (ovr' : H' oa = some (.lst ((as ++ [x.a]).map V.ref)))
    (k : ∀ b u, H b = some u → b ≠ m → b ≠ wa → b ≠ oa → H' b = some u) :
    MC A H' (Zn Z H H') m dx wa oa (as ++ [x.a]) (fun b => if x.has b then H b else G b) fv' st' { s with over := s.over ++ [o], frame := fo } := by
  have no : ∀ b, (b = m ∨ b = wa ∨ b = oa) → ¬ x.has b := fun b e z => by
    have := mf.sep b z
    rcases e with e | e | e
    · exact this.2.2.1 e
    · exact this.2.2.2.1 e
    · exact this.2.2.2.2 e
  have sub' : Same (fun b => if x.has b then H b else G b) H' := fun b u e => by
    try dsimp only at e
    by_cases z : x.has b
    · rw [if_pos z] at e
      have := mf.sep b z
      exact k b u e this.2.2.1 this.2.2.2.1 this.2.2.2.2
    · rw [if_neg z] at e
      exact k b u (c.sub b u e) (fun q => by rw [q, c.gm] at e; cases e) (fun q => by rw [q, c.gw] at e; cases e) (fun q => by rw [q, c.go] at e; cases e)
  have sG : Same G (fun b => if x.has b then H b else G b) := fun b u e => by
    try dsimp only
    rw [if_neg fun z => by have := (mf.sep b z).2.1; rw [e] at this; cases this]
    exact e
  refine ⟨obj', won', ovr', sub', ?_, ?_, ?_, ?_, c.nwo, ⟨.inl c.zm, by rw [obj']; simp⟩, ⟨.inl c.zw, by rw [won']; simp⟩, ⟨.inl c.zo, by rw [ovr']; simp⟩, ?_, fun b z => z.2⟩
  · refine Paired.snoc (Paired.imp' (fun _ _ h => OvAt.mono sG h) c.all) ?_
    obtain ⟨ta, tb, hf⟩ := mf.fr
    refine ⟨x, ta, tb, p, rfl, ⟨?_, ?_, ?_, ?_⟩, ro⟩
    · try dsimp only
      rw [if_pos (show x.has x.a from .inl rfl)]; exact hf.obj
    · try dsimp only
      rw [if_pos (show x.has x.pa from .inr (.inl rfl))]; exact hf.pts
    · try dsimp only
      rw [if_pos (show x.has x.ha from .inr (.inr (.inl rfl)))]; exact hf.high
    · try dsimp only
      rw [if_pos (show x.has x.ba from .inr (.inr (.inr rfl)))]; exact hf.big
  · try dsimp only
    rw [if_neg (no m (.inl rfl))]; exact c.gm
  · try dsimp only
    rw [if_neg (no wa (.inr (.inl rfl)))]; exact c.gw
  · try dsimp only
    rw [if_neg (no oa (.inr (.inr rfl)))]; exact c.go
  · intro b e
    try dsimp only at e
    cases q : (if x.has b then H b else G b) with
    | none => exact absurd q e
    | some u =>
      have h1 := sub' b u q
      by_cases z : x.has b
      · exact ⟨.inl (mf.sep b z).1, by rw [h1]; simp⟩
      · rw [if_neg z] at q
        exact ⟨.inl (c.zg b (by rw [q]; simp)), by rw [h1]; simp⟩
end
theorem kz_of {A : Adr} {H H' : Hp} {Z : Addr → Prop} {m dx wa oa : Addr} {as : List Addr} {G : Hp} {fv : V} {st : Nat} {s : Kg53.State} (c : MC A H Z m dx wa oa as G fv st s) (k : ∀ b u, H b = some u → b ≠ m → b ≠ wa → b ≠ oa → H' b = some u) (hm : H' m ≠ none) (hw : H' wa ≠ none) (ho : H' oa ≠ none) : KZ Z H H' := by
  refine ⟨fun b u e zz => k b u e (fun y => zz (by rw [y]; exact c.zm)) (fun y => zz (by rw [y]; exact c.zw)) (fun y => zz (by rw [y]; exact c.zo)), fun b e => ?_⟩
  cases q : H b with
  | none => rfl
  | some u =>
    exfalso
    by_cases h0 : b = m
    · rw [h0] at e; exact hm e
    · by_cases h1 : b = wa
      · rw [h1] at e; exact hw e
      · by_cases h2 : b = oa
        · rw [h2] at e; exact ho e
        · rw [k b u q h0 h1 h2] at e; cases e
def sp_end_frame (A : Adr) : Sp := fun vs H Q _ => ∃ (m : Addr) (Z : Addr → Prop) (s : Kg53.State) (o : Kg53.Over) (dx wa oa : Addr) (as : List Addr) (G : Hp) (st : Nat) (x : FA) (p : PF), vs = [.ref m] ∧ MC A H Z m dx wa oa as G (.ref x.a) st s ∧ MF A H Z m wa oa G st s x p ∧ OR o p ∧ s.over.length ≤ 1000 ∧
  ∀ (H' : Hp) (Z' : Addr → Prop), KZ Z H H' → Nw Z Z' H → MM A H' Z' m (Kg53.ended s o) → H' x.a = H x.a → Q .non H'
def refN (s : Kg53.State) (n h c d mi : Int) (p o : List Int) : Int := match Kg53.strokeOf n h c d mi p o with
  | none => -1
  | some k => match s.frame with
    | none => -2
    | some f => if f.toss = true then -3 else if (Kg53.there f.table k && Kg53.couldBe f.table k) = false then -4 else 0
structure RawAt (A : Adr) (H : Hp) (ka pa oa : Addr) (n h c d mi : Int) (p o : List Int) : Prop where
  obj : StrokeAt A H ka (.int n) (.int h) (.int c) (.int d) (.int mi) (.ref pa) (.ref oa)
  pot : H pa = some (.lst (p.map V.int))
  off : H oa = some (.lst (o.map V.int))
  lp : p.length ≤ 30
  lo : o.length ≤ 30
theorem RawAt.mono {A : Adr} {H H' : Hp} {ka pa oa : Addr} {n h c d mi : Int} {p o : List Int} (s : Same H H') (r : RawAt A H ka pa oa n h c d mi p o) : RawAt A H' ka pa oa n h c d mi p o := ⟨r.obj.mono s, s _ _ r.pot, s _ _ r.off, r.lp, r.lo⟩
theorem RawAt.told {A : Adr} {H : Hp} {ka pa oa : Addr} {n h c d mi : Int} {p o : List Int} {k : Kg53.Stroke} (r : RawAt A H ka pa oa n h c d mi p o) (e : Kg53.strokeOf n h c d mi p o = some k) : KAt A H ka pa oa k ∧ KOk k := by
  obtain ⟨ko, rfl, rfl, rfl, rfl, rfl, rfl, rfl⟩ := strokeOf_some e
  have l1 := r.lp
  have l2 := r.lo
  rw [ints_len] at l1 l2
  exact ⟨⟨r.obj, r.pot, r.off, l1, l2⟩, ko⟩
def sp_refusal (A : Adr) : Sp := fun vs H Q _ => ∃ (m : Addr) (Z : Addr → Prop) (s : Kg53.State) (ka pa oa : Addr) (n h c d mi : Int) (p o : List Int), vs = [.ref m, .ref ka] ∧ MM A H Z m s ∧ RawAt A H ka pa oa n h c d mi p o ∧ ∀ H', Same H H' → Q (.int (refN s n h c d mi p o)) H'
def sp_stroke_m (A : Adr) : Sp := fun vs H Q E => ∃ (ka pa oa : Addr) (n h c d mi : Int) (p o : List Int), RawAt A H ka pa oa n h c d mi p o ∧ ∃ (m : Addr) (Z : Addr → Prop) (s : Kg53.State), vs = [.ref m, .ref ka] ∧ MM A H Z m s ∧ s.over.length ≤ 1000 ∧ ¬ Z ka ∧ ¬ Z pa ∧ ¬ Z oa ∧
  ∀ (H' : Hp) (Z' : Addr → Prop) (l : Addr), KZ Z H H' → Nw Z Z' H → MM A H' Z' m (Kg53.spec s (.stroke n h c d mi p o)).1 → H l = none → H' l = some (.lst (((Kg53.spec s (.stroke n h c d mi p o)).2.value :: (Kg53.spec s (.stroke n h c d mi p o)).2.out).map V.int)) → Q (.ref l) H'
def sp_Match_init (A : Adr) : Sp := fun vs H Q _ => ∃ (p dx : Addr), vs = [.ref p] ∧ H p = some (.ins A.Match.c dx []) ∧ ∀ (H' : Hp) (Z' : Addr → Prop), Kept H H' p → (∀ b, Z' b → b = p ∨ H b = none) → MM A H' Z' p Kg53.init → Q .non H'
theorem MC.set {A : Adr} {H : Hp} {Z : Addr → Prop} {m dx wa oa : Addr} {as : List Addr} {G : Hp} {fv : V} {st : Nat} {s : Kg53.State} (c : MC A H Z m dx wa oa as G fv st s) (fo : Option Kg53.Frame) : MC A H Z m dx wa oa as G fv st { s with frame := fo } :=
  ⟨c.obj, c.won, c.ovr, c.sub, c.all, c.gm, c.gw, c.go, c.nwo, c.zm, c.zw, c.zo, c.zg, c.dom⟩
theorem MF.set {A : Adr} {H : Hp} {Z : Addr → Prop} {m wa oa : Addr} {G : Hp} {st : Nat} {s : Kg53.State} {x : FA} {p : PF} (h : MF A H Z m wa oa G st s x p) (fo : Option Kg53.Frame) : MF A H Z m wa oa G st { s with frame := fo } x p :=
  ⟨h.fr, ⟨h.ok.first, h.ok.w0, h.ok.w1⟩, h.st, h.sep⟩
section
variable {P : Program} {w : World} {K : PySem.W.Frag} {mg : Str → Option Value} {base : Heap} {A : Adr}
theorem ok_Match_end_frame (T : Txt K mg A) : FnOk P w K mg base CX0 7 A.Match.end_frame.f A.Match.end_frame.fd ["self"] (sp_end_frame A) := by
  refine T.Match.F_end_frame.ok sc_Match_end_frame (fun vs H Q E h => ?_) (fun cdv Ar outer s H vs Q E hr h => ?_)
  · obtain ⟨m, Z, s, o, dx, wa, oa, as, G, st, x, p, rfl, _⟩ := h; rfl
  · obtain ⟨m, Z, s, o, dx, wa, oa, as, G, st, x, p, rfl, c, mf, ro, hlen, q⟩ := h
    refine ⟨_, ((pss_cons (ps_set (i := 1) sc_Match_end_frame.nd rfl (by first | exact Or.inl rfl | exact Or.inr rfl) (pe_f (pe_f (pv 0) rfl) rfl))
      (pss_cons (ps_expr (pe_bm PySem.F.plainAttrs_list PySem.F.slot_list_append PySem.F.type_list_append mt_append (pe_f (pv 0) rfl) (pa_cons (pe_f (pv 0) rfl) pa_nil)))
      (pss_cons (ps_augS (pe_f (pv 0) rfl) (pv 1) get_list pe_int ip_add set_list)
      (pss_one (ps_if (pt_cmpR op_gt (pe_op op_mul pe_int (pe_ix ix_list (pe_f (pv 0) rfl) (pv 1) (fun _ _ => rfl))) (pe_f (pv 0) rfl) (nomark _)) (pss_one (ps_fs (pv 0) pe_non rfl)) (pss_cons (ps_fs (pv 0) (pe_call (ok_other T) (hr.mono (by decide)) rfl T.fs.m_other T.fs.F_other.kp T.fs.b_other .nil pass0 (pa_cons (pe_f (pv 0) rfl) pa_nil)) rfl)
      (pss_one (ps_fs (pv 0) (pe_make T.Frame.mak (ok_Frame_init T) (hr.mono (by decide)) rfl T.Frame.m T.Frame.b_init .nil pass0 (pa_cons (pe_f (pv 0) rfl) pa_nil)) rfl))))))))), ?_⟩
    obtain ⟨ta, tb, hf⟩ := id mf.fr
    have al := c.all.length
    have hw : p.winner ≤ 1 := by rw [ro.win]; exact ro.le
    have nmo : m ≠ oa := ne_of c.obj c.ovr (by intro z; cases z)
    have nmw : m ≠ wa := ne_of c.obj c.won (by intro z; cases z)
    refine ⟨_, rfl, _, c.at_.frame T, _, hf.at_.winner T, ?_⟩
    -- append
    refine ⟨_, rfl, _, c.at_.frames_over T, .inl ⟨rfl, _, SqL.of c.ovr⟩, _, rfl, _, c.at_.frame T, oa, _, _, rfl, rfl, c.ovr, (by rw [List.length_map]; exact small1000 (by omega)), ?_⟩
    have ea : as.map V.ref ++ [V.ref x.a] = (as ++ [x.a]).map V.ref := by rw [List.map_append]; rfl
    rw [ea]
    obtain ⟨H1, e1, g1, k1⟩ : ∃ H1, upd H oa (.lst ((as ++ [x.a]).map V.ref)) = H1 ∧ H1 oa = some (.lst ((as ++ [x.a]).map V.ref)) ∧ ∀ b, b ≠ oa → H1 b = H b := ⟨_, rfl, upd_same, fun b hb => upd_ne hb⟩
    rw [e1]
    have o1 : H1 m = some (.ins A.Match.c dx (Match_fs (.int s.best) (.ref wa) (.int st) (.ref x.a) (.ref oa))) := by rw [k1 m nmo]; exact c.obj
    have w1 : H1 wa = some (.lst (pl ⟨Kg53.wins s.over 0, Kg53.wins s.over 1⟩)) := by rw [k1 wa c.nwo]; exact c.won
    have m1 : MatchAt A H1 m (.int s.best) (.ref wa) (.int st) (.ref x.a) (.ref oa) := ⟨dx, o1⟩
    -- won
    refine ⟨_, rfl, _, m1.won T, _, rfl, wa, pl _, _, _, rfl, rfl, SqL.of w1, pl_at hw, _, _, rfl, rfl, wa, pl _, _, p.winner, rfl, rfl, w1, pl_ix hw, ?_⟩
    have ew : (pl ⟨Kg53.wins s.over 0, Kg53.wins s.over 1⟩).set p.winner (.int (((Kg53.Pair.of ⟨Kg53.wins s.over 0, Kg53.wins s.over 1⟩ p.winner : Nat) : Int) + 1)) = pl ⟨Kg53.wins (s.over ++ [o]) 0, Kg53.wins (s.over ++ [o]) 1⟩ := by
      have := pl_set (q := ⟨Kg53.wins s.over 0, Kg53.wins s.over 1⟩) (n := 1) hw
      refine this.trans ?_
      rw [wins_app, wins_app, ← ro.win]
      rcases w01 hw with e | e <;> rw [e] <;> rfl
    rw [ew]
    obtain ⟨H2, e2, g2, k2⟩ : ∃ H2, upd H1 wa (.lst (pl ⟨Kg53.wins (s.over ++ [o]) 0, Kg53.wins (s.over ++ [o]) 1⟩)) = H2 ∧ H2 wa = some (.lst (pl ⟨Kg53.wins (s.over ++ [o]) 0, Kg53.wins (s.over ++ [o]) 1⟩)) ∧ ∀ b, b ≠ wa → H2 b = H1 b := ⟨_, rfl, upd_same, fun b hb => upd_ne hb⟩
    rw [e2]
    have o2 : H2 m = some (.ins A.Match.c dx (Match_fs (.int s.best) (.ref wa) (.int st) (.ref x.a) (.ref oa))) := by rw [k2 m nmw]; exact o1
    have v2 : H2 oa = some (.lst ((as ++ [x.a]).map V.ref)) := by rw [k2 oa (Ne.symm c.nwo)]; exact g1
    have m2 : MatchAt A H2 m (.int s.best) (.ref wa) (.int st) (.ref x.a) (.ref oa) := ⟨dx, o2⟩
    have k02 : ∀ b u, H b = some u → b ≠ wa → b ≠ oa → H2 b = some u := fun b u e h1 h2 => by rw [k2 b h1, k1 b h2]; exact e
    have xm := mf.sep x.a (.inl rfl)
    refine ⟨_, rfl, _, m2.won T, _, rfl, wa, pl _, _, _, rfl, rfl, SqL.of g2, pl_at hw, _, _, rfl, rfl, .inl ⟨by decide, by decide⟩, _, rfl, _, m2.best T, _, _, rfl, rfl, _, rfl, ?_⟩
    have eo : Kg53.Pair.of ⟨Kg53.wins (s.over ++ [o]) 0, Kg53.wins (s.over ++ [o]) 1⟩ p.winner = Kg53.wins s.over o.winner + 1 := by
      rw [wins_app, wins_app, ← ro.win]
      rcases w01 hw with e | e <;> rw [e] <;> rfl
    rw [eo]
    by_cases z : s.best < 2 * (Kg53.wins s.over o.winner + 1)
    · rw [decide_eq_true (show ((s.best : Nat) : Int) < 2 * ((Kg53.wins s.over o.winner + 1 : Nat) : Int) by omega)]
      refine iteT ⟨_, rfl, m, _, dx, _, rfl, o2, ⟨T.Match.cl, T.Match.na_frame, Match_len ..⟩, ?_⟩
      obtain ⟨H3, e3, o3, k3⟩ := m_st_frame (v := .non) o2
      rw [e3]
      rw [ended_over s o mf.ok ro.le z] at q
      have k03 : ∀ b u, H b = some u → b ≠ m → b ≠ wa → b ≠ oa → H3 b = some u := fun b u e h0 h1 h2 => by rw [k3 b h0]; exact k02 b u e h1 h2
      refine q H3 (Zn Z H H3) (kz_of c k03 (by rw [o3]; simp) (by rw [k3 wa (Ne.symm nmw), g2]; simp) (by rw [k3 oa (Ne.symm nmo), v2]; simp)) Zn.nw ?_ ?_
      · exact ⟨dx, wa, oa, _, _, _, _, MC.ended c mf ro (fv' := .non) none o3 (by rw [k3 wa (Ne.symm nmw)]; exact g2) (by rw [k3 oa (Ne.symm nmo)]; exact v2) k03, .inl ⟨rfl, rfl⟩⟩
      · rw [hf.obj]; exact k03 _ _ hf.obj xm.2.2.1 xm.2.2.2.1 xm.2.2.2.2
    · rw [decide_eq_false (show ¬ ((s.best : Nat) : Int) < 2 * ((Kg53.wins s.over o.winner + 1 : Nat) : Int) by omega)]
      have hst : st ≤ 1 := by rw [mf.st]; omega
      refine iteF ⟨_, rfl, _, m2.starter T, _, rfl, ?_⟩
      have es : ((1 : Int) - ((st : Nat) : Int)) = ((1 - st : Nat) : Int) := by omega
      rw [es]
      refine ⟨_, rfl, m, _, dx, _, rfl, o2, ⟨T.Match.cl, T.Match.na_starter, Match_len ..⟩, ?_⟩
      obtain ⟨H3, e3, o3, k3⟩ := m_st_starter (v := .int (1 - st : Nat)) o2
      rw [e3]
      have m3 : MatchAt A H3 m (.int s.best) (.ref wa) (.int (1 - st : Nat)) (.ref x.a) (.ref oa) := ⟨dx, o3⟩
      refine ⟨_, rfl, _, m3.starter T, fun y dy ny ndy ney => ?_⟩
      have s0 : Same H3 (mkO H3 y dy A.Frame.c []) := mkO_same ny ndy
      refine ⟨y, dy, 1 - st, rfl, mkO_new, fun H4 x4 ex4 kp4 f4 fr4 => ⟨rfl, ?_⟩⟩
      have s34 : Same H3 H4 := fun b u e => kp4 b u (s0 b u e) (ne_of_none e ny)
      have o4 := s34 _ _ o3
      refine ⟨_, rfl, m, _, dx, _, rfl, o4, ⟨T.Match.cl, T.Match.na_frame, Match_len ..⟩, ?_⟩
      obtain ⟨H5, e5, o5, k5⟩ := m_st_frame (v := .ref y) o4
      rw [e5]
      rw [ended_on s o mf.ok ro.le z] at q
      have k05 : ∀ b u, H b = some u → b ≠ m → b ≠ wa → b ≠ oa → H5 b = some u := fun b u e h0 h1 h2 => by rw [k5 b h0]; exact s34 b u (by rw [k3 b h0]; exact k02 b u e h1 h2)
      have g5 : H5 wa = some (.lst (pl ⟨Kg53.wins (s.over ++ [o]) 0, Kg53.wins (s.over ++ [o]) 1⟩)) := by rw [k5 wa (Ne.symm nmw)]; exact s34 _ _ (by rw [k3 wa (Ne.symm nmw)]; exact g2)
      have v5 : H5 oa = some (.lst ((as ++ [x.a]).map V.ref)) := by rw [k5 oa (Ne.symm nmo)]; exact s34 _ _ (by rw [k3 oa (Ne.symm nmo)]; exact v2)
      have c5 := MC.ended c mf ro (fv' := .ref y) (st' := 1 - st) (some (Kg53.fresh ((s.first + (s.over.length + 1)) % 2))) o5 g5 v5 k05
      -- the new frame's own objects
      have nw4 : ∀ b, x4.has b → H3 b = none := fun b hb => by
        rcases fr4 b hb with e | e
        · rw [e]; exact ny
        · exact s0.free e
      have ne4 : ∀ b, x4.has b → b ≠ m := fun b hb e => by have := nw4 b hb; rw [e, o3] at this; cases this
      have f5 : FAt A H5 x4 (PF.new (1 - st)) := f4.keepZ fun b u e hb => by
        by_cases em : b = m
        · exfalso
          subst em
          rcases hb with hb | ⟨d, r, l, nn, hb⟩
          · exact ne4 b hb rfl
          · rw [o4] at e
            have e := Option.some.inj e
            rw [hb] at e
            injection e with _ _ e
            exact absurd (show (5 : Nat) = 3 from congrArg List.length e) (by decide)
        · rw [k5 b em]; exact e
      have h3of : ∀ b u, H b = some u → ∃ u', H3 b = some u' := fun b u e => by
        by_cases h0 : b = m
        · rw [h0]; exact ⟨_, o3⟩
        · rw [k3 b h0]
          by_cases h1 : b = wa
          · rw [h1]; exact ⟨_, g2⟩
          · by_cases h2 : b = oa
            · rw [h2]; exact ⟨_, v2⟩
            · exact ⟨_, k02 b u e h1 h2⟩
      have hn : ∀ b, x4.has b → H b = none := fun b hb => by
        cases e : H b with
        | none => rfl
        | some u =>
          obtain ⟨u', e'⟩ := h3of b u e
          rw [nw4 b hb] at e'; cases e'
      have f5s : ∀ b, x4.has b → H5 b ≠ none := by
        obtain ⟨t5, tb5, hq⟩ := id f5
        rintro b (e | e | e | e)
        · rw [e, hq.obj]; simp
        · rw [e, hq.pts]; simp
        · rw [e, hq.high]; simp
        · rw [e, hq.big]; simp
      refine q H5 (Zn Z H H5) (kz_of c k05 (by rw [o5]; simp) (by rw [g5]; simp) (by rw [v5]; simp)) Zn.nw ?_ ?_
      · have e1st : 1 - st = (s.first + (s.over.length + 1)) % 2 := by rw [mf.st]; exact starter_next _ _
        refine ⟨dx, wa, oa, _, _, _, _, c5, .inr ⟨_, x4, PF.new (1 - st), rfl, by rw [ex4], ⟨f5, SOk.next s o mf.ok ro.le z _, ?_, fun b hb => ⟨⟨.inr (hn b hb), f5s b hb⟩, ?_, ne4 b hb, ?_, ?_⟩⟩, ?_⟩⟩
        · show 1 - st = (s.first + (s.over ++ [o]).length) % 2
          rw [List.length_append]; exact e1st
        · try dsimp only
          by_cases zz : x.has b
          · rw [if_pos zz]; exact hn b hb
          · rw [if_neg zz]
            cases e : G b with
            | none => rfl
            | some u => have := c.sub b u e; rw [hn b hb] at this; cases this
        · intro e; have := hn b hb; rw [e, c.won] at this; cases this
        · intro e; have := hn b hb; rw [e, c.ovr] at this; cases this
        · rw [← e1st]; exact FR.new (by omega)
      · rw [hf.obj]; exact k05 _ _ hf.obj xm.2.2.1 xm.2.2.2.1 xm.2.2.2.2
theorem ok_Match_give (T : Txt K mg A) : FnOk P w K mg base CX0 8 A.Match.give.f A.Match.give.fd ["self"] (spM A [] .give) := by
  refine T.Match.F_give.ok sc_Match_give (fun vs H Q E h => ?_) (fun cdv Ar outer s H vs Q E hr h => ?_)
  · obtain ⟨m, Z, s, rfl, _⟩ := h; rfl
  · obtain ⟨m, Z, s, rfl, hm, hlen, q⟩ := h
    refine ⟨_, ((pss_cons (ps_if (pt_cmpR op_isN (pe_f (pv 0) rfl) pe_non (nomark _)) (pss_one (ps_ret (pe_lst (pa_cons (pe_const T.k.c_NO_FRAME rfl) pa_nil)))) pss_nil)
      (pss_cons (ps_if (pt_cmpR op_eq (pe_f (pe_f (pv 0) rfl) rfl) (pe_const T.k.c_TO_BE_TOSSED rfl) (nomark _)) (pss_one (ps_ret (pe_lst (pa_cons (pe_const T.k.c_TOSS_FIRST rfl) pa_nil)))) pss_nil)
      (pss_cons (ps_set (i := 1) sc_Match_give.nd rfl (by first | exact Or.inl rfl | exact Or.inr rfl) (pe_f (pv 0) rfl))
      (pss_cons (ps_expr (pe_m0c (pv 1) T.Frame.cl T.Frame.t_give (ok_Frame_give T) (hr.mono (by decide)) T.Frame.b_give .nil pass0))
      (pss_cons (ps_expr (pe_m0c (pv 0) T.Match.cl T.Match.t_end_frame (ok_Match_end_frame T) (hr.mono (by decide)) T.Match.b_end_frame .nil pass0))
      (pss_one (ps_ret (pe_lst (pa_cons (pe_f (pv 1) rfl) pa_nil)))))))))), ?_⟩
    obtain ⟨dx, wa, oa, as, G, fv, st, c, h⟩ := id hm
    refine ⟨_, rfl, _, c.at_.frame T, rfl, _, rfl, ?_⟩
    rcases h with ⟨en, rfl⟩ | ⟨f, x, p, es, rfl, mf, fr⟩
    · have e1 : Kg53.spec s .give = (s, Kg53.num (-2)) := by show Kg53.onFrame s _ = _; unfold Kg53.onFrame; rw [en]
      rw [e1] at q
      exact iteT ⟨by show 1 ≤ sizeLine; decide, spM_same (ans := [-2]) hm (Same.refl H) q rfl⟩
    · refine iteF ?_
      obtain ⟨ta, tb, hf⟩ := mf.fr
      refine ⟨_, rfl, _, c.at_.frame T, _, hf.at_.turn T, rfl, _, rfl, ?_⟩
      have d2 : decide (((p.turn : Nat) : Int) = 2) = decide (p.turn = 2) := decN p.turn 2
      rw [dI, d2]
      cases ht : f.toss with
      | true =>
        rw [decide_eq_true (fr.turn2.mpr ht)]
        have e1 : Kg53.spec s .give = (s, Kg53.num (-3)) := by show Kg53.onFrame s _ = _; unfold Kg53.onFrame; rw [es]; dsimp only; rw [ht]; rfl
        rw [e1] at q
        exact iteT ⟨by show 1 ≤ sizeLine; decide, spM_same (ans := [-3]) hm (Same.refl H) q rfl⟩
      | false =>
        have nt : ¬ p.turn = 2 := fun w => by have := fr.turn2.mp w; rw [ht] at this; cases this
        rw [decide_eq_false nt]
        have e1 : Kg53.spec s .give = (Kg53.ended s (f.result (Kg53.other f.who) 1), Kg53.num (Kg53.other f.who : Nat)) := by show Kg53.onFrame s _ = _; unfold Kg53.onFrame; rw [es]; dsimp only; rw [ht]; rfl
        rw [e1] at q
        have ro := give_rel fr ht
        refine iteF ⟨_, rfl, _, c.at_.frame T, _, rfl, hf.at_.o_give, x, p, rfl, ⟨ta, tb, hf⟩, fr.turn_le ht, fun H1 k1 h1 => ?_⟩
        obtain ⟨c1, mf1, kz⟩ := c.frame mf k1 h1
        obtain ⟨ta1, tb1, hf1⟩ := id h1
        refine ⟨_, rfl, c1.at_.o_end_frame, m, Z, s, _, dx, wa, oa, as, G, st, x, _, rfl, c1, mf1, ro, hlen, fun H2 Z2 k2 nw2 hm2 ex2 => ?_⟩
        have hx2 : FrameAt A H2 x.a _ _ _ _ _ _ _ _ _ _ _ _ _ _ := ⟨x.dx, ex2.trans hf1.obj⟩
        refine ⟨_, rfl, _, hx2.winner T, by show 1 ≤ sizeLine; decide, fun l hl => ?_⟩
        have s3 : Same H2 (upd H2 l (.lst [.int (p.doGive.winner : Nat)])) := same_upd_new hl
        refine q _ Z2 l ((kz.trans k2 Nw.refl).then_ s3) (fun b zb => (nw2 b zb).imp id fun e => kz.dm b e) (hm2.same s3) (kz.dm l (k2.dm l hl)) ?_
        · rw [upd_same]
          have : p.doGive.winner = Kg53.other f.who := ro.win
          rw [this]; rfl
theorem ok_Match_refusal_of_stroke (T : Txt K mg A) : FnOk P w K mg base CX0 3 A.Match.refusal_of_stroke.f A.Match.refusal_of_stroke.fd ["self", "told"] (sp_refusal A) := by
  refine T.Match.F_refusal_of_stroke.ok sc_Match_refusal_of_stroke (fun vs H Q E h => ?_) (fun cdv Ar outer s H vs Q E hr h => ?_)
  · obtain ⟨m, Z, s, ka, pa, oa, n, hh, cc, d, mi, p, o, rfl, _⟩ := h; rfl
  · obtain ⟨m, Z, s, ka, pa, oa, n, hh, cc, d, mi, p, o, rfl, hm, raw, q⟩ := h
    refine ⟨_, ((pss_cons (ps_if (pt_not (pt_val (pe_call (ok_has_known_numbers T) (hr.mono (by decide)) rfl T.fs.m_has_known_numbers T.fs.F_has_known_numbers.kp T.fs.b_has_known_numbers .nil pass0 (pa_cons (pv 1) pa_nil)))) (pss_one (ps_ret (pe_const T.k.c_UNKNOWN_NUMBER rfl))) pss_nil)
      (pss_cons (ps_if (pt_cmpR op_isN (pe_f (pv 0) rfl) pe_non (nomark _)) (pss_one (ps_ret (pe_const T.k.c_NO_FRAME rfl))) pss_nil)
      (pss_cons (ps_if (pt_cmpR op_eq (pe_f (pe_f (pv 0) rfl) rfl) (pe_const T.k.c_TO_BE_TOSSED rfl) (nomark _)) (pss_one (ps_ret (pe_const T.k.c_TOSS_FIRST rfl))) pss_nil)
      (pss_cons (ps_if (pt_not (pt_val (pe_call (ok_can_have_been T) (hr.mono (by decide)) rfl T.fs.m_can_have_been T.fs.F_can_have_been.kp T.fs.b_can_have_been .nil pass0 (pa_cons (pv 1) (pa_cons (pe_f (pe_f (pv 0) rfl) rfl) pa_nil))))) (pss_one (ps_ret (pe_const T.k.c_CANNOT_HAVE_BEEN rfl))) pss_nil)
      (pss_one (ps_ret pe_int))))))), ?_⟩
    have l1 := raw.lp
    have l2 := raw.lo
    refine ⟨_, rfl, ka, pa, oa, n, hh, cc, d, mi, p, o, rfl, raw.obj, raw.pot, raw.off, by omega, fun H1 s1 => ⟨_, rfl, ?_⟩⟩
    have ek : known n hh cc d mi p o = (Kg53.strokeOf n hh cc d mi p o).isSome := (strokeOf_known n hh cc d mi p o wi fun _ _ => rfl).symm
    rw [ek]
    unfold refN at q
    cases es : Kg53.strokeOf n hh cc d mi p o with
    | none => rw [es] at q; exact iteT (q H1 s1)
    | some k =>
      rw [es] at q
      dsimp only at q
      refine iteF ?_
      obtain ⟨hk, ko⟩ := (raw.mono s1).told es
      obtain ⟨dx, wa, oa', as, G, fv, st, c, h⟩ := hm.same s1
      refine ⟨_, rfl, _, c.at_.frame T, rfl, _, rfl, ?_⟩
      rcases h with ⟨en, rfl⟩ | ⟨f, x, p', ef, rfl, mf, fr⟩
      · rw [en] at q
        exact iteT (q H1 s1)
      · rw [ef] at q
        dsimp only at q
        obtain ⟨ta, tb, hf⟩ := mf.fr
        refine iteF ⟨_, rfl, _, c.at_.frame T, _, hf.at_.turn T, rfl, _, rfl, ?_⟩
        have d2 : decide (((p'.turn : Nat) : Int) = 2) = decide (p'.turn = 2) := decN p'.turn 2
        rw [dI, d2]
        cases ht : f.toss with
        | true =>
          rw [decide_eq_true (fr.turn2.mpr ht)]
          rw [ht, if_pos rfl] at q
          exact iteT (q H1 s1)
        | false =>
          have nt : ¬ p'.turn = 2 := fun w => by have := fr.turn2.mp w; rw [ht] at this; cases this
          rw [decide_eq_false nt]
          rw [ht, if_neg Bool.false_ne_true] at q
          refine iteF ⟨_, rfl, _, rfl, _, c.at_.frame T, _, hf.at_.table T, ka, pa, oa, ta, k, p'.table, rfl, hk, hf.tab, fun H2 s2 => ⟨_, rfl, ?_⟩⟩
          rw [fr.table, chb_eq fr.ok.eight ko]
          cases eb : (Kg53.there f.table k && Kg53.couldBe f.table k) with
          | false => rw [eb, if_pos rfl] at q; exact iteT (q H2 (s1.trans s2))
          | true => rw [eb, if_neg (fun h => nomatch h)] at q; exact iteF (q H2 (s1.trans s2))
theorem ok_Match_stroke (T : Txt K mg A) : FnOk P w K mg base CX0 8 A.Match.stroke.f A.Match.stroke.fd ["self", "told"] (sp_stroke_m A) := by
  refine T.Match.F_stroke.ok sc_Match_stroke (fun vs H Q E h => ?_) (fun cdv Ar outer s H vs Q E hr h => ?_)
  · obtain ⟨ka, pa, oa, n, hh, cc, d, mi, p, o, _, m, Z, s, rfl, _⟩ := h; rfl
  · obtain ⟨ka, pa, oa, n, hh, cc, d, mi, p, o, raw, m, Z, s, rfl, hm, hlen, nz1, nz2, nz3, q⟩ := h
    refine ⟨_, ((pss_cons (ps_set (i := 2) sc_Match_stroke.nd rfl (by first | exact Or.inl rfl | exact Or.inr rfl) (pe_mc (pv 0) T.Match.cl T.Match.t_refusal_of_stroke (ok_Match_refusal_of_stroke T) (hr.mono (by decide)) T.Match.b_refusal_of_stroke .nil pass0 (pa_cons (pv 1) pa_nil)))
      (pss_cons (ps_if (pt_cmpR op_lt (pv 2) pe_int (nomark _)) (pss_one (ps_ret (pe_lst (pa_cons (pv 2) pa_nil)))) pss_nil)
      (pss_cons (ps_set (i := 3) sc_Match_stroke.nd rfl (by first | exact Or.inl rfl | exact Or.inr rfl) (pe_f (pv 0) rfl))
      (pss_cons (ps_set (i := 4) sc_Match_stroke.nd rfl (by first | exact Or.inl rfl | exact Or.inr rfl) (pe_mc (pv 3) T.Frame.cl T.Frame.t_play (ok_Frame_play T) (hr.mono (by decide)) T.Frame.b_play .nil pass0 (pa_cons (pv 1) pa_nil)))
      (pss_cons (ps_if (pt_cmpR op_ne (pe_f (pv 3) rfl) (pe_const T.k.c_NOBODY rfl) (nomark _)) (pss_cons (ps_expr (pe_m0c (pv 0) T.Match.cl T.Match.t_end_frame (ok_Match_end_frame T) (hr.mono (by decide)) T.Match.b_end_frame .nil pass0))
      (pss_one (ps_ret (pe_lst (pa_cons (pe_ix ix_list (pv 4) pe_int (fun _ _ => rfl)) (pa_cons (pe_ix ix_list (pv 4) pe_int (fun _ _ => rfl)) (pa_cons pe_int pa_nil))))))) pss_nil)
      (pss_cons (ps_set (i := 5) sc_Match_stroke.nd rfl (by first | exact Or.inl rfl | exact Or.inr rfl) (pe_ifExp (pt_val (pe_f (pv 3) rfl)) pe_int pe_int))
      (pss_one (ps_ret (pe_lst (pa_cons (pe_ix ix_list (pv 4) pe_int (fun _ _ => rfl)) (pa_cons (pe_ix ix_list (pv 4) pe_int (fun _ _ => rfl)) (pa_cons pe_int (pa_cons (pe_f (pv 3) rfl) (pa_cons (pe_f (pe_f (pv 3) rfl) rfl) (pa_cons (pv 5) (pa_cons (pe_ix ix_list (pv 4) pe_int (fun _ _ => rfl)) pa_nil))))))))))))))))), ?_⟩
    obtain ⟨dx0, wa0, oa0, as0, G0, fv0, st0, c0, _⟩ := id hm
    refine ⟨_, rfl, c0.at_.o_refusal_of_stroke, _, rfl, m, Z, s, ka, pa, oa, n, hh, cc, d, mi, p, o, rfl, hm, raw, fun H1 s1 => ?_⟩
    have hm1 := hm.same s1
    have no : ∀ i : Int, refN s n hh cc d mi p o = i → i < 0 → Kg53.spec s (.stroke n hh cc d mi p o) = (s, Kg53.num i) → _ := fun i e1 e2 e3 => by
      rw [e3] at q
      exact (spM_same (ans := [i]) hm s1 q rfl)
    refine ⟨_, rfl, _, _, rfl, rfl, _, rfl, ?_⟩
    cases es : Kg53.strokeOf n hh cc d mi p o with
    | none =>
      have e1 : refN s n hh cc d mi p o = -1 := by unfold refN; rw [es]
      have e2 : Kg53.spec s (.stroke n hh cc d mi p o) = (s, Kg53.num (-1)) := by unfold Kg53.spec; dsimp only; rw [es]
      rw [e1]
      exact iteT ⟨_, rfl, by show 1 ≤ sizeLine; decide, no (-1) e1 (by decide) e2⟩
    | some k =>
      obtain ⟨dx, wa, oa', as, G, fv, st, c, h⟩ := id hm1
      rcases h with ⟨en, rfl⟩ | ⟨f, x, p', ef, rfl, mf, fr⟩
      · have e1 : refN s n hh cc d mi p o = -2 := by unfold refN; rw [es]; dsimp only; rw [en]
        have e2 : Kg53.spec s (.stroke n hh cc d mi p o) = (s, Kg53.num (-2)) := by unfold Kg53.spec; dsimp only; rw [es]; dsimp only; unfold Kg53.onFrame; rw [en]
        rw [e1]
        exact iteT ⟨_, rfl, by show 1 ≤ sizeLine; decide, no (-2) e1 (by decide) e2⟩
      · cases ht : f.toss with
        | true =>
          have e1 : refN s n hh cc d mi p o = -3 := by unfold refN; rw [es]; dsimp only; rw [ef]; dsimp only; rw [ht]; rfl
          have e2 : Kg53.spec s (.stroke n hh cc d mi p o) = (s, Kg53.num (-3)) := by unfold Kg53.spec; dsimp only; rw [es]; dsimp only; unfold Kg53.onFrame; rw [ef]; dsimp only; rw [ht]; rfl
          rw [e1]
          exact iteT ⟨_, rfl, by show 1 ≤ sizeLine; decide, no (-3) e1 (by decide) e2⟩
        | false =>
          cases eb : (Kg53.there f.table k && Kg53.couldBe f.table k) with
          | false =>
            have e1 : refN s n hh cc d mi p o = -4 := by unfold refN; rw [es]; dsimp only; rw [ef]; dsimp only; rw [ht, eb]; rfl
            have e2 : Kg53.spec s (.stroke n hh cc d mi p o) = (s, Kg53.num (-4)) := by unfold Kg53.spec; dsimp only; rw [es]; dsimp only; unfold Kg53.onFrame; rw [ef]; dsimp only; rw [ht, eb]; rfl
            rw [e1]
            exact iteT ⟨_, rfl, by show 1 ≤ sizeLine; decide, no (-4) e1 (by decide) e2⟩
          | true =>
            have e1 : refN s n hh cc d mi p o = 0 := by unfold refN; rw [es]; dsimp only; rw [ef]; dsimp only; rw [ht, eb]; rfl
            have e2 : Kg53.spec s (.stroke n hh cc d mi p o) = Kg53.struck s f k := by unfold Kg53.spec; dsimp only; rw [es]; dsimp only; unfold Kg53.onFrame; rw [ef]; dsimp only; rw [ht, eb]; rfl
            rw [e1]
            rw [e2] at q
            refine iteF ?_
            obtain ⟨hk, ko⟩ := (raw.mono s1).told es
            have jo : JOk f k := ⟨fr.ok, ko, fr.col, eb⟩
            obtain ⟨ta, tb, hf⟩ := id mf.fr
            have zno : ∀ b, ¬ Z b → ¬ x.has b := fun b nz hb => nz (mf.sep b hb).1
            refine ⟨_, rfl, _, c.at_.frame T, _, rfl, hf.at_.o_play, _, rfl, x, p', ka, pa, oa, f, k, rfl, mf.fr, hk, jo, fr.turn_le ht, fr.table, fr.free, zno _ nz1, zno _ nz2, zno _ nz3, fun H2 la k2 h2 nla hla => ?_⟩
            obtain ⟨c2, mf2, kz2⟩ := c.frame mf k2 h2
            obtain ⟨ta2, tb2, hf2⟩ := id h2
            -- what the document says of the stroke
            have rel : EndR (Kg53.play f k) (playP p' f k) ∧ ∀ g, Kg53.play f k = .on_ g → playL p' f k = [if Kg53.isFoul f k = true then 2 else if 0 < Kg53.scored f k then 1 else 0, if Kg53.isFoul f k = true then Kg53.penalty f k else Kg53.scored f k, Kg53.truth ((g.foul.map Kg53.Foul.missed).getD false)] := by
              unfold playP playL
              cases ei : Kg53.isFoul f k with
              | true =>
                obtain ⟨r1, r2⟩ := foul_rel fr ht jo ei
                exact ⟨r1, fun g hg => by rw [r2 g hg]; rfl⟩
              | false =>
                obtain ⟨r1, r2⟩ := fair_rel fr ht jo ei
                exact ⟨r1, fun g hg => by rw [r2 g hg]; rfl⟩
            have heads : ∃ z, playL p' f k = [if Kg53.isFoul f k = true then 2 else if 0 < Kg53.scored f k then 1 else 0, if Kg53.isFoul f k = true then Kg53.penalty f k else Kg53.scored f k, z] := by
              unfold playL
              cases ei : Kg53.isFoul f k with
              | true => exact ⟨_, rfl⟩
              | false => exact ⟨_, rfl⟩
            obtain ⟨r1, r2⟩ := rel
            have q' : ∀ (H' : Hp) (Z' : Addr → Prop) (l : Addr), KZ Z H1 H' → Nw Z Z' H1 → MM A H' Z' m (Kg53.struck s f k).1 → H1 l = none → H' l = some (.lst (((Kg53.struck s f k).2.value :: (Kg53.struck s f k).2.out).map V.int)) → Q (.ref l) H' := fun H' Z' l a b c' d' e' =>
              q H' Z' l ((KZ.same s1).trans a Nw.refl) (fun b' zb => (b b' zb).imp id fun e => s1.free e) c' (s1.free d') e'
            unfold Kg53.struck at q'
            cases ep : Kg53.play f k with
            | on_ g =>
              rw [ep] at r1 q'
              have r1 : FR g (playP p' f k) := r1
              have r2 := r2 g ep
              rw [r2] at hla
              refine ⟨_, rfl, _, hf2.at_.winner T, rfl, _, rfl, ?_⟩
              have d2 : decide ((((playP p' f k).winner : Nat) : Int) = 2) = decide ((playP p' f k).winner = 2) := decN _ 2
              rw [dI, d2, r1.win]
              refine iteF ?_
              dsimp only [tNext]
              have hm2 : MM A H2 Z m { s with frame := some g } := ⟨dx, wa, oa', as, G, _, st, c2.set _, .inr ⟨g, x, _, rfl, rfl, mf2.set _, r1⟩⟩
              try dsimp only [gName, tNext]
              refine seq_of (fun σ' H' => σ' = [some (.ref m), some (.ref ka), some (.int 0), some (.ref x.a), some (.ref la), some (.int (Kg53.truth g.free : Nat))] ∧ H' = H2) ?_ ?_
              · rintro σ3 H3 ⟨rfl, rfl⟩
                refine ⟨_, rfl, la, _, _, _, rfl, rfl, SqL.of hla, rfl, _, rfl, la, _, _, _, rfl, rfl, SqL.of hla, rfl, _, rfl, _, hf2.at_.turn T, _, rfl, _, hf2.at_.table T, _, hf2.tab.on T, _, rfl, _, rfl, la, _, _, _, rfl, rfl, SqL.of hla, rfl, by show 7 ≤ sizeLine; decide, fun l hl => ?_⟩
                rw [r1.turn, r1.table, ← onNumber_eq r1.ok]
                have s4 := same_upd_new (o := .lst [V.int ((if Kg53.isFoul f k = true then 2 else if 0 < Kg53.scored f k then 1 else 0 : Nat) : Int), V.int ((if Kg53.isFoul f k = true then Kg53.penalty f k else Kg53.scored f k : Nat) : Int), V.int 0, V.int ((if g.toss = true then 2 else g.who : Nat) : Int), V.int ((Kg53.onNumber g.table : Nat) : Int), V.int ((Kg53.truth g.free : Nat) : Int), V.int ((Kg53.truth ((g.foul.map Kg53.Foul.missed).getD false) : Nat) : Int)]) hl
                exact q' _ Z l (kz2.then_ s4) Nw.refl (hm2.same s4) (kz2.dm l hl) upd_same
              · intro N hN
                refine ⟨_, rfl, _, hf2.at_.may_name_free T, _, rfl, ?_⟩
                rw [r1.free]
                cases eg : g.free with
                | true => rw [eg] at hN; exact iteT (hN _ _ ⟨rfl, rfl⟩)
                | false => rw [eg] at hN; exact iteF (hN _ _ ⟨rfl, rfl⟩)
            | over ov =>
              rw [ep] at r1 q'
              have r1 : OR ov (playP p' f k) := r1
              obtain ⟨zz, hz⟩ := heads
              rw [hz] at hla
              refine ⟨_, rfl, _, hf2.at_.winner T, rfl, _, rfl, ?_⟩
              have d2 : decide ((((playP p' f k).winner : Nat) : Int) = 2) = decide ((playP p' f k).winner = 2) := decN _ 2
              have le := r1.le
              rw [dI, d2, r1.win, decide_eq_false (show ¬ ov.winner = 2 by omega)]
              have nzla : ¬ Z la := fun z => hm1.dom la z nla
              refine iteT ⟨_, rfl, c2.at_.o_end_frame, m, Z, s, ov, dx, wa, oa', as, G, st, x, _, rfl, c2, mf2, r1, hlen, fun H3 Z3 k3 nw3 hm3 _ => ?_⟩
              have hla3 := k3.out _ _ hla nzla
              refine ⟨_, rfl, la, _, _, _, rfl, rfl, SqL.of hla3, rfl, _, rfl, la, _, _, _, rfl, rfl, SqL.of hla3, rfl, by show 3 ≤ sizeLine; decide, fun l hl => ?_⟩
              have s4 := same_upd_new (o := .lst [V.int ((if Kg53.isFoul f k = true then 2 else if 0 < Kg53.scored f k then 1 else 0 : Nat) : Int), V.int ((if Kg53.isFoul f k = true then Kg53.penalty f k else Kg53.scored f k : Nat) : Int), V.int 1]) hl
              exact q' _ Z3 l ((kz2.trans k3 Nw.refl).then_ s4) (fun b zb => (nw3 b zb).imp id fun e => kz2.dm b e) (hm3.same s4) (kz2.dm l (k3.dm l hl)) upd_same
theorem has_some {A : Adr} {H : Hp} {x : FA} {p : PF} (h : FAt A H x p) : ∀ b, x.has b → H b ≠ none := by
  obtain ⟨ta, tb, hq⟩ := h
  rintro b (e | e | e | e)
  · rw [e, hq.obj]; simp
  · rw [e, hq.pts]; simp
  · rw [e, hq.high]; simp
  · rw [e, hq.big]; simp
theorem ok_Match_init (T : Txt K mg A) : FnOk P w K mg base CX0 1 A.Match.init.f A.Match.init.fd ["self"] (sp_Match_init A) := by
  refine T.Match.F_init.ok sc_Match_init (fun vs H Q E h => ?_) (fun cdv Ar outer s H vs Q E hr h => ?_)
  · obtain ⟨p, dx, rfl, _⟩ := h; rfl
  · obtain ⟨p, dx, rfl, hp, q⟩ := h
    refine ⟨_, ((pss_cons (ps_fs (pv 0) pe_int rfl)
      (pss_cons (ps_fs (pv 0) (pe_lst (pa_cons pe_int (pa_cons pe_int pa_nil))) rfl)
      (pss_cons (ps_fs (pv 0) pe_int rfl)
      (pss_cons (ps_fs (pv 0) pe_non rfl)
      (pss_one (ps_fs (pv 0) (pe_lst pa_nil) rfl))))))), ?_⟩
    refine ⟨_, rfl, p, _, dx, _, rfl, hp, ⟨T.Match.cl, T.Match.na_best, by decide⟩, ?_⟩
    refine ⟨by show 2 ≤ sizeLine; decide, fun l1 hl1 => ?_⟩
    have n1 : p ≠ l1 := ne_of_none upd_same hl1
    rw [upd_ne (Ne.symm n1)] at hl1
    refine ⟨_, rfl, p, _, dx, _, rfl, by rw [upd_ne n1, upd_same], ⟨T.Match.cl, T.Match.na_won, Match_l1 ..⟩, ?_⟩
    refine ⟨_, rfl, p, _, dx, _, rfl, upd_same, ⟨T.Match.cl, T.Match.na_starter, Match_l2 ..⟩, ?_⟩
    rw [upd_upd]
    refine ⟨_, rfl, p, _, dx, _, rfl, upd_same, ⟨T.Match.cl, T.Match.na_frame, Match_l3 ..⟩, ?_⟩
    rw [upd_upd]
    refine ⟨by show 0 ≤ sizeLine; decide, fun l2 hl2 => ?_⟩
    have n2 : p ≠ l2 := ne_of_none upd_same hl2
    rw [upd_ne (Ne.symm n2)] at hl2
    have n12 : l1 ≠ l2 := ne_of_none upd_same hl2
    rw [upd_ne (Ne.symm n12), upd_ne (Ne.symm n2)] at hl2
    refine ⟨_, rfl, p, _, dx, _, rfl, by rw [upd_ne n2, upd_same], ⟨T.Match.cl, T.Match.na_frames_over, Match_l4 ..⟩, ?_⟩
    rw [Match_mk]
    refine (fun a b c => q _ (fun b => b = p ∨ b = l1 ∨ b = l2) a b c) ?_ ?_ ?_
    · intro b o e hb
      rw [upd_ne hb, upd_ne (ne_of_none e hl2), upd_ne hb, upd_ne (ne_of_none e hl1), upd_ne hb]; exact e
    · rintro b (e | e | e)
      · exact .inl e
      · right; rw [e]; exact hl1
      · right; rw [e]; exact hl2
    · refine ⟨dx, l1, l2, [], fun _ => none, .non, 0, ⟨upd_same, ?_, ?_, (fun _ _ e => nomatch e), .nil, rfl, rfl, rfl, n12, .inl rfl, .inr (.inl rfl), .inr (.inr rfl), (fun _ e => absurd rfl e), ?_⟩, .inl ⟨rfl, rfl⟩⟩
      · rw [upd_ne (Ne.symm n1), upd_ne n12, upd_ne (Ne.symm n1), upd_same]; rfl
      · rw [upd_ne (Ne.symm n2), upd_same]; rfl
      · rintro b (e | e | e) <;> rw [e]
        · rw [upd_same]; simp
        · rw [upd_ne (Ne.symm n1), upd_ne n12, upd_ne (Ne.symm n1), upd_same]; simp
        · rw [upd_ne (Ne.symm n2), upd_same]; simp
theorem ok_Match_begin (T : Txt K mg A) : FnOk P w K mg base CX0 7 A.Match.begin.f A.Match.begin.fd ["self", "best", "first"] (sp_begin A) := by
  refine T.Match.F_begin.ok sc_Match_begin (fun vs H Q E h => ?_) (fun cdv Ar outer s H vs Q E hr h => ?_)
  · obtain ⟨b, f, m, Z, s, rfl, _⟩ := h; rfl
  · obtain ⟨b, f, m, Z, s, rfl, hm, hlen, q⟩ := h
    refine ⟨_, ((pss_cons (ps_if (PW.pt (pw_or (pt_cmpR op_eq (pe_op op_mod (pv 1) pe_int) pe_int (nomark _)) (pw_or (pt_cmpR op_lt (pv 1) pe_int (nomark _)) (pw_or (pt_cmpR op_gt (pv 1) (pe_const T.k.c_MOST_FRAMES rfl) (nomark _)) (pw_or1 (pt_not (pt_val (pe_call (ok_is_player T) (hr.mono (by decide)) rfl T.fs.m_is_player T.fs.F_is_player.kp T.fs.b_is_player .nil pass0 (pa_cons (pv 2) pa_nil))))))))) (pss_one (ps_ret (pe_lst (pa_cons (pe_const T.k.c_UNKNOWN_NUMBER rfl) pa_nil)))) pss_nil)
      (pss_cons (ps_fs (pv 0) (pv 1) rfl)
      (pss_cons (ps_fs (pv 0) (pe_lst (pa_cons pe_int (pa_cons pe_int pa_nil))) rfl)
      (pss_cons (ps_fs (pv 0) (pv 2) rfl)
      (pss_cons (ps_fs (pv 0) (pe_make T.Frame.mak (ok_Frame_init T) (hr.mono (by decide)) rfl T.Frame.m T.Frame.b_init .nil pass0 (pa_cons (pv 2) pa_nil)) rfl)
      (pss_cons (ps_fs (pv 0) (pe_lst pa_nil) rfl)
      (pss_one (ps_ret (pe_lst (pa_cons pe_int pa_nil))))))))))), ?_⟩
    obtain ⟨dx, wa, oa, as, G, fv, st, c, _⟩ := id hm
    refine sIfO (decide (b % 2 = 0)) (decide (b < 1) || (decide (35 < b) || !(decide (f = 0) || decide (f = 1)))) (fun Q z => ⟨_, rfl, _, _, rfl, rfl, (by show (0 : Int) < 2; decide), rfl, _, rfl, by rw [dI]; exact z⟩)
      (fun _ Q z => tOrP (decide (b < 1)) (decide (35 < b) || !(decide (f = 0) || decide (f = 1))) (fun Q z => ⟨_, rfl, _, _, rfl, rfl, _, rfl, z⟩)
        (fun _ Q z => tOrP (decide (35 < b)) (!(decide (f = 0) || decide (f = 1))) (fun Q z => ⟨_, rfl, _, _, rfl, rfl, _, rfl, z⟩) (fun _ Q z => ⟨_, rfl, f, rfl, _, rfl, z⟩) z) z) ?_
    have eb := begin_ok b f
    cases e : (decide (b % 2 = 0) || (decide (b < 1) || (decide (35 < b) || !(decide (f = 0) || decide (f = 1))))) with
    | true =>
      rw [e] at eb
      have e1 : Kg53.spec s (.begin_ b f) = (s, Kg53.num (-1)) := if_pos eb
      rw [e1] at q
      exact iteT ⟨by show 1 ≤ sizeLine; decide, spM_same (ans := [-1]) hm (Same.refl H) q rfl⟩
    | false =>
      rw [e] at eb
      have eb : (Kg53.within b 1 35 && (decide (b % 2 = 1) && Kg53.within f 0 1)) = true := eb
      have e1 : Kg53.spec s (.begin_ b f) = (⟨b.toNat, f.toNat, [], some (Kg53.fresh f.toNat)⟩, Kg53.num 0) := if_neg (by rw [eb]; exact fun h => nomatch h)
      rw [e1] at q
      simp only [Bool.and_eq_true, within_iff] at eb
      obtain ⟨⟨b1, b2⟩, _, f1, f2⟩ := eb
      obtain ⟨nb, rfl⟩ : ∃ nb : Nat, b = nb := ⟨b.toNat, by omega⟩
      obtain ⟨nf, rfl⟩ : ∃ nf : Nat, f = nf := ⟨f.toNat, by omega⟩
      have hnf : nf ≤ 1 := by omega
      have q : ∀ (H' : Hp) (Z' : Addr → Prop) (l : Addr), KZ Z H H' → Nw Z Z' H → MM A H' Z' m ⟨nb, nf, [], some (Kg53.fresh nf)⟩ → H l = none → H' l = some (.lst [.int 0]) → Q (.ref l) H' := q
      refine iteF ⟨_, rfl, _, rfl, m, _, dx, _, rfl, c.obj, ⟨T.Match.cl, T.Match.na_best, Match_len ..⟩, ?_⟩
      obtain ⟨H1, e1, o1, k1⟩ := m_st_best (v := .int nb) c.obj
      rw [e1]
      -- won
      refine ⟨by show 2 ≤ sizeLine; decide, fun l1 hl1 => ?_⟩
      obtain ⟨H2, e2, g2, s2⟩ := new_obj (o := .lst [.int 0, .int 0]) hl1
      rw [e2]
      have o2 := s2 _ _ o1
      refine ⟨_, rfl, m, _, dx, _, rfl, o2, ⟨T.Match.cl, T.Match.na_won, Match_len ..⟩, ?_⟩
      obtain ⟨H3, e3, o3, k3⟩ := m_st_won (v := .ref l1) o2
      rw [e3]
      have n1 : m ≠ l1 := ne_of_none o1 hl1
      have g3 : H3 l1 = some (.lst [.int 0, .int 0]) := by rw [k3 l1 (Ne.symm n1)]; exact g2
      refine ⟨_, rfl, _, rfl, m, _, dx, _, rfl, o3, ⟨T.Match.cl, T.Match.na_starter, Match_len ..⟩, ?_⟩
      obtain ⟨H4, e4, o4, k4⟩ := m_st_starter (v := .int nf) o3
      rw [e4]
      have g4 : H4 l1 = some (.lst [.int 0, .int 0]) := by rw [k4 l1 (Ne.symm n1)]; exact g3
      have k04 : ∀ c u, H c = some u → c ≠ m → H4 c = some u := fun c u e hc => by rw [k4 c hc, k3 c hc]; exact s2 c u (by rw [k1 c hc]; exact e)
      -- the frame
      refine ⟨_, rfl, fun y dy ny ndy ney => ?_⟩
      have s0 : Same H4 (mkO H4 y dy A.Frame.c []) := mkO_same ny ndy
      refine ⟨y, dy, nf, rfl, mkO_new, fun H5 x5 ex5 kp5 f5 fr5 => ⟨rfl, ?_⟩⟩
      have s45 : Same H4 H5 := fun b u e => kp5 b u (s0 b u e) (ne_of_none e ny)
      have o5 := s45 _ _ o4
      refine ⟨_, rfl, m, _, dx, _, rfl, o5, ⟨T.Match.cl, T.Match.na_frame, Match_len ..⟩, ?_⟩
      obtain ⟨H6, e6, o6, k6⟩ := m_st_frame (v := .ref y) o5
      rw [e6]
      have nw5 : ∀ b, x5.has b → H4 b = none := fun b hb => by
        rcases fr5 b hb with e | e
        · rw [e]; exact ny
        · exact s0.free e
      have ne5 : ∀ b, x5.has b → b ≠ m := fun b hb e => by have := nw5 b hb; rw [e, o4] at this; cases this
      have f6 : FAt A H6 x5 (PF.new nf) := f5.keepZ fun b u e hb => by
        by_cases em : b = m
        · exfalso
          subst em
          rcases hb with hb | ⟨d, r, l, nn, hb⟩
          · exact ne5 b hb rfl
          · rw [o5] at e
            have e := Option.some.inj e
            rw [hb] at e
            injection e with _ _ e
            exact absurd (show (5 : Nat) = 3 from congrArg List.length e) (by decide)
        · rw [k6 b em]; exact e
      -- frames_over
      refine ⟨by show 0 ≤ sizeLine; decide, fun l2 hl2 => ?_⟩
      obtain ⟨H7, e7, g7, s7⟩ := new_obj (o := .lst []) hl2
      rw [e7]
      have o7 := s7 _ _ o6
      refine ⟨_, rfl, m, _, dx, _, rfl, o7, ⟨T.Match.cl, T.Match.na_frames_over, Match_len ..⟩, ?_⟩
      obtain ⟨H8, e8, o8, k8⟩ := m_st_over (v := .ref l2) o7
      rw [e8]
      have n2 : m ≠ l2 := ne_of_none o6 hl2
      have g6 : H6 l1 = some (.lst [.int 0, .int 0]) := by rw [k6 l1 (Ne.symm n1)]; exact s45 _ _ g4
      have n12 : l1 ≠ l2 := ne_of_none g6 hl2
      have g8 : H8 l1 = some (.lst [.int 0, .int 0]) := by rw [k8 l1 (Ne.symm n1)]; exact s7 _ _ g6
      have v8 : H8 l2 = some (.lst []) := by rw [k8 l2 (Ne.symm n2)]; exact g7
      have f8 : FAt A H8 x5 (PF.new nf) := f6.keepZ fun b u e hb => by
        by_cases em : b = m
        · exfalso
          subst em
          rcases hb with hb | ⟨d, r, l, nn, hb⟩
          · exact ne5 b hb rfl
          · rw [o6] at e
            have e := Option.some.inj e
            rw [hb] at e
            injection e with _ _ e
            exact absurd (show (5 : Nat) = 3 from congrArg List.length e) (by decide)
        · rw [k8 b em]; exact s7 b u e
      have k08 : ∀ c u, H c = some u → c ≠ m → H8 c = some u := fun c u e hc => by rw [k8 c hc]; exact s7 c u (by rw [k6 c hc]; exact s45 c u (k04 c u e hc))
      have kz : KZ Z H H8 := ⟨fun b u e z => k08 b u e fun em => z (by rw [em]; exact c.zm), fun b e => by
        cases z : H b with
        | none => rfl
        | some u =>
          exfalso
          by_cases em : b = m
          · rw [em, o8] at e; cases e
          · rw [k08 b u z em] at e; cases e⟩
      have hn5 : ∀ b, x5.has b → H b = none := fun b hb => by
        cases z : H b with
        | none => rfl
        | some u => have := k04 b u z (ne5 b hb); rw [nw5 b hb] at this; cases this
      have hl1' : H l1 = none := by rw [k1 l1 (Ne.symm n1)] at hl1; exact hl1
      have hl2' : H l2 = none := by
        cases z : H l2 with
        | none => rfl
        | some u => have := s45 l2 u (k04 l2 u z (Ne.symm n2)); rw [← k6 l2 (Ne.symm n2), hl2] at this; cases this
      have hm8 : MM A H8 (Zn Z H H8) m ⟨nb, nf, [], some (Kg53.fresh nf)⟩ := by
        refine ⟨dx, l1, l2, [], fun _ => none, .ref y, nf, ⟨o8, g8, v8, (fun _ _ e => nomatch e), .nil, rfl, rfl, rfl, n12, ⟨.inl c.zm, by rw [o8]; simp⟩, ⟨.inr hl1', by rw [g8]; simp⟩, ⟨.inr hl2', by rw [v8]; simp⟩, (fun _ e => absurd rfl e), fun b z => z.2⟩, .inr ⟨_, x5, _, rfl, by rw [ex5], ⟨f8, ⟨hnf, Nat.zero_le _, Nat.zero_le _⟩, ?_, fun b hb => ⟨⟨.inr (hn5 b hb), has_some f8 b hb⟩, rfl, ne5 b hb, ?_, ?_⟩⟩, FR.new hnf⟩⟩
        · show nf = (nf + 0) % 2
          omega
        · intro e; have := nw5 b hb; rw [e, g4] at this; cases this
        · intro e; have := has_some f6 b hb; rw [e] at this; exact this hl2
      refine ⟨by show 1 ≤ sizeLine; decide, fun l hl => ?_⟩
      have s9 : Same H8 (upd H8 l (.lst [.int 0])) := same_upd_new hl
      exact q _ _ l (kz.then_ s9) (fun b z => z.1) (hm8.same s9) (kz.dm l hl) upd_same
end
end Cue
end
section
set_option Elab.async false
set_option linter.all false
set_option maxRecDepth 100000
set_option autoImplicit false
set_option maxHeartbeats 4000000
namespace Cue
open PySem PySem.Spec PyProof.Rows L2
/-! ### the reader beside the match -/
section
variable {K : PySem.W.Frag} {A : Adr} {H H' H1 : Hp} {Z Z' : Addr → Prop} {m rd dx src : Addr} {l : List Int} {i : Nat} {s : Kg53.State}
theorem RdAt.notTab (r : RdAt K A H rd dx src l i) {o : HO} (e : H rd = some o) : ¬ IsTab A o := fun ⟨d, a, b, c, eo⟩ => by
  rw [r.obj] at e
  have e := Option.some.inj e
  rw [eo] at e
  injection e with _ _ e
  exact absurd (show (2 : Nat) = 3 from congrArg List.length e) (by decide)
theorem MM.kept (h : MM A H Z m s) (r : RdAt K A H rd dx src l i) (nz : ¬ Z rd) (k : Kept H H1 rd) : MM A H1 Z m s := h.keep fun b o e z => k b o e fun eb => by
  subst eb
  rcases z with z | z
  · exact nz z
  · exact r.notTab e z
theorem SqL.kz {xs : List V} (h : SqL K H src xs) (k : ∀ o, H src = some o → H' src = some o) : SqL K H' src xs := by
  rcases h with (h | ⟨o, h⟩) | h
  · exact .inl (.inl (k _ h))
  · exact .inl (.inr ⟨o, k _ h⟩)
  · exact .inr h
theorem RdAt.kz (r : RdAt K A H rd dx src l i) (k : KZ Z H H') (n1 : ¬ Z rd) (n2 : ¬ Z src ∨ ∀ H2 : Hp, SqL K H2 src (l.map V.int)) : RdAt K A H' rd dx src l i := ⟨k.out _ _ r.obj n1, n2.elim (fun n2 => SqL.kz r.src fun o e => k.out _ _ e n2) (fun q => q H'), r.le⟩
theorem RdAt.same (r : RdAt K A H rd dx src l i) (k : Same H H') : RdAt K A H' rd dx src l i := ⟨k _ _ r.obj, SqL.kz r.src fun o e => k _ _ e, r.le⟩
theorem Kept.dm (r : RdAt K A H1 rd dx src l i) (k : Kept H H1 rd) : ∀ b, H1 b = none → H b = none := fun b e => by
  cases z : H b with
  | none => rfl
  | some o =>
    exfalso
    by_cases eb : b = rd
    · rw [eb, r.obj] at e; cases e
    · rw [k b o z eb] at e; cases e
end
/-- a call by its number: the rest of the list tells it -/
def spC (K : PySem.W.Frag) (A : Adr) (n : Int) : Sp := fun vs H Q _ => ∃ (m rd dx src : Addr) (l : List Int) (i : Nat) (Z : Addr → Prop) (s : Kg53.State) (cc : List (List Int)) (args rest : List Int), vs = [.ref m, .ref rd] ∧ MM A H Z m s ∧ s.over.length ≤ 1000 ∧
  RdAt K A H rd dx src l i ∧ ¬ Z rd ∧ (¬ Z src ∨ ∀ H2 : Hp, SqL K H2 src (l.map V.int)) ∧ Form cc ∧ PyFlat.put1 cc = n :: args ∧ l.drop i = args ++ rest ∧
  ∀ (H' : Hp) (Z' : Addr → Prop) (p : Addr), (∀ b o, H b = some o → ¬ Z b → b ≠ rd → H' b = some o) → Nw Z Z' H → MM A H' Z' m (Kg53Neutral.step s cc).1 → RdAt K A H' rd dx src l (i + args.length) → H p = none →
    H' p = some (.lst ((Kg53Neutral.step s cc).2.map V.int)) → Q (.ref p) H'
theorem spec_step {cc : List (List Int)} {c : Kg53.Call} (s : Kg53.State) (h : Kg53Neutral.callOf cc = some c) : (Kg53Neutral.step s cc).1 = (Kg53.spec s c).1 ∧ (Kg53Neutral.step s cc).2 = (Kg53.spec s c).2.value :: (Kg53.spec s c).2.out := by
  rw [step_spec s h]; exact ⟨rfl, rfl⟩
/-- a call without numbers -/
theorem spC_plain {K : PySem.W.Frag} {A : Adr} {n : Int} {c : Kg53.Call} {cc0 : List (List Int)} (hc : ∀ cc args, Form cc → PyFlat.put1 cc = n :: args → cc = cc0 ∧ args = []) (h0 : Kg53Neutral.callOf cc0 = some c) {vs : List V} {H : Hp} {Q : VK} {E : XK} (h : spC K A n vs H Q E) :
    ∃ m rd, vs = [.ref m, .ref rd] ∧ (∃ Z s, MM A H Z m s) ∧ spM A [] c [.ref m] H Q E := by
  obtain ⟨m, rd, dx, src, l, i, Z, s, cc, args, rest, rfl, hm, hlen, r, n1, n2, fo, ep, _, q⟩ := h
  obtain ⟨rfl, rfl⟩ := hc cc args fo ep
  obtain ⟨e1, e2⟩ := spec_step s h0
  rw [e1, e2] at q
  exact ⟨m, rd, rfl, ⟨Z, s, hm⟩, m, Z, s, rfl, hm, hlen, fun H' Z' p kz nw hm' np hp => q H' Z' p (fun b o e z _ => kz.out b o e z) nw hm' (by rw [List.length_nil, Nat.add_zero]; exact r.kz kz n1 n2) np hp⟩
theorem drop_at {l a b : List Int} {i : Nat} (h : l.drop i = a ++ b) (hi : i ≤ l.length) : i + a.length ≤ l.length ∧ l.drop (i + a.length) = b ∧ (l.drop i).take a.length = a := by
  have e := congrArg List.length h
  rw [List.length_drop, List.length_append] at e
  refine ⟨by omega, ?_, by rw [h]; simp⟩
  rw [← List.drop_drop, h]
  simp
theorem drop_get {l b : List Int} {i : Nat} {z : Int} (h : l.drop i = z :: b) : l[i]? = some z := by
  have : (l.drop i)[0]? = some z := by rw [h]; rfl
  rw [List.getElem?_drop] at this
  exact this
section
variable {P : Program} {w : World} {K : PySem.W.Frag} {mg : Str → Option Value} {base : Heap} {A : Adr}
theorem ok_call_again (T : Txt K mg A) : FnOk P w K mg base CX0 5 A.fs.call_again.f A.fs.call_again.fd ["the_match", "reader"] (spC K A 3) := by
  refine T.fs.F_call_again.ok sc_call_again (fun vs H Q E h => ?_) (fun cdv Ar outer s H vs Q E hr h => ?_)
  · obtain ⟨m, rd, dx, src, l, i, Z, s, cc, args, rest, rfl, _⟩ := h; rfl
  · obtain ⟨m, rd, rfl, ⟨Z, s, hm⟩, q⟩ := spC_plain (c := .again) (cc0 := [[3]]) (fun cc args fo ep => by cases fo <;> cases ep; exact ⟨rfl, rfl⟩) rfl h
    refine ⟨_, ((pss_one (ps_ret (pe_m0c (pv 0) T.Match.cl T.Match.t_again (ok_Match_again T) (hr.mono (by decide)) T.Match.b_again .nil pass0)))), ?_⟩
    obtain ⟨dx, wa, oa, as, G, fv, st, c, _⟩ := hm
    exact ⟨_, rfl, c.at_.o_again, q⟩
theorem ok_call_back (T : Txt K mg A) : FnOk P w K mg base CX0 6 A.fs.call_back.f A.fs.call_back.fd ["the_match", "reader"] (spC K A 4) := by
  refine T.fs.F_call_back.ok sc_call_back (fun vs H Q E h => ?_) (fun cdv Ar outer s H vs Q E hr h => ?_)
  · obtain ⟨m, rd, dx, src, l, i, Z, s, cc, args, rest, rfl, _⟩ := h; rfl
  · obtain ⟨m, rd, rfl, ⟨Z, s, hm⟩, q⟩ := spC_plain (c := .back) (cc0 := [[4]]) (fun cc args fo ep => by cases fo <;> cases ep; exact ⟨rfl, rfl⟩) rfl h
    refine ⟨_, ((pss_one (ps_ret (pe_m0c (pv 0) T.Match.cl T.Match.t_back (ok_Match_back T) (hr.mono (by decide)) T.Match.b_back .nil pass0)))), ?_⟩
    obtain ⟨dx, wa, oa, as, G, fv, st, c, _⟩ := hm
    exact ⟨_, rfl, c.at_.o_back, q⟩
theorem ok_call_give (T : Txt K mg A) : FnOk P w K mg base CX0 9 A.fs.call_give.f A.fs.call_give.fd ["the_match", "reader"] (spC K A 6) := by
  refine T.fs.F_call_give.ok sc_call_give (fun vs H Q E h => ?_) (fun cdv Ar outer s H vs Q E hr h => ?_)
  · obtain ⟨m, rd, dx, src, l, i, Z, s, cc, args, rest, rfl, _⟩ := h; rfl
  · obtain ⟨m, rd, rfl, ⟨Z, s, hm⟩, q⟩ := spC_plain (c := .give) (cc0 := [[6]]) (fun cc args fo ep => by cases fo <;> cases ep; exact ⟨rfl, rfl⟩) rfl h
    refine ⟨_, ((pss_one (ps_ret (pe_m0c (pv 0) T.Match.cl T.Match.t_give (ok_Match_give T) (hr.mono (by decide)) T.Match.b_give .nil pass0)))), ?_⟩
    obtain ⟨dx, wa, oa, as, G, fv, st, c, _⟩ := hm
    exact ⟨_, rfl, c.at_.o_give, q⟩
theorem ok_call_now (T : Txt K mg A) : FnOk P w K mg base CX0 5 A.fs.call_now.f A.fs.call_now.fd ["the_match", "reader"] (spC K A 7) := by
  refine T.fs.F_call_now.ok sc_call_now (fun vs H Q E h => ?_) (fun cdv Ar outer s H vs Q E hr h => ?_)
  · obtain ⟨m, rd, dx, src, l, i, Z, s, cc, args, rest, rfl, _⟩ := h; rfl
  · obtain ⟨m, rd, rfl, ⟨Z, s, hm⟩, q⟩ := spC_plain (c := .now) (cc0 := [[7]]) (fun cc args fo ep => by cases fo <;> cases ep; exact ⟨rfl, rfl⟩) rfl h
    refine ⟨_, ((pss_one (ps_ret (pe_m0c (pv 0) T.Match.cl T.Match.t_now (ok_Match_now T) (hr.mono (by decide)) T.Match.b_now .nil pass0)))), ?_⟩
    obtain ⟨dx, wa, oa, as, G, fv, st, c, _⟩ := hm
    exact ⟨_, rfl, c.at_.o_now, q⟩
theorem ok_call_frames (T : Txt K mg A) : FnOk P w K mg base CX0 3 A.fs.call_frames.f A.fs.call_frames.fd ["the_match", "reader"] (spC K A 8) := by
  refine T.fs.F_call_frames.ok sc_call_frames (fun vs H Q E h => ?_) (fun cdv Ar outer s H vs Q E hr h => ?_)
  · obtain ⟨m, rd, dx, src, l, i, Z, s, cc, args, rest, rfl, _⟩ := h; rfl
  · obtain ⟨m, rd, rfl, ⟨Z, s, hm⟩, q⟩ := spC_plain (c := .frames) (cc0 := [[8]]) (fun cc args fo ep => by cases fo <;> cases ep; exact ⟨rfl, rfl⟩) rfl h
    refine ⟨_, ((pss_one (ps_ret (pe_m0c (pv 0) T.Match.cl T.Match.t_tell_frames (ok_Match_tell_frames T) (hr.mono (by decide)) T.Match.b_tell_frames .nil pass0)))), ?_⟩
    obtain ⟨dx, wa, oa, as, G, fv, st, c, _⟩ := hm
    exact ⟨_, rfl, c.at_.o_tell_frames, q⟩
theorem ok_call_match (T : Txt K mg A) : FnOk P w K mg base CX0 3 A.fs.call_match.f A.fs.call_match.fd ["the_match", "reader"] (spC K A 9) := by
  refine T.fs.F_call_match.ok sc_call_match (fun vs H Q E h => ?_) (fun cdv Ar outer s H vs Q E hr h => ?_)
  · obtain ⟨m, rd, dx, src, l, i, Z, s, cc, args, rest, rfl, _⟩ := h; rfl
  · obtain ⟨m, rd, rfl, ⟨Z, s, hm⟩, q⟩ := spC_plain (c := .match_) (cc0 := [[9]]) (fun cc args fo ep => by cases fo <;> cases ep; exact ⟨rfl, rfl⟩) rfl h
    refine ⟨_, ((pss_one (ps_ret (pe_m0c (pv 0) T.Match.cl T.Match.t_tell_match (ok_Match_tell_match T) (hr.mono (by decide)) T.Match.b_tell_match .nil pass0)))), ?_⟩
    obtain ⟨dx, wa, oa, as, G, fv, st, c, _⟩ := hm
    exact ⟨_, rfl, c.at_.o_tell_match, q⟩
theorem ok_call_toss (T : Txt K mg A) : FnOk P w K mg base CX0 3 A.fs.call_toss.f A.fs.call_toss.fd ["the_match", "reader"] (spC K A 5) := by
  refine T.fs.F_call_toss.ok sc_call_toss (fun vs H Q E h => ?_) (fun cdv Ar outer s H vs Q E hr h => ?_)
  · obtain ⟨m, rd, dx, src, l, i, Z, s, cc, args, rest, rfl, _⟩ := h; rfl
  · obtain ⟨m, rd, dx, src, l, i, Z, s, cc, args, rest, rfl, hm, hlen, r, n1, n2, fo, ep, ed, q⟩ := h
    refine ⟨_, ((pss_one (ps_ret (pe_mc (pv 0) T.Match.cl T.Match.t_toss (ok_Match_toss T) (hr.mono (by decide)) T.Match.b_toss .nil pass0 (pa_cons (pe_m0c (pv 1) T.Reader.cl T.Reader.t_take_number (ok_Reader_take_number T) (hr.mono (by decide)) T.Reader.b_take_number .nil pass0) pa_nil))))), ?_⟩
    obtain ⟨z, rfl, rfl⟩ : ∃ z, cc = [[5, z]] ∧ args = [z] := by cases fo <;> cases ep; exact ⟨_, rfl, rfl⟩
    obtain ⟨e1, e2⟩ := spec_step (c := .toss z) s (cc := [[5, z]]) rfl
    rw [e1, e2] at q
    obtain ⟨dx0, wa, oa, as, G, fv, st, c, _⟩ := id hm
    refine ⟨_, rfl, c.at_.o_toss, _, rfl, r.at'.o_take_number, rd, dx, src, l, i, z, rfl, r, drop_get ed, fun H1 k1 r1 => ?_⟩
    have hm1 := hm.kept r n1 k1
    refine ⟨z, m, Z, s, rfl, hm1, hlen, fun H2 Z2 p kz nw hm2 np hp => ?_⟩
    exact q H2 Z2 p (fun b o e z' nb => kz.out b o (k1 b o e nb) z') (fun b z' => (nw b z').imp id fun e => k1.dm r1 b e) hm2 (r1.kz kz n1 n2) (k1.dm r1 p np) hp
theorem ok_call_begin (T : Txt K mg A) : FnOk P w K mg base CX0 8 A.fs.call_begin.f A.fs.call_begin.fd ["the_match", "reader"] (spC K A 1) := by
  refine T.fs.F_call_begin.ok sc_call_begin (fun vs H Q E h => ?_) (fun cdv Ar outer s H vs Q E hr h => ?_)
  · obtain ⟨m, rd, dx, src, l, i, Z, s, cc, args, rest, rfl, _⟩ := h; rfl
  · obtain ⟨m, rd, dx, src, l, i, Z, s, cc, args, rest, rfl, hm, hlen, r, n1, n2, fo, ep, ed, q⟩ := h
    refine ⟨_, ((pss_cons (ps_set (i := 2) sc_call_begin.nd rfl (by first | exact Or.inl rfl | exact Or.inr rfl) (pe_mc (pv 1) T.Reader.cl T.Reader.t_take_numbers (ok_Reader_take_numbers T) (hr.mono (by decide)) T.Reader.b_take_numbers .nil pass0 (pa_cons pe_int pa_nil)))
      (pss_one (ps_ret (pe_mc (pv 0) T.Match.cl T.Match.t_begin (ok_Match_begin T) (hr.mono (by decide)) T.Match.b_begin .nil pass0 (pa_cons (pe_ix ix_list (pv 2) pe_int (fun _ _ => rfl)) (pa_cons (pe_ix ix_list (pv 2) pe_int (fun _ _ => rfl)) pa_nil))))))), ?_⟩
    obtain ⟨b, f, rfl, rfl⟩ : ∃ b f, cc = [[1, b, f]] ∧ args = [b, f] := by cases fo <;> cases ep; exact ⟨_, _, rfl, rfl⟩
    obtain ⟨e1, e2⟩ := spec_step (c := .begin_ b f) s (cc := [[1, b, f]]) rfl
    rw [e1, e2] at q
    obtain ⟨d1, d2, d3⟩ := drop_at ed r.le
    refine ⟨_, rfl, r.at'.o_take_numbers, rd, dx, src, l, i, 2, rfl, r, d1, fun H1 pn k1 hpn hp1 r1 => ?_⟩
    have d3 : (l.drop i).take 2 = [b, f] := d3
    rw [d3] at hp1
    have hm1 := hm.kept r n1 k1
    obtain ⟨dx0, wa, oa, as, G, fv, st, c, _⟩ := id hm1
    refine ⟨_, rfl, c.at_.o_begin, _, rfl, pn, _, 0, _, rfl, rfl, SqL.of hp1, rfl, _, rfl, pn, _, 1, _, rfl, rfl, SqL.of hp1, rfl, b, f, m, Z, s, rfl, hm1, hlen, fun H2 Z2 p kz nw hm2 np hp => ?_⟩
    exact q H2 Z2 p (fun b o e z' nb => kz.out b o (k1 b o e nb) z') (fun b z' => (nw b z').imp id fun e => k1.dm r1 b e) hm2 (r1.kz kz n1 n2) (k1.dm r1 p np) hp
theorem ok_call_stroke (T : Txt K mg A) : FnOk P w K mg base CX0 9 A.fs.call_stroke.f A.fs.call_stroke.fd ["the_match", "reader"] (spC K A 2) := by
  refine T.fs.F_call_stroke.ok sc_call_stroke (fun vs H Q E h => ?_) (fun cdv Ar outer s H vs Q E hr h => ?_)
  · obtain ⟨m, rd, dx, src, l, i, Z, s, cc, args, rest, rfl, _⟩ := h; rfl
  · obtain ⟨m, rd, dx, src, l, i, Z, s, cc, args, rest, rfl, hm, hlen, r, n1, n2, fo, ep, ed, q⟩ := h
    refine ⟨_, ((pss_cons (ps_set (i := 2) sc_call_stroke.nd rfl (by first | exact Or.inl rfl | exact Or.inr rfl) (pe_mc (pv 1) T.Reader.cl T.Reader.t_take_numbers (ok_Reader_take_numbers T) (hr.mono (by decide)) T.Reader.b_take_numbers .nil pass0 (pa_cons pe_int pa_nil)))
      (pss_cons (ps_set (i := 3) sc_call_stroke.nd rfl (by first | exact Or.inl rfl | exact Or.inr rfl) (pe_m0c (pv 1) T.Reader.cl T.Reader.t_take_row (ok_Reader_take_row T) (hr.mono (by decide)) T.Reader.b_take_row .nil pass0))
      (pss_cons (ps_set (i := 4) sc_call_stroke.nd rfl (by first | exact Or.inl rfl | exact Or.inr rfl) (pe_m0c (pv 1) T.Reader.cl T.Reader.t_take_row (ok_Reader_take_row T) (hr.mono (by decide)) T.Reader.b_take_row .nil pass0))
      (pss_one (ps_ret (pe_mc (pv 0) T.Match.cl T.Match.t_stroke (ok_Match_stroke T) (hr.mono (by decide)) T.Match.b_stroke .nil pass0 (pa_cons (pe_make T.Stroke.mak (ok_Stroke_init T) (hr.mono (by decide)) rfl T.Stroke.m T.Stroke.b_init .nil pass0 (pa_cons (pv 2) (pa_cons (pv 3) (pa_cons (pv 4) pa_nil)))) pa_nil)))))))), ?_⟩
    obtain ⟨n, hh, cd, d, mi, p, o, lp, lo, rfl, rfl⟩ : ∃ (n hh cd d mi : Int) (p o : List Int), p.length ≤ 30 ∧ o.length ≤ 30 ∧ cc = [[2, n, hh, cd, d, mi], p, o] ∧ args = [n, hh, cd, d, mi] ++ (((p.length : Int) :: p) ++ ((o.length : Int) :: o)) := by
      cases fo <;> cases ep
      rename_i n h c d m p o lp lo
      refine ⟨n, h, c, d, m, p, o, lp, lo, rfl, ?_⟩
      show _ = [n, h, c, d, m] ++ (PyFlat.putRow p ++ PyFlat.putRow o)
      simp [PyFlat.putRows, PyFlat.putRow]
    obtain ⟨e1, e2⟩ := spec_step (c := .stroke n hh cd d mi p o) s (cc := [[2, n, hh, cd, d, mi], p, o]) rfl
    rw [e1, e2] at q
    rw [List.append_assoc, List.append_assoc] at ed
    obtain ⟨d1, d2, d3⟩ := drop_at ed r.le
    -- the five numbers
    refine ⟨_, rfl, r.at'.o_take_numbers, rd, dx, src, l, i, 5, rfl, r, d1, fun H1 pn k1 hpn hp1 r1 => ?_⟩
    have d3 : (l.drop i).take 5 = [n, hh, cd, d, mi] := d3
    rw [d3] at hp1
    have d2 : l.drop (i + 5) = ((p.length : Int) :: p) ++ (((o.length : Int) :: o) ++ rest) := d2
    have d2' : l.drop (i + 5 + 1) = p ++ (((o.length : Int) :: o) ++ rest) := by
      rw [← List.drop_drop, d2]; rfl
    obtain ⟨f1, f2, f3⟩ := drop_at d2 r1.le
    have f1 : i + 5 + (p.length + 1) ≤ l.length := f1
    obtain ⟨g1, g2, g3⟩ := drop_at d2' (by omega)
    -- potted
    refine ⟨_, rfl, r1.at'.o_take_row, rd, dx, src, l, i + 5, p.length, rfl, r1, drop_get d2, by omega, fun H2 pa k2 hpa hp2 r2 => ?_⟩
    rw [g3] at hp2
    have hp12 : H2 pn = some (.lst ([n, hh, cd, d, mi].map V.int)) := k2 _ _ hp1 (ne_of hp1 r1.obj (by intro z; cases z))
    have h2 : l.drop (i + 5 + 1 + p.length) = ((o.length : Int) :: o) ++ rest := g2
    have h2' : l.drop (i + 5 + 1 + p.length + 1) = o ++ rest := by
      rw [← List.drop_drop, h2]; rfl
    obtain ⟨u1, u2, u3⟩ := drop_at h2 r2.le
    have u1 : i + 5 + 1 + p.length + (o.length + 1) ≤ l.length := u1
    obtain ⟨v1, v2, v3⟩ := drop_at h2' (by omega)
    -- off
    refine ⟨_, rfl, r2.at'.o_take_row, rd, dx, src, l, i + 5 + 1 + p.length, o.length, rfl, r2, drop_get h2, by omega, fun H3 oa k3 hoa hp3 r3 => ?_⟩
    rw [v3] at hp3
    have hp13 : H3 pn = some (.lst ([n, hh, cd, d, mi].map V.int)) := k3 _ _ hp12 (ne_of hp12 r2.obj (by intro z; cases z))
    have hp23 : H3 pa = some (.lst (p.map V.int)) := k3 _ _ hp2 (ne_of hp2 r2.obj (by intro z; cases z))
    have hm1 := hm.kept r n1 k1
    have hm2 := hm1.kept r1 n1 k2
    have hm3 := hm2.kept r2 n1 k3
    have nzp : ¬ Z pa := fun z => hm1.dom pa z hpa
    have nzo : ¬ Z oa := fun z => hm2.dom oa z hoa
    obtain ⟨dx0, wa, oa0, as, G, fv, st, c, _⟩ := id hm3
    refine ⟨_, rfl, c.at_.o_stroke, _, rfl, _, rfl, _, rfl, fun ka dk nka ndk nek => ?_⟩
    have s0 : Same H3 (mkO H3 ka dk A.Stroke.c []) := mkO_same nka ndk
    refine ⟨ka, dk, pn, n, hh, cd, d, mi, _, _, rfl, mkO_new, s0 _ _ hp13, rfl, ?_⟩
    rw [show upd (upd (upd H3 dk (.own ka)) ka (.ins A.Stroke.c dk [])) ka (.ins A.Stroke.c dk (Stroke_fs (.int n) (.int hh) (.int cd) (.int d) (.int mi) (.ref pa) (.ref oa))) = mkO H3 ka dk A.Stroke.c (Stroke_fs (.int n) (.int hh) (.int cd) (.int d) (.int mi) (.ref pa) (.ref oa)) from mkO_upd]
    have s4 : Same H3 (mkO H3 ka dk A.Stroke.c (Stroke_fs (.int n) (.int hh) (.int cd) (.int d) (.int mi) (.ref pa) (.ref oa))) := mkO_same nka ndk
    have g4 : mkO H3 ka dk A.Stroke.c (Stroke_fs (.int n) (.int hh) (.int cd) (.int d) (.int mi) (.ref pa) (.ref oa)) ka = some (.ins A.Stroke.c dk (Stroke_fs (.int n) (.int hh) (.int cd) (.int d) (.int mi) (.ref pa) (.ref oa))) := mkO_new
    generalize mkO H3 ka dk A.Stroke.c (Stroke_fs (.int n) (.int hh) (.int cd) (.int d) (.int mi) (.ref pa) (.ref oa)) = H4 at s4 g4
    have raw : RawAt A H4 ka pa oa n hh cd d mi p o := ⟨⟨dk, g4⟩, s4 _ _ hp23, s4 _ _ hp3, lp, lo⟩
    have nzk : ¬ Z ka := fun z => hm3.dom ka z nka
    refine ⟨ka, pa, oa, n, hh, cd, d, mi, p, o, raw, m, Z, s, rfl, hm3.same s4, hlen, nzk, nzp, nzo, fun H5 Z5 l5 kz nw hm5 np hp => ?_⟩
    have dm4 : ∀ b, H4 b = none → H b = none := fun b e => k1.dm r1 b (k2.dm r2 b (k3.dm r3 b (s4.free e)))
    refine q H5 Z5 l5 (fun b o e z' nb => kz.out b o (s4 b o (k3 b o (k2 b o (k1 b o e nb) nb) nb)) z') (fun b z' => (nw b z').imp id (dm4 b)) hm5 ?_ (dm4 l5 np) hp
    have r5 := (r3.same s4).kz kz n1 n2
    have el : i + ([n, hh, cd, d, mi] ++ (((p.length : Int) :: p) ++ ((o.length : Int) :: o))).length = i + 5 + 1 + p.length + 1 + o.length := by
      simp only [List.length_append, List.length_cons, List.length_nil]
      omega
    rw [el]
    exact r5
end
/-! ### answers -/
def sp_answers (K : PySem.W.Frag) : Sp := fun vs H Q _ => ∃ (a : Addr) (cs : List (List (List Int))), vs = [.ref a] ∧ SqL K H a ((PyFlat.put cs).map V.int) ∧ (∀ c ∈ cs, Form c) ∧ cs.length ≤ 400 ∧
  ∀ (H' : Hp) (p : Addr), H' p = some (.lst ((PyFlat.told (PyFlat.played Kg53Neutral.step Kg53Neutral.start cs)).map V.int)) → Q (.ref p) H'
def run (cs : List (List (List Int))) : Kg53.State := cs.foldl (fun s c => (Kg53Neutral.step s c).1) Kg53Neutral.start
def out (cs : List (List (List Int))) : List Int := PyFlat.told (PyFlat.played Kg53Neutral.step Kg53Neutral.start cs)
theorem run_snoc (a : List (List (List Int))) (c : List (List Int)) : run (a ++ [c]) = (Kg53Neutral.step (run a) c).1 := by
  unfold run; rw [List.foldl_append]; rfl
theorem out_snoc (a : List (List (List Int))) (c : List (List Int)) : out (a ++ [c]) = out a ++ (((Kg53Neutral.step (run a) c).2.length : Int) :: (Kg53Neutral.step (run a) c).2) := by
  unfold out
  rw [played_app, told_app]
  show _ ++ PyFlat.told [(Kg53Neutral.step (run a) c).2] = _
  congr 1
  show ((_ : Int) :: _) ++ [] = _
  rw [List.append_nil]
structure Mid (K : PySem.W.Frag) (A : Adr) (H : Hp) (Z : Addr → Prop) (m rd dx src gv : Addr) (cs done todo : List (List (List Int))) : Prop where
  eq : cs = done ++ todo
  mm : MM A H Z m (run done)
  ov : (run done).over.length ≤ done.length
  rdr : RdAt K A H rd dx src (PyFlat.put cs) (PyFlat.put done).length
  zr : ¬ Z rd
  zs : (¬ Z src ∧ gv ≠ src) ∨ ∀ H2 : Hp, SqL K H2 src ((PyFlat.put cs).map V.int)
  zg : ¬ Z gv
  gr : gv ≠ rd
  given : H gv = some (.lst ((out done).map V.int))
  len : (out done).length ≤ done.length * 2500
theorem MM.setL {A : Adr} {H : Hp} {Z : Addr → Prop} {m gv : Addr} {s : Kg53.State} {xs ys : List V} (h : MM A H Z m s) (nz : ¬ Z gv) (e : H gv = some (.lst xs)) : MM A (upd H gv (.lst ys)) Z m s := h.keep fun b o eb z => by
  have hb : b ≠ gv := fun q => by
    subst q
    rcases z with z | ⟨_, _, _, _, z⟩
    · exact nz z
    · rw [e] at eb
      rw [z] at eb
      cases eb
  rw [upd_ne hb]
  exact eb
theorem RdAt.setL {K : PySem.W.Frag} {A : Adr} {H : Hp} {rd dx src gv : Addr} {l : List Int} {i : Nat} {ys : List V} (r : RdAt K A H rd dx src l i) (n : gv ≠ rd) (q : gv ≠ src ∨ ∀ H2 : Hp, SqL K H2 src (l.map V.int)) : RdAt K A (upd H gv (.lst ys)) rd dx src l i :=
  ⟨by rw [upd_ne (Ne.symm n)]; exact r.obj, q.elim (fun n2 => SqL.kz r.src fun o e => by rw [upd_ne (Ne.symm n2)]; exact e) (fun q => q _), r.le⟩
section
variable {P : Program} {w : World} {K : PySem.W.Frag} {mg : Str → Option Value} {base : Heap} {A : Adr}
theorem binds_answers (T : Txt K mg A) (s : Shared) (us : List Value) (hu : us.length = (["calls"] : List Str).length) : BindsTo s A.fs.answers.fd ⟨us, []⟩ ((["calls"] : List Str).zip us) := by
  obtain ⟨oc, od, kV, doc, pm, an, cdv, ct, osl, e, _⟩ := T.fs.F_answers.ex
  rw [e]
  match us, hu with
  | [_], _ => exact .of_eq rfl
theorem calls_at (T : Txt K mg A) {n : Int} {c : List (List Int)} {args : List Int} (fo : Form c) (e : PyFlat.put1 c = n :: args) {Ar : Around} (hr : Room (10 - 1) Ar) :
    ∃ (f : Addr) (k : Nat) (fd : FuncData), ([(1, A.fs.call_begin.f), (2, A.fs.call_stroke.f), (3, A.fs.call_again.f), (4, A.fs.call_back.f), (5, A.fs.call_toss.f), (6, A.fs.call_give.f), (7, A.fs.call_now.f), (8, A.fs.call_frames.f), (9, A.fs.call_match.f)] : List (Int × Addr)).lookup n = some f ∧
      PySem.W.keepIn K (.ref f) = true ∧ FnOk P w K mg base CX0 k f fd ["the_match", "reader"] (spC K A n) ∧ Room k Ar ∧ Binds K fd ["the_match", "reader"] [] := by
  cases fo with
  | begin_ b f => cases e; exact ⟨_, _, _, rfl, T.fs.F_call_begin.kp, ok_call_begin T, hr.mono (by decide), T.fs.b_call_begin⟩
  | stroke n h c d m p o lp lo => cases e; exact ⟨_, _, _, rfl, T.fs.F_call_stroke.kp, ok_call_stroke T, hr.mono (by decide), T.fs.b_call_stroke⟩
  | again => cases e; exact ⟨_, _, _, rfl, T.fs.F_call_again.kp, ok_call_again T, hr.mono (by decide), T.fs.b_call_again⟩
  | back => cases e; exact ⟨_, _, _, rfl, T.fs.F_call_back.kp, ok_call_back T, hr.mono (by decide), T.fs.b_call_back⟩
  | toss z => cases e; exact ⟨_, _, _, rfl, T.fs.F_call_toss.kp, ok_call_toss T, hr.mono (by decide), T.fs.b_call_toss⟩
  | give => cases e; exact ⟨_, _, _, rfl, T.fs.F_call_give.kp, ok_call_give T, hr.mono (by decide), T.fs.b_call_give⟩
  | now => cases e; exact ⟨_, _, _, rfl, T.fs.F_call_now.kp, ok_call_now T, hr.mono (by decide), T.fs.b_call_now⟩
  | frames => cases e; exact ⟨_, _, _, rfl, T.fs.F_call_frames.kp, ok_call_frames T, hr.mono (by decide), T.fs.b_call_frames⟩
  | match_ => cases e; exact ⟨_, _, _, rfl, T.fs.F_call_match.kp, ok_call_match T, hr.mono (by decide), T.fs.b_call_match⟩
theorem ok_answers (T : Txt K mg A) : FnOk P w K mg base CX0 10 A.fs.answers.f A.fs.answers.fd ["calls"] (sp_answers K) := by
  refine T.fs.F_answers.ok sc_answers (fun vs H Q E h => ?_) (fun cdv Ar outer s H vs Q E hr h => ?_)
  · obtain ⟨a, cs, rfl, _⟩ := h; rfl
  · obtain ⟨a, cs, rfl, hs, hf, hlen, q⟩ := h
    refine ⟨_, ((pss_cons (ps_set (i := 1) sc_answers.nd rfl (by first | exact Or.inl rfl | exact Or.inr rfl) (pe_make T.Reader.mak (ok_Reader_init T) (hr.mono (by decide)) rfl T.Reader.m T.Reader.b_init .nil pass0 (pa_cons (pv 0) pa_nil)))
      (pss_cons (ps_set (i := 2) sc_answers.nd rfl (by first | exact Or.inl rfl | exact Or.inr rfl) (pe_make0 T.Match.mak (ok_Match_init T) (hr.mono (by decide)) rfl T.Match.m T.Match.b_init .nil pass0))
      (pss_cons (ps_set (i := 3) sc_answers.nd rfl (by first | exact Or.inl rfl | exact Or.inr rfl) (pe_lst pa_nil))
      (pss_cons (ps_while PassesOwn.never (pt_not (pt_val (pe_m0c (pv 1) T.Reader.cl T.Reader.t_is_at_end (ok_Reader_is_at_end T) (hr.mono (by decide)) T.Reader.b_is_at_end .nil pass0))) (pss_cons (ps_set (i := 4) sc_answers.nd rfl (by first | exact Or.inl rfl | exact Or.inr rfl) (pe_m0c (pv 1) T.Reader.cl T.Reader.t_take_number (ok_Reader_take_number T) (hr.mono (by decide)) T.Reader.b_take_number .nil pass0))
      (pss_cons (ps_set (i := 5) sc_answers.nd rfl (by first | exact Or.inl rfl | exact Or.inr rfl) (pe_callE (pe_kdict T.d_CALLS rfl (pv 4) (fun _ _ => rfl)) (pa_cons (pv 2) (pa_cons (pv 1) pa_nil))))
      (pss_cons (ps_expr (pe_bm PySem.F.plainAttrs_list PySem.F.slot_list_append PySem.F.type_list_append mt_append (pv 3) (pa_cons (pe_callB call_len_seq rfl T.k.b_len boot_len (pa_cons (pv 5) pa_nil)) pa_nil)))
      (pss_one (ps_expr (pe_bm PySem.F.plainAttrs_list PySem.F.slot_list_extend PySem.F.type_list_extend mt_extend (pv 3) (pa_cons (pv 5) pa_nil))))))))
      (pss_one (ps_ret (pv 3)))))))), ?_⟩
    -- the reader
    refine ⟨_, rfl, fun rd dx nrd ndx _ => ?_⟩
    refine ⟨rd, dx, _, rfl, upd_same, rfl, ?_⟩
    rw [show upd (upd (upd H dx (.own rd)) rd (.ins A.Reader.c dx [])) rd (.ins A.Reader.c dx (Reader_fs (.ref a) (.int 0))) = mkO H rd dx A.Reader.c (Reader_fs (.ref a) (.int 0)) from mkO_upd]
    have s1 : Same H (mkO H rd dx A.Reader.c (Reader_fs (.ref a) (.int 0))) := mkO_same nrd ndx
    have g1 : mkO H rd dx A.Reader.c (Reader_fs (.ref a) (.int 0)) rd = some (.ins A.Reader.c dx (Reader_fs (.ref a) (.int 0))) := mkO_new
    generalize mkO H rd dx A.Reader.c (Reader_fs (.ref a) (.int 0)) = H1 at s1 g1
    -- the match
    refine fun m dm nm ndm _ => ?_
    have s0 : Same H1 (mkO H1 m dm A.Match.c []) := mkO_same nm ndm
    refine ⟨m, dm, rfl, mkO_new, fun H2 Z2 k2 z2 hm2 => ⟨rfl, ?_⟩⟩
    have s12 : Same H1 H2 := fun b o e => k2 b o (s0 b o e) (ne_of_none e nm)
    have z2' : ∀ b o, H1 b = some o → ¬ Z2 b := fun b o e z => by
      rcases z2 b z with q | q
      · rw [q, nm] at e; cases e
      · have q2 : upd (upd H1 dm (.own m)) m (.ins A.Match.c dm []) b = some o := s0 b o e
        rw [q2] at q; cases q
    -- given
    refine ⟨by show 0 ≤ sizeLine; decide, fun gv hgv => ?_⟩
    obtain ⟨H3, e3, g3, s3⟩ := new_obj (o := .lst []) hgv
    dsimp only [gName, tNext]
    rw [e3]
    have sAll : Same H H3 := (s1.trans s12).trans s3
    have src : (∃ o, H a = some o) ∨ ∀ H2 : Hp, SqL K H2 a ((PyFlat.put cs).map V.int) := by
      rcases hs with (h | ⟨o, h⟩) | h
      · exact .inl ⟨_, h⟩
      · exact .inl ⟨_, h⟩
      · exact .inr fun _ => .inr h
    have mid0 : Mid K A H3 Z2 m rd dx a gv cs [] cs := ⟨rfl, hm2.same s3, Nat.le_refl _, ⟨s3 _ _ (s12 _ _ g1), sAll.seq hs, Nat.zero_le _⟩, z2' rd _ g1, src.imp (fun ⟨o, e⟩ => ⟨z2' a o (s1 _ _ e), Ne.symm (ne_of_none (s12 _ _ (s1 _ _ e)) hgv)⟩) id,
      fun z => hm2.dom gv z hgv, Ne.symm (ne_of_none (s12 _ _ g1) hgv), g3, Nat.le_refl _⟩
    refine ⟨fun n σ' H' => ∃ (Z : Addr → Prop) (done todo : List (List (List Int))) (v4 v5 : Option V), n = todo.length ∧ σ' = [some (.ref a), some (.ref rd), some (.ref m), some (.ref gv), v4, v5] ∧ Mid K A H' Z m rd dx a gv cs done todo, ⟨cs.length, Z2, [], cs, none, none, rfl, rfl, mid0⟩, ?_⟩
    rintro n σ' H' ⟨Z, done, todo, v4, v5, rfl, rfl, mid⟩
    refine ⟨_, rfl, mid.rdr.at'.o_is_at_end, rd, dx, a, PyFlat.put cs, (PyFlat.put done).length, rfl, mid.rdr, _, rfl, ?_⟩
    cases todo with
    | nil =>
      have ec : cs = done := by rw [mid.eq, List.append_nil]
      rw [decide_eq_true (show (PyFlat.put cs).length ≤ (PyFlat.put done).length by rw [ec]; exact Nat.le_refl _)]
      refine iteF ⟨_, rfl, ?_⟩
      refine q H' gv ?_
      have := mid.given
      rw [← ec] at this
      exact this
    | cons c r =>
      have fo : Form c := hf c (by rw [mid.eq]; simp)
      obtain ⟨x, args, ep⟩ := put1_ne fo
      have eput : PyFlat.put cs = PyFlat.put done ++ (x :: (args ++ PyFlat.put r)) := by
        rw [mid.eq, put_app]
        show _ ++ (PyFlat.put1 c ++ PyFlat.put r) = _
        rw [ep]; rfl
      have elen : (PyFlat.put cs).length = (PyFlat.put done).length + (1 + (args.length + (PyFlat.put r).length)) := by
        rw [eput, List.length_append, List.length_cons, List.length_append]; omega
      rw [decide_eq_false (show ¬ (PyFlat.put cs).length ≤ (PyFlat.put done).length by omega)]
      have edrop : (PyFlat.put cs).drop (PyFlat.put done).length = x :: (args ++ PyFlat.put r) := by rw [eput]; simp
      have edrop1 : (PyFlat.put cs).drop ((PyFlat.put done).length + 1) = args ++ PyFlat.put r := by rw [← List.drop_drop, edrop]; rfl
      have hdone : done.length + (1 + r.length) ≤ 400 := by
        have := congrArg List.length mid.eq
        rw [List.length_append, List.length_cons] at this
        omega
      refine iteT ⟨fun σ2 H2 => ∃ n2, n2 < (c :: r).length ∧ ∃ (Z : Addr → Prop) (done todo : List (List (List Int))) (v4 v5 : Option V), n2 = todo.length ∧ σ2 = [some (.ref a), some (.ref rd), some (.ref m), some (.ref gv), v4, v5] ∧ Mid K A H2 Z m rd dx a gv cs done todo, fun _ _ h => h, ?_⟩
      -- the number
      refine ⟨_, rfl, mid.rdr.at'.o_take_number, rd, dx, a, PyFlat.put cs, (PyFlat.put done).length, x, rfl, mid.rdr, drop_get edrop, fun H4 k4 r4 => ?_⟩
      have hm4 := mid.mm.kept mid.rdr mid.zr k4
      have g4 : H4 gv = some (.lst ((out done).map V.int)) := k4 _ _ mid.given mid.gr
      -- the call
      obtain ⟨f, kk, fd, hlk, hkp, F, hroom, hb⟩ := calls_at (P := P) (w := w) (base := base) T fo ep hr
      refine ⟨_, rfl, x, f, rfl, hlk, f, kk, fd, _, _, rfl, ⟨hkp, F, hroom, hb⟩, _, rfl, _, rfl, m, rd, dx, a, PyFlat.put cs, (PyFlat.put done).length + 1, Z, run done, c, args, PyFlat.put r, rfl, hm4, ?_, r4, mid.zr, mid.zs.imp (fun z => z.1) id, fo, ep, edrop1, fun H5 Z5 p k5 nw5 hm5 r5 np hp => ?_⟩
      · exact Nat.le_trans mid.ov (by omega)
      have g5 : H5 gv = some (.lst ((out done).map V.int)) := k5 _ _ g4 mid.zg mid.gr
      have npg : p ≠ gv := Ne.symm (ne_of_none g4 np)
      obtain ⟨l1, l2⟩ := step_len (run done) fo
      have ov := mid.ov
      have ln := mid.len
      have zg5 : ¬ Z5 gv := fun z => (nw5 gv z).elim mid.zg fun e => (by rw [g4] at e; cases e)
      -- append, extend
      refine ⟨_, rfl, .inl ⟨rfl, _, SqL.of g5⟩, _, rfl, p, _, rfl, .inl (SqL.of hp), gv, _, _, rfl, rfl, g5, ?_, ?_⟩
      · rw [List.length_map]
        exact Nat.lt_of_le_of_lt (Nat.le_trans ln (Nat.mul_le_mul_right 2500 (show done.length ≤ 400 by omega))) (by decide)
      obtain ⟨H6, e6, g6, k6⟩ : ∃ H6, upd H5 gv (.lst ((out done).map V.int ++ [.int (((Kg53Neutral.step (run done) c).2.map V.int).length : Nat)])) = H6 ∧ H6 gv = some (.lst ((out done).map V.int ++ [.int (((Kg53Neutral.step (run done) c).2.map V.int).length : Nat)])) ∧ ∀ b, b ≠ gv → H6 b = H5 b := ⟨_, rfl, upd_same, fun b hb => upd_ne hb⟩
      rw [e6]
      have hp6 : H6 p = some (.lst ((Kg53Neutral.step (run done) c).2.map V.int)) := by rw [k6 p npg]; exact hp
      refine ⟨_, rfl, .inl ⟨rfl, _, SqL.of g6⟩, _, rfl, gv, p, _, _, rfl, rfl, g6, hp6, ?_, ?_⟩
      · rw [List.length_append, List.length_map, List.length_map]
        show (out done).length + 1 + _ ≤ _
        have : done.length * 2500 ≤ 400 * 2500 := Nat.mul_le_mul_right 2500 (show done.length ≤ 400 by omega)
        exact Nat.le_trans (show _ ≤ 1100000 by omega) (by decide)
      · have eo : (out done).map V.int ++ [.int (((Kg53Neutral.step (run done) c).2.map V.int).length : Nat)] ++ (Kg53Neutral.step (run done) c).2.map V.int = (out (done ++ [c])).map V.int := by
          rw [out_snoc, List.map_append, List.append_assoc, List.length_map]; rfl
        rw [eo]
        refine ⟨r.length, by show r.length < r.length + 1; omega, Z5, done ++ [c], r, _, _, rfl, rfl, ?_⟩
        rw [← e6, upd_upd]
        have q5 : gv ≠ a ∨ ∀ H2 : Hp, SqL K H2 a ((PyFlat.put cs).map V.int) := mid.zs.imp (fun z => z.2) id
        have el : (PyFlat.put done).length + 1 + args.length = (PyFlat.put (done ++ [c])).length := by
          rw [put_app, List.length_append]
          show _ = _ + (PyFlat.put1 c ++ []).length
          rw [List.append_nil, ep, List.length_cons]; omega
        rw [el] at r5
        refine ⟨by rw [mid.eq]; simp, by rw [run_snoc]; exact hm5.setL zg5 g5, ?_, r5.setL mid.gr q5, ?_, ?_, zg5, mid.gr, upd_same, ?_⟩
        · rw [run_snoc, List.length_append]
          exact Nat.le_trans l1 (by show _ + 1 ≤ _ + 1; omega)
        · exact fun z => (nw5 rd z).elim mid.zr fun e => (by rw [r4.obj] at e; cases e)
        · rcases mid.zs with z | z
          · rcases r4.src with (h | ⟨o, h⟩) | h
            · exact .inl ⟨fun z5 => (nw5 a z5).elim z.1 fun en => (by rw [h] at en; cases en), z.2⟩
            · exact .inl ⟨fun z5 => (nw5 a z5).elim z.1 fun en => (by rw [h] at en; cases en), z.2⟩
            · exact .inr fun _ => .inr h
          · exact .inr z
        · rw [out_snoc, List.length_append, List.length_append, List.length_cons]
          show _ ≤ (done.length + 1) * 2500
          omega
end
end Cue
end
section
namespace PySem.W.Fast
def tw10012346399727858457 := ()
def tw10019887683036675611 := ()
def tw10031075219434841770 := ()
def tw10038592897121727764 := ()
def tw10048043298160235520 := ()
def tw10066407179595227386 := ()
def tw10114378622783828480 := ()
def tw10120041316989541617 := ()
def tw10139870537611963094 := ()
def tw10247297455086708232 := ()
def tw10248897958043366413 := ()
def tw10272722769693558938 := ()
def tw10296680962959186442 := ()
def tw10315191346210404043 := ()
def tw10319394804754271282 := ()
def tw10336070762830923250 := ()
def tw10389353198116416759 := ()
def tw10410893477958526433 := ()
def tw10421886465400099048 := ()
def tw10425952627306637311 := ()
def tw10432613478943960773 := ()
def tw1049855985903189559 := ()
def tw1054575087995055227 := ()
def tw10559953992086034502 := ()
def tw10625885349623839166 := ()
def tw10664832642622090105 := ()
def tw10673784905034820607 := ()
def tw10728138765864020423 := ()
def tw10755765180711709625 := ()
def tw10759154776918863383 := ()
def tw10762125682217292761 := ()
def tw10767558727046438172 := ()
def tw10839248773928375817 := ()
def tw1085594796035339735 := ()
def tw10860335344838024869 := ()
def tw10867107267478738205 := ()
def tw1094749365217277894 := ()
def tw1095195022961236773 := ()
def tw10978504004800467449 := ()
def tw11027591375066786290 := ()
def tw11066508165918331533 := ()
def tw11067091627449427829 := ()
def tw11070382889104942851 := ()
def tw110847286307743297 := ()
def tw11151735871782749101 := ()
def tw11175468488379194084 := ()
def tw1121610520842607406 := ()
def tw11244421821780794109 := ()
def tw11261035780516579568 := ()
def tw1127409890872721992 := ()
def tw11285662486772008455 := ()
def tw1128569610210588854 := ()
def tw11306487568464402462 := ()
def tw11327852264518343478 := ()
def tw11336637024074770535 := ()
def tw11355741335661986934 := ()
def tw11359718833688777869 := ()
def tw11399793787323350413 := ()
def tw11404116518787276239 := ()
def tw11517677599671122085 := ()
def tw11543325725611109931 := ()
def tw11567058622226381333 := ()
def tw11578744957739680422 := ()
def tw11597552032572466207 := ()
def tw11643128605383948912 := ()
def tw11645430436551945861 := ()
def tw1169303542154835707 := ()
def tw11699297772052451202 := ()
def tw11720450702918342043 := ()
def tw11721480133466878334 := ()
def tw11752656427164970203 := ()
def tw11787761201637341137 := ()
def tw11797354568282749700 := ()
def tw11804648702301327836 := ()
def tw11826887298193771988 := ()
def tw11845342158277827583 := ()
def tw11866365561987853059 := ()
def tw11873880372468241913 := ()
def tw11874536014896574605 := ()
def tw11879052196875132897 := ()
def tw11921071101381865904 := ()
def tw11937746450747240018 := ()
def tw11993401435952587253 := ()
def tw12018120598845730936 := ()
def tw12039729852522761623 := ()
def tw12105024212244526464 := ()
def tw12168884134656031212 := ()
def tw12194869503448483673 := ()
def tw12200349353419314438 := ()
def tw12213068480814456421 := ()
def tw12252720768444072972 := ()
def tw12308178105915480498 := ()
def tw12345876068456427155 := ()
def tw12363133582894130288 := ()
def tw12372235708217076534 := ()
def tw12375818224559598176 := ()
def tw12382803458790677484 := ()
def tw12411174735668694604 := ()
def tw12423394610931990820 := ()
def tw12460996062995143526 := ()
def tw12511263575067827588 := ()
def tw12512358918175548425 := ()
def tw12512545328419034540 := ()
def tw12555787213413130411 := ()
def tw12597267362176185302 := ()
def tw12605210488451353850 := ()
def tw12607683600244802891 := ()
def tw12607859796332170760 := ()
def tw12627389517141351922 := ()
def tw1265914080207882098 := ()
def tw12668251510429660929 := ()
def tw12673100745336603214 := ()
def tw12679392298807289168 := ()
def tw12691015917433219709 := ()
def tw12726325876250450727 := ()
def tw12763406889927163736 := ()
def tw12826799955441580795 := ()
def tw12878042756153596083 := ()
def tw12881719511852874712 := ()
def tw12894817221857647188 := ()
def tw12938854671437885893 := ()
def tw12999836630386597792 := ()
def tw13021277212960606732 := ()
def tw13031452357636933468 := ()
def tw13036783734369448884 := ()
def tw13049540926960979710 := ()
def tw13058033189256008263 := ()
def tw1306570587654288558 := ()
def tw13065883201697344296 := ()
def tw13084067391514870431 := ()
def tw13107411596717509510 := ()
def tw1310988527920368108 := ()
def tw13127630580203475358 := ()
def tw13152905328721250491 := ()
def tw13157981826935660875 := ()
def tw13179724240958539534 := ()
def tw13201868477098829474 := ()
def tw13273779744739640384 := ()
def tw13276832289850704020 := ()
def tw13282201046567638786 := ()
def tw1329124920364561266 := ()
def tw13296043378024449061 := ()
def tw13344443128013470675 := ()
def tw13347397980659768619 := ()
def tw133663365269508438 := ()
def tw13410106973788725290 := ()
def tw13463204009027729335 := ()
def tw13514287228615307095 := ()
def tw13547339731223047529 := ()
def tw13577116279882645199 := ()
def tw13580342111400839378 := ()
def tw13618924306872466224 := ()
def tw13670625450324257734 := ()
def tw13700837441970591809 := ()
def tw13706340489269925904 := ()
def tw1370857844467884662 := ()
def tw13750877594000770482 := ()
def tw1382000145093616452 := ()
def tw13837966437808413755 := ()
def tw13840387104696462298 := ()
def tw13873043409022926144 := ()
def tw13897309908893812018 := ()
def tw13903489044324461856 := ()
def tw13909423799469863728 := ()
def tw1391293489607205010 := ()
def tw13931730377175098347 := ()
def tw13939924531137873454 := ()
def tw13945654124592932533 := ()
def tw13971223730322585805 := ()
def tw13976892524109021140 := ()
def tw13983019407868791385 := ()
def tw14010014398891195802 := ()
def tw14013588016095066125 := ()
def tw14020923661187855534 := ()
def tw14054898647671667163 := ()
def tw14095902653772687957 := ()
def tw14250178807671159827 := ()
def tw14258322423270593885 := ()
def tw14302485534266166809 := ()
def tw14328252362511812947 := ()
def tw14328529678678857644 := ()
def tw14344170352737648634 := ()
def tw14434556741548800733 := ()
def tw14445012803591289495 := ()
def tw14448401475053618855 := ()
def tw14448822243111272761 := ()
def tw144626669068425575 := ()
def tw14465862409780519061 := ()
def tw14490923768001470327 := ()
def tw14494601746164270951 := ()
def tw145116148641652516 := ()
def tw14525779474761867219 := ()
def tw14534346284321586737 := ()
def tw14544939815886198305 := ()
def tw14564361514151586431 := ()
def tw14586293837398025222 := ()
def tw14676503797178049545 := ()
def tw14699195496458375700 := ()
def tw14730874283750516083 := ()
def tw14802747989173706774 := ()
def tw14803830222480592184 := ()
def tw14855463959685185156 := ()
def tw14871378901942527462 := ()
def tw1487363834436389967 := ()
def tw14879483996620435389 := ()
def tw14881157355328211727 := ()
def tw1488794375951799557 := ()
def tw14942706948764793661 := ()
def tw14969318726816267504 := ()
def tw15004809861270851469 := ()
def tw15016729199683931111 := ()
def tw15018459669389595485 := ()
def tw15024210676888527901 := ()
def tw15032806647776823760 := ()
def tw15039069727399358795 := ()
def tw15040718338456489973 := ()
def tw15076641828735637029 := ()
def tw15077258553601468609 := ()
def tw15082064157274979424 := ()
def tw15090237153611079016 := ()
def tw15108052467132113084 := ()
def tw15124227671504217986 := ()
def tw15267507952224469894 := ()
def tw15269295102494092760 := ()
def tw1530847816805947519 := ()
def tw15337022540022331125 := ()
def tw15338887395359653143 := ()
def tw15347495512007277391 := ()
def tw15348635860779635908 := ()
def tw15368641093798042392 := ()
def tw15370824496409656449 := ()
def tw15398659740667153558 := ()
def tw15406283594325705246 := ()
def tw15432794824628045318 := ()
def tw15469645412862658022 := ()
def tw15502238423546833107 := ()
def tw15506343014094366009 := ()
def tw15518034163488633432 := ()
def tw15544306753948351066 := ()
def tw15556156432039468799 := ()
def tw15560085582285017474 := ()
def tw1556243134580325711 := ()
def tw15592274199438133217 := ()
def tw15625711130418961083 := ()
def tw15631056950158990557 := ()
def tw15635891136877525205 := ()
def tw15673538130939163397 := ()
def tw15674285863792562641 := ()
def tw15692278226750097067 := ()
def tw15703636430901190761 := ()
def tw15709548560763262487 := ()
def tw15726934086418807668 := ()
def tw15759474852266765279 := ()
def tw15821452283114348212 := ()
def tw15833049308462366909 := ()
def tw15898582881286142693 := ()
def tw15930117752695368990 := ()
def tw15951325333495225923 := ()
def tw15976043250107738007 := ()
def tw16010503692564262012 := ()
def tw16028950522357618607 := ()
def tw16030515881785658645 := ()
def tw16040940085407950493 := ()
def tw16051804937138754296 := ()
def tw16101176428578465788 := ()
def tw16108828683730279592 := ()
def tw16223006408239930365 := ()
def tw16224803741674884533 := ()
def tw16233879303014779301 := ()
def tw16250573383581978891 := ()
def tw16268282394660731977 := ()
def tw16284066147464336602 := ()
def tw1632722770028525346 := ()
def tw16328455736056264202 := ()
def tw16332694877602008137 := ()
def tw16350185584165714741 := ()
def tw16350630825723820092 := ()
def tw16397410944103608477 := ()
def tw16404703998742987942 := ()
def tw1644211785719395521 := ()
def tw16445202325362359976 := ()
def tw16445897826677896946 := ()
def tw16449724485871926321 := ()
def tw16496253467094697422 := ()
def tw16515652002001383550 := ()
def tw16556074744136130359 := ()
def tw16560755818447666478 := ()
def tw16571325834885928105 := ()
def tw16580156985059506298 := ()
def tw16592642484245777412 := ()
def tw16617349840683546200 := ()
def tw1663546072355249304 := ()
def tw16657633529692890368 := ()
def tw16662950778421135139 := ()
def tw16668881276711059310 := ()
def tw16671804738335094193 := ()
def tw16720515855944380326 := ()
def tw16745012692808168757 := ()
def tw1675420045327603312 := ()
def tw16804836016424707471 := ()
def tw16805681844409880577 := ()
def tw16888191784061339021 := ()
def tw1689030187091546486 := ()
def tw16937854499301475677 := ()
def tw16987767129458806175 := ()
def tw17115518837634218143 := ()
def tw17127913390407745242 := ()
def tw17192562833535466222 := ()
def tw17205526892856169604 := ()
def tw17206273244090692283 := ()
def tw17207474182573440330 := ()
def tw17237607719853632924 := ()
def tw17240725563154751102 := ()
def tw17246098928557923366 := ()
def tw1729243051543290016 := ()
def tw17303655242021739116 := ()
def tw17304708113510361895 := ()
def tw1731042389315401060 := ()
def tw17311673147018261176 := ()
def tw17333036066580020578 := ()
def tw17336515416605566170 := ()
def tw17390804818300818753 := ()
def tw17413294479645032937 := ()
def tw17428217699235669714 := ()
def tw17431292812682904325 := ()
def tw17437823425226100793 := ()
def tw17441751939753037123 := ()
def tw17455762739499227962 := ()
def tw17502765595484495405 := ()
def tw17502809713438025356 := ()
def tw17510595282240062854 := ()
def tw17515038124722145226 := ()
def tw17572447185773604302 := ()
def tw17618765265969181455 := ()
def tw17684171151468739978 := ()
def tw17694216057314135787 := ()
def tw17756185854407941402 := ()
def tw17788111194866786694 := ()
def tw17806420713980193425 := ()
def tw17824912644000164891 := ()
def tw17827390501809682641 := ()
def tw17839778459157953120 := ()
def tw17844809765043952516 := ()
def tw17865431539440761453 := ()
def tw17918024645106462690 := ()
def tw1792812833161649531 := ()
def tw17936981056728099897 := ()
def tw18004789659132384699 := ()
def tw18017559201262870868 := ()
def tw18029513765694968764 := ()
def tw18052033273512606954 := ()
def tw18055065282749940327 := ()
def tw18063204697873373715 := ()
def tw18072225402949062803 := ()
def tw18085231269552129257 := ()
def tw18124501536441048425 := ()
def tw18150263241160864648 := ()
def tw18182069459331352250 := ()
def tw18229475144037596737 := ()
def tw18237346974139246331 := ()
def tw18277027982721319538 := ()
def tw18285458795596914740 := ()
def tw18307819379453658910 := ()
def tw18310341669496363584 := ()
def tw1831400455147543903 := ()
def tw18338138133551761276 := ()
def tw18341698206572818936 := ()
def tw18347613363471522766 := ()
def tw1840643267900433392 := ()
def tw18429751468421194272 := ()
def tw18434402040015494715 := ()
def tw18440634190455784590 := ()
def tw1851056957696440731 := ()
def tw1864555996515570871 := ()
def tw1902908554659636365 := ()
def tw1916801637907081219 := ()
def tw1933400663462568554 := ()
def tw1988909975133688646 := ()
def tw1998337141223416291 := ()
def tw2004033981752478690 := ()
def tw2058305891964323502 := ()
def tw2086219851831365179 := ()
def tw2087117438955283325 := ()
def tw2108273314160725400 := ()
def tw2133181932814994433 := ()
def tw2149503166857815170 := ()
def tw2163640376631517037 := ()
def tw2219802804321667845 := ()
def tw2280929652850704548 := ()
def tw2314379286342627726 := ()
def tw2347842332564050328 := ()
def tw2366637620147819596 := ()
def tw2379973338815028104 := ()
def tw2396379957524035231 := ()
def tw2411540469401076389 := ()
def tw2415582317109655715 := ()
def tw2440379920572991661 := ()
def tw244095038746598447 := ()
def tw2443206618919399587 := ()
def tw2521076409478895932 := ()
def tw2522343554005051432 := ()
def tw2530988925067668744 := ()
def tw2535886606931723452 := ()
def tw2540192887778300399 := ()
def tw2580613619520705492 := ()
def tw258155868402464178 := ()
def tw2592414649612805226 := ()
def tw2627559105836190854 := ()
def tw2650820925837362562 := ()
def tw2663272721195944048 := ()
def tw2668435250114179094 := ()
def tw2678178435293922310 := ()
def tw2680767871092900702 := ()
def tw2682193371681708872 := ()
def tw2742186099533819442 := ()
def tw2817375186428500525 := ()
def tw2857589004696835139 := ()
def tw287448578862674279 := ()
def tw2902000006817059794 := ()
def tw2920982351058867507 := ()
def tw2962787358997397433 := ()
def tw2964725503891027274 := ()
def tw2971098829451202480 := ()
def tw3022214809598900200 := ()
def tw303545948999589030 := ()
def tw3036374622014524338 := ()
def tw3090866909882643288 := ()
def tw31076824514734925 := ()
def tw3148164116415614826 := ()
def tw3156817303611765291 := ()
def tw3193573918787135594 := ()
def tw3196376117621746921 := ()
def tw3227292274538612182 := ()
def tw325858147607874877 := ()
def tw3263275755164520495 := ()
def tw3272672716622482224 := ()
def tw3278818710344417760 := ()
def tw3282057339682314678 := ()
def tw3282494145728461085 := ()
def tw329950125653088633 := ()
def tw3380692704128205542 := ()
def tw3460813914709944395 := ()
def tw3467373445980624662 := ()
def tw3467709393553716685 := ()
def tw3488002824220656474 := ()
def tw3491766351234950932 := ()
def tw3521191470505963011 := ()
def tw3538324921242297763 := ()
def tw3606812460589717842 := ()
def tw3666181092776849956 := ()
def tw3687371786274731966 := ()
def tw3739038122917567582 := ()
def tw374963598709232866 := ()
def tw3770645746328192890 := ()
def tw3786817954683926005 := ()
def tw3852160647937922751 := ()
def tw3876639314911629815 := ()
def tw3920209757049883723 := ()
def tw396547617587766439 := ()
def tw3972128540354912072 := ()
def tw3973555254039331901 := ()
def tw3989655415507465803 := ()
def tw4032528530092186409 := ()
def tw4047793106934173338 := ()
def tw4130076868125402145 := ()
def tw4152172414446846753 := ()
def tw4163462329235818362 := ()
def tw4212444610272933831 := ()
def tw4233457165927328395 := ()
def tw4238255653986243718 := ()
def tw4288013867464714347 := ()
def tw429525673448151199 := ()
def tw4353855114510481467 := ()
def tw4354755745044775657 := ()
def tw4382546824134293618 := ()
def tw4451439845813376105 := ()
def tw4470902691489746279 := ()
def tw4486115692983033269 := ()
def tw4532803016136470189 := ()
def tw4549832518700326785 := ()
def tw4550222978764805022 := ()
def tw4553197737992469848 := ()
def tw4557032863579973692 := ()
def tw4572588568719054225 := ()
def tw4604519232059455283 := ()
def tw4609162185409276560 := ()
def tw4647368448690133969 := ()
def tw4687711163798857226 := ()
def tw4757546502847094500 := ()
def tw4794910059451834620 := ()
def tw4800777402088043338 := ()
def tw4838226243384119991 := ()
def tw4845348668152145096 := ()
def tw4877988311771308041 := ()
def tw5005962047507945208 := ()
def tw5013889616512175970 := ()
def tw5036511263021145112 := ()
def tw5054070893063223926 := ()
def tw5126193033713658267 := ()
def tw5128294103814015280 := ()
def tw512877595257180883 := ()
def tw5182427517273941205 := ()
def tw520513003767684234 := ()
def tw5207522473240226373 := ()
def tw5231541538828645005 := ()
def tw5243637242178902376 := ()
def tw5290063295356423104 := ()
def tw5297277193475518265 := ()
def tw5304177701050096126 := ()
def tw5322337881615651833 := ()
def tw5322849525669841174 := ()
def tw5335889346837815482 := ()
def tw5367332823009981251 := ()
def tw5446360244058246446 := ()
def tw5480262941271808484 := ()
def tw5495596637279257671 := ()
def tw5535276216027000471 := ()
def tw5590023480626553434 := ()
def tw5612292129657711924 := ()
def tw5638939051879988510 := ()
def tw564182228976118411 := ()
def tw5649760002758590752 := ()
def tw5661130799309844873 := ()
def tw570833806021071977 := ()
def tw5709782911034314150 := ()
def tw5743909827448706568 := ()
def tw5744749822569121794 := ()
def tw576203764149985423 := ()
def tw5778422280072846427 := ()
def tw5805019290344383758 := ()
def tw5844059372574795007 := ()
def tw5849703134918568918 := ()
def tw58590316087601145 := ()
def tw5893432682598485053 := ()
def tw59003129236805445 := ()
def tw5915527942177507335 := ()
def tw5949357909745626228 := ()
def tw5975310816071150107 := ()
def tw5985811581905209189 := ()
def tw6001924142822276355 := ()
def tw6027587269296613294 := ()
def tw6032685198049286044 := ()
def tw608064895861231656 := ()
def tw6118011562822911213 := ()
def tw6131603692410353386 := ()
def tw617775115039248390 := ()
def tw6189351176507279789 := ()
def tw6205132287594996957 := ()
def tw6238672594250939060 := ()
def tw6328115680458084446 := ()
def tw6328997927935741741 := ()
def tw6345931091042780059 := ()
def tw6413668707348180268 := ()
def tw6423714283807128120 := ()
def tw642732974659310571 := ()
def tw6432058095377687279 := ()
def tw6446949754238520608 := ()
def tw6490892313273764160 := ()
def tw6565616635949190209 := ()
def tw6570521120583690110 := ()
def tw6570823022149347289 := ()
def tw6573958016164566212 := ()
def tw6586460293878584520 := ()
def tw6592897274379660973 := ()
def tw6623349540323719173 := ()
def tw6635557761017672403 := ()
def tw6649464098194985874 := ()
def tw6656700578787126762 := ()
def tw6685850470690961757 := ()
def tw6711891333723874340 := ()
def tw6736639607111538427 := ()
def tw6738038085283110987 := ()
def tw6792319188114765691 := ()
def tw681173917754210649 := ()
def tw6821622894499578934 := ()
def tw6888383467417641645 := ()
def tw6900359735066401585 := ()
def tw6949493504173478658 := ()
def tw6975452256431709063 := ()
def tw70115568111260615 := ()
def tw7145266787338211898 := ()
def tw7154279708341268548 := ()
def tw7208852863282588732 := ()
def tw7262852288631211604 := ()
def tw7284479309211457515 := ()
def tw7315313711314174664 := ()
def tw7331338597040882854 := ()
def tw7368379114698762455 := ()
def tw7373611597856517359 := ()
def tw7386271611188015051 := ()
def tw7387033838359347865 := ()
def tw7410008694769496585 := ()
def tw7410154307046434200 := ()
def tw7416552094847337356 := ()
def tw7434409752338301148 := ()
def tw745178202950887535 := ()
def tw7451797869846196467 := ()
def tw7489871886561627003 := ()
def tw7494581107069506075 := ()
def tw7512100279046166957 := ()
def tw7550058784434064577 := ()
def tw7586101794346034695 := ()
def tw7595870388108792372 := ()
def tw7600222228251782348 := ()
def tw7611322556351879895 := ()
def tw7620565799402249227 := ()
def tw7627108575374336534 := ()
def tw7657792079341774159 := ()
def tw7664403675648486034 := ()
def tw7681071714771214539 := ()
def tw7703132140990325829 := ()
def tw773559520089478489 := ()
def tw7738165926952361035 := ()
def tw7748228587283030782 := ()
def tw7772037094231618953 := ()
def tw7781945365320729879 := ()
def tw7784679168922747977 := ()
def tw7801953848114543417 := ()
def tw7887672372780301870 := ()
def tw7932276011202837230 := ()
def tw7958161706101233518 := ()
def tw7972000662004149016 := ()
def tw8041468795282537445 := ()
def tw8098269205170637728 := ()
def tw8155974820519145067 := ()
def tw8168504580549183461 := ()
def tw8176224224912878975 := ()
def tw8185551963395540891 := ()
def tw8275738445946188510 := ()
def tw8282218016241292115 := ()
def tw8289660571118291160 := ()
def tw8291267800967708596 := ()
def tw8309233909625122798 := ()
def tw8310784466971304770 := ()
def tw8311910943957825527 := ()
def tw8319350252377692264 := ()
def tw8329485815507648327 := ()
def tw834562903818699922 := ()
def tw8351585935383326158 := ()
def tw8367929786737989483 := ()
def tw8400882446087241199 := ()
def tw8402961700396295246 := ()
def tw845532439728627652 := ()
def tw845611207305899408 := ()
def tw8483927187353532111 := ()
def tw8489013513161064344 := ()
def tw849731316867439240 := ()
def tw8501488532997909862 := ()
def tw8537145262036218314 := ()
def tw8549277614519381588 := ()
def tw8625486909608146219 := ()
def tw8628271250463372635 := ()
def tw8675437090594152400 := ()
def tw8676633565065336384 := ()
def tw8704529411163163393 := ()
def tw8711367183320828268 := ()
def tw8747687487807159451 := ()
def tw8764363802398585740 := ()
def tw8773417322140211182 := ()
def tw8777501086891436329 := ()
def tw8795981099804038367 := ()
def tw8807023887562940556 := ()
def tw8815258220227479644 := ()
def tw8830149580243275383 := ()
def tw8883627668373477978 := ()
def tw8913302588759844630 := ()
def tw8949778704633985325 := ()
def tw8966926984069686812 := ()
def tw8968186035938031053 := ()
def tw8976797767879804839 := ()
def tw8982215074450907596 := ()
def tw8999567376790821275 := ()
def tw9013300157615402196 := ()
def tw9025467054849865852 := ()
def tw9073136329976353418 := ()
def tw9105350988256613625 := ()
def tw9111121629874922446 := ()
def tw9129588750927000663 := ()
def tw9177062872240971201 := ()
def tw9177416365583305955 := ()
def tw9180038074816653230 := ()
def tw9185174919998514609 := ()
def tw9204272682552547935 := ()
def tw9291153588433453161 := ()
def tw930139617149071664 := ()
def tw931445471039232036 := ()
def tw9347216540535263766 := ()
def tw9412020299761728432 := ()
def tw9457628912756808999 := ()
def tw949526455866868583 := ()
def tw9498843621080049510 := ()
def tw9553000028887171943 := ()
def tw9556526166462549442 := ()
def tw9559584937178431695 := ()
def tw9594038891870760196 := ()
def tw9598848551158081212 := ()
def tw9632647128631840489 := ()
def tw9633841309935790822 := ()
def tw9638119316097561841 := ()
def tw9683885884580410446 := ()
def tw9710541133931630803 := ()
def tw9712142563380361151 := ()
def tw9718149827599780569 := ()
def tw9785365378211522506 := ()
def tw9881252762662272394 := ()
def tw9933833620190118154 := ()
def tw9937899912153608510 := ()
def tw9942337900265593939 := ()
def tw9957546081769998290 := ()
def tw996122457900891510 := ()
def tw9978643808121105118 := ()
def tw9983980396129137477 := ()
def tw9991320662648540990 := ()
end PySem.W.Fast
open PySem PySem.W PyProof.Rows
set_option maxRecDepth 100000 in
set_option maxHeartbeats 0 in
theorem PySem.Challenge.cw_cuereferee_s01_answers_holds : PySem.Challenge.rw_cuereferee_s01_answers.Holds := by
  w_on; k_headS; (case hw => exact ⟨[.list [.int 9]], by decide +kernel, by decide +kernel⟩)
  k_fillS
  refine L2.walk_specK (r := PySem.Challenge.rw_cuereferee_s01_answers) (k := 10) (CX := L2.CX0) (ps := ["calls"]) (sp := Cue.sp_answers) (by decide +kernel) rfl rfl ⟨rfl, by decide, by decide⟩ (fun w h Y => PySem.W.kIn_of Y) ?F ?S (fun _ _ _ _ z => z)
  case F =>
    intro w mg fa h Y KX G hmg
    have hStroke : ∃ A, Cue.TxStroke (L2.KOf KX) mg A := by
      dsimp only [L2.KOf]
      refine' Cue.tx_Stroke KX G ?aC ?a0 ?i0 ?l0 ?c0 ?k0 ?a1 ?i1 ?l1 ?c1 ?k1 ?a2 ?i2 ?l2 ?c2 ?k2 ?pg ?hd ?po ?sa ?mk ?kc ?n_named ?n_hit ?n_conduct ?n_hidden ?n_miss ?n_potted ?n_off
      (case aC => k_is); (case a0 => k_is); (case i0 => k_is); (case l0 => k_is); (case c0 => k_is); (case k0 => k_is)
      (case a1 => k_is); (case i1 => k_is); (case l1 => k_is); (case c1 => k_is); (case k1 => k_is); (case a2 => k_is)
      (case i2 => k_is); (case l2 => k_is); (case c2 => k_is); (case k2 => k_is); (case pg => k_is); (case hd => k_is)
      (case po => k_is); (case sa => k_is); (case mk => k_is); (case kc => k_is); (case n_named => k_is); (case n_hit => k_is)
      (case n_conduct => k_is); (case n_hidden => k_is); (case n_miss => k_is); (case n_potted => k_is); (case n_off => k_is)
    have hTable : ∃ A, Cue.TxTable (L2.KOf KX) mg A := by
      dsimp only [L2.KOf]
      refine' Cue.tx_Table KX G ?aC ?a0 ?i0 ?l0 ?c0 ?k0 ?a1 ?i1 ?l1 ?c1 ?k1 ?a2 ?i2 ?l2 ?c2 ?k2 ?a3 ?i3 ?l3 ?c3 ?k3 ?pg ?hd ?po ?sa ?mk ?kc ?n_reds ?n_lowest ?n_on
      (case aC => k_is); (case a0 => k_is); (case i0 => k_is); (case l0 => k_is); (case c0 => k_is); (case k0 => k_is)
      (case a1 => k_is); (case i1 => k_is); (case l1 => k_is); (case c1 => k_is); (case k1 => k_is); (case a2 => k_is)
      (case i2 => k_is); (case l2 => k_is); (case c2 => k_is); (case k2 => k_is); (case a3 => k_is); (case i3 => k_is)
      (case l3 => k_is); (case c3 => k_is); (case k3 => k_is); (case pg => k_is); (case hd => k_is); (case po => k_is)
      (case sa => k_is); (case mk => k_is); (case kc => k_is); (case n_reds => k_is); (case n_lowest => k_is); (case n_on => k_is)
    have hJudgement : ∃ A, Cue.TxJudgement (L2.KOf KX) mg A := by
      dsimp only [L2.KOf]
      refine' Cue.tx_Judgement KX G ?aC ?a0 ?i0 ?l0 ?c0 ?k0 ?a1 ?i1 ?l1 ?c1 ?k1 ?a2 ?i2 ?l2 ?c2 ?k2 ?a3 ?i3 ?l3 ?c3 ?k3 ?a4 ?i4 ?l4 ?c4 ?k4 ?a5 ?i5 ?l5 ?c5 ?k5 ?a6 ?i6 ?l6 ?c6 ?k6 ?a7 ?i7 ?l7 ?c7 ?k7 ?a8 ?i8 ?l8 ?c8 ?k8 ?pg ?hd ?po ?sa ?mk ?kc ?n_told ?n_table ?n_free ?n_all_on
      (case aC => k_is); (case a0 => k_is); (case i0 => k_is); (case l0 => k_is); (case c0 => k_is); (case k0 => k_is)
      (case a1 => k_is); (case i1 => k_is); (case l1 => k_is); (case c1 => k_is); (case k1 => k_is); (case a2 => k_is)
      (case i2 => k_is); (case l2 => k_is); (case c2 => k_is); (case k2 => k_is); (case a3 => k_is); (case i3 => k_is)
      (case l3 => k_is); (case c3 => k_is); (case k3 => k_is); (case a4 => k_is); (case i4 => k_is); (case l4 => k_is)
      (case c4 => k_is); (case k4 => k_is); (case a5 => k_is); (case i5 => k_is); (case l5 => k_is); (case c5 => k_is)
      (case k5 => k_is); (case a6 => k_is); (case i6 => k_is); (case l6 => k_is); (case c6 => k_is); (case k6 => k_is)
      (case a7 => k_is); (case i7 => k_is); (case l7 => k_is); (case c7 => k_is); (case k7 => k_is); (case a8 => k_is)
      (case i8 => k_is); (case l8 => k_is); (case c8 => k_is); (case k8 => k_is); (case pg => k_is); (case hd => k_is)
      (case po => k_is); (case sa => k_is); (case mk => k_is); (case kc => k_is); (case n_told => k_is); (case n_table => k_is)
      (case n_free => k_is); (case n_all_on => k_is)
    have hFrame : ∃ A, Cue.TxFrame (L2.KOf KX) mg A := by
      dsimp only [L2.KOf]
      refine' Cue.tx_Frame KX G ?aC ?a0 ?i0 ?l0 ?c0 ?k0 ?a1 ?i1 ?l1 ?c1 ?k1 ?a2 ?i2 ?l2 ?c2 ?k2 ?a3 ?i3 ?l3 ?c3 ?k3 ?a4 ?i4 ?l4 ?c4 ?k4 ?a5 ?i5 ?l5 ?c5 ?k5 ?a6 ?i6 ?l6 ?c6 ?k6 ?a7 ?i7 ?l7 ?c7 ?k7 ?a8 ?i8 ?l8 ?c8 ?k8 ?a9 ?i9 ?l9 ?c9 ?k9 ?a10 ?i10 ?l10 ?c10 ?k10 ?a11 ?i11 ?l11 ?c11 ?k11 ?a12 ?i12 ?l12 ?c12 ?k12 ?a13 ?i13 ?l13 ?c13 ?k13 ?a14 ?i14 ?l14 ?c14 ?k14 ?a15 ?i15 ?l15 ?c15 ?k15 ?a16 ?i16 ?l16 ?c16 ?k16 ?a17 ?i17 ?l17 ?c17 ?k17 ?a18 ?i18 ?l18 ?c18 ?k18 ?a19 ?i19 ?l19 ?c19 ?k19 ?pg ?hd ?po ?sa ?mk ?kc ?n_points ?n_turn ?n_table ?n_winner ?n_how ?n_break_so_far ?n_highest_breaks ?n_big_breaks ?n_misses ?n_table_if_back ?n_misses_if_back ?n_may_name_free ?n_may_again ?n_may_back
      (case aC => k_is); (case a0 => k_is); (case i0 => k_is); (case l0 => k_is); (case c0 => k_is); (case k0 => k_is)
      (case a1 => k_is); (case i1 => k_is); (case l1 => k_is); (case c1 => k_is); (case k1 => k_is); (case a2 => k_is)
      (case i2 => k_is); (case l2 => k_is); (case c2 => k_is); (case k2 => k_is); (case a3 => k_is); (case i3 => k_is)
      (case l3 => k_is); (case c3 => k_is); (case k3 => k_is); (case a4 => k_is); (case i4 => k_is); (case l4 => k_is)
      (case c4 => k_is); (case k4 => k_is); (case a5 => k_is); (case i5 => k_is); (case l5 => k_is); (case c5 => k_is)
      (case k5 => k_is); (case a6 => k_is); (case i6 => k_is); (case l6 => k_is); (case c6 => k_is); (case k6 => k_is)
      (case a7 => k_is); (case i7 => k_is); (case l7 => k_is); (case c7 => k_is); (case k7 => k_is); (case a8 => k_is)
      (case i8 => k_is); (case l8 => k_is); (case c8 => k_is); (case k8 => k_is); (case a9 => k_is); (case i9 => k_is)
      (case l9 => k_is); (case c9 => k_is); (case k9 => k_is); (case a10 => k_is); (case i10 => k_is); (case l10 => k_is)
      (case c10 => k_is); (case k10 => k_is); (case a11 => k_is); (case i11 => k_is); (case l11 => k_is); (case c11 => k_is)
      (case k11 => k_is); (case a12 => k_is); (case i12 => k_is); (case l12 => k_is); (case c12 => k_is); (case k12 => k_is)
      (case a13 => k_is); (case i13 => k_is); (case l13 => k_is); (case c13 => k_is); (case k13 => k_is); (case a14 => k_is)
      (case i14 => k_is); (case l14 => k_is); (case c14 => k_is); (case k14 => k_is); (case a15 => k_is); (case i15 => k_is)
      (case l15 => k_is); (case c15 => k_is); (case k15 => k_is); (case a16 => k_is); (case i16 => k_is); (case l16 => k_is)
      (case c16 => k_is); (case k16 => k_is); (case a17 => k_is); (case i17 => k_is); (case l17 => k_is); (case c17 => k_is)
      (case k17 => k_is); (case a18 => k_is); (case i18 => k_is); (case l18 => k_is); (case c18 => k_is); (case k18 => k_is)
      (case a19 => k_is); (case i19 => k_is); (case l19 => k_is); (case c19 => k_is); (case k19 => k_is); (case pg => k_is)
      (case hd => k_is); (case po => k_is); (case sa => k_is); (case mk => k_is); (case kc => k_is); (case n_points => k_is)
      (case n_turn => k_is); (case n_table => k_is); (case n_winner => k_is); (case n_how => k_is); (case n_break_so_far => k_is); (case n_highest_breaks => k_is)
      (case n_big_breaks => k_is); (case n_misses => k_is); (case n_table_if_back => k_is); (case n_misses_if_back => k_is); (case n_may_name_free => k_is); (case n_may_again => k_is)
      (case n_may_back => k_is)
    have hReader : ∃ A, Cue.TxReader (L2.KOf KX) mg A := by
      dsimp only [L2.KOf]
      refine' Cue.tx_Reader KX G ?aC ?a0 ?i0 ?l0 ?c0 ?k0 ?a1 ?i1 ?l1 ?c1 ?k1 ?a2 ?i2 ?l2 ?c2 ?k2 ?a3 ?i3 ?l3 ?c3 ?k3 ?a4 ?i4 ?l4 ?c4 ?k4 ?pg ?hd ?po ?sa ?mk ?kc ?n_source ?n_at
      (case aC => k_is); (case a0 => k_is); (case i0 => k_is); (case l0 => k_is); (case c0 => k_is); (case k0 => k_is)
      (case a1 => k_is); (case i1 => k_is); (case l1 => k_is); (case c1 => k_is); (case k1 => k_is); (case a2 => k_is)
      (case i2 => k_is); (case l2 => k_is); (case c2 => k_is); (case k2 => k_is); (case a3 => k_is); (case i3 => k_is)
      (case l3 => k_is); (case c3 => k_is); (case k3 => k_is); (case a4 => k_is); (case i4 => k_is); (case l4 => k_is)
      (case c4 => k_is); (case k4 => k_is); (case pg => k_is); (case hd => k_is); (case po => k_is); (case sa => k_is)
      (case mk => k_is); (case kc => k_is); (case n_source => k_is); (case n_at => k_is)
    have hMatch : ∃ A, Cue.TxMatch (L2.KOf KX) mg A := by
      dsimp only [L2.KOf]
      refine' Cue.tx_Match KX G ?aC ?a0 ?i0 ?l0 ?c0 ?k0 ?a1 ?i1 ?l1 ?c1 ?k1 ?a2 ?i2 ?l2 ?c2 ?k2 ?a3 ?i3 ?l3 ?c3 ?k3 ?a4 ?i4 ?l4 ?c4 ?k4 ?a5 ?i5 ?l5 ?c5 ?k5 ?a6 ?i6 ?l6 ?c6 ?k6 ?a7 ?i7 ?l7 ?c7 ?k7 ?a8 ?i8 ?l8 ?c8 ?k8 ?a9 ?i9 ?l9 ?c9 ?k9 ?a10 ?i10 ?l10 ?c10 ?k10 ?a11 ?i11 ?l11 ?c11 ?k11 ?a12 ?i12 ?l12 ?c12 ?k12 ?a13 ?i13 ?l13 ?c13 ?k13 ?pg ?hd ?po ?sa ?mk ?kc ?n_best ?n_won ?n_starter ?n_frame ?n_frames_over
      (case aC => k_is); (case a0 => k_is); (case i0 => k_is); (case l0 => k_is); (case c0 => k_is); (case k0 => k_is)
      (case a1 => k_is); (case i1 => k_is); (case l1 => k_is); (case c1 => k_is); (case k1 => k_is); (case a2 => k_is)
      (case i2 => k_is); (case l2 => k_is); (case c2 => k_is); (case k2 => k_is); (case a3 => k_is); (case i3 => k_is)
      (case l3 => k_is); (case c3 => k_is); (case k3 => k_is); (case a4 => k_is); (case i4 => k_is); (case l4 => k_is)
      (case c4 => k_is); (case k4 => k_is); (case a5 => k_is); (case i5 => k_is); (case l5 => k_is); (case c5 => k_is)
      (case k5 => k_is); (case a6 => k_is); (case i6 => k_is); (case l6 => k_is); (case c6 => k_is); (case k6 => k_is)
      (case a7 => k_is); (case i7 => k_is); (case l7 => k_is); (case c7 => k_is); (case k7 => k_is); (case a8 => k_is)
      (case i8 => k_is); (case l8 => k_is); (case c8 => k_is); (case k8 => k_is); (case a9 => k_is); (case i9 => k_is)
      (case l9 => k_is); (case c9 => k_is); (case k9 => k_is); (case a10 => k_is); (case i10 => k_is); (case l10 => k_is)
      (case c10 => k_is); (case k10 => k_is); (case a11 => k_is); (case i11 => k_is); (case l11 => k_is); (case c11 => k_is)
      (case k11 => k_is); (case a12 => k_is); (case i12 => k_is); (case l12 => k_is); (case c12 => k_is); (case k12 => k_is)
      (case a13 => k_is); (case i13 => k_is); (case l13 => k_is); (case c13 => k_is); (case k13 => k_is); (case pg => k_is)
      (case hd => k_is); (case po => k_is); (case sa => k_is); (case mk => k_is); (case kc => k_is); (case n_best => k_is)
      (case n_won => k_is); (case n_starter => k_is); (case n_frame => k_is); (case n_frames_over => k_is)
    have hFuncs : ∃ A, Cue.TxFuncs (L2.KOf KX) mg A ∧ Cue.KDict (L2.KOf KX) mg "CALLS" [(1, A.call_begin.f), (2, A.call_stroke.f), (3, A.call_again.f), (4, A.call_back.f), (5, A.call_toss.f), (6, A.call_give.f), (7, A.call_now.f), (8, A.call_frames.f), (9, A.call_match.f)] := by
      dsimp only [L2.KOf]
      refine' Cue.tx_Funcs KX G ?a0 ?l0 ?c0 ?k0 ?a1 ?l1 ?c1 ?k1 ?a2 ?l2 ?c2 ?k2 ?a3 ?l3 ?c3 ?k3 ?a4 ?l4 ?c4 ?k4 ?a5 ?l5 ?c5 ?k5 ?a6 ?l6 ?c6 ?k6 ?a7 ?l7 ?c7 ?k7 ?a8 ?l8 ?c8 ?k8 ?a9 ?l9 ?c9 ?k9 ?a10 ?l10 ?c10 ?k10 ?a11 ?l11 ?c11 ?k11 ?a12 ?l12 ?c12 ?k12 ?a13 ?l13 ?c13 ?k13 ?a14 ?l14 ?c14 ?k14 ?a15 ?l15 ?c15 ?k15 ?a16 ?l16 ?c16 ?k16 ?a17 ?l17 ?c17 ?k17 ?a18 ?l18 ?c18 ?k18 ?a19 ?l19 ?c19 ?k19 ?dA0 ?dL0
      (case a0 => k_is); (case l0 => k_is); (case c0 => k_is); (case k0 => k_is); (case a1 => k_is); (case l1 => k_is)
      (case c1 => k_is); (case k1 => k_is); (case a2 => k_is); (case l2 => k_is); (case c2 => k_is); (case k2 => k_is)
      (case a3 => k_is); (case l3 => k_is); (case c3 => k_is); (case k3 => k_is); (case a4 => k_is); (case l4 => k_is)
      (case c4 => k_is); (case k4 => k_is); (case a5 => k_is); (case l5 => k_is); (case c5 => k_is); (case k5 => k_is)
      (case a6 => k_is); (case l6 => k_is); (case c6 => k_is); (case k6 => k_is); (case a7 => k_is); (case l7 => k_is)
      (case c7 => k_is); (case k7 => k_is); (case a8 => k_is); (case l8 => k_is); (case c8 => k_is); (case k8 => k_is)
      (case a9 => k_is); (case l9 => k_is); (case c9 => k_is); (case k9 => k_is); (case a10 => k_is); (case l10 => k_is)
      (case c10 => k_is); (case k10 => k_is); (case a11 => k_is); (case l11 => k_is); (case c11 => k_is); (case k11 => k_is)
      (case a12 => k_is); (case l12 => k_is); (case c12 => k_is); (case k12 => k_is); (case a13 => k_is); (case l13 => k_is)
      (case c13 => k_is); (case k13 => k_is); (case a14 => k_is); (case l14 => k_is); (case c14 => k_is); (case k14 => k_is)
      (case a15 => k_is); (case l15 => k_is); (case c15 => k_is); (case k15 => k_is); (case a16 => k_is); (case l16 => k_is)
      (case c16 => k_is); (case k16 => k_is); (case a17 => k_is); (case l17 => k_is); (case c17 => k_is); (case k17 => k_is)
      (case a18 => k_is); (case l18 => k_is); (case c18 => k_is); (case k18 => k_is); (case a19 => k_is); (case l19 => k_is)
      (case c19 => k_is); (case k19 => k_is); (case dA0 => k_is); (case dL0 => k_is)
    have hConst : Cue.TxConst mg := by
      refine' Cue.tx_Const KX G ?a0 ?a1 ?a2 ?a3 ?a4 ?a5 ?a6 ?a7 ?a8 ?a9 ?a10 ?a11 ?a12 ?a13 ?a14 ?a15 ?a16 ?a17 ?a18 ?a19 ?a20 ?a21 ?a22 ?a23 ?a24 ?a25 ?a26 ?a27 ?b0 ?b1 ?b2 ?b3 ?b4 ?b5 ?b6
      (case a0 => k_is); (case a1 => k_is); (case a2 => k_is); (case a3 => k_is); (case a4 => k_is); (case a5 => k_is)
      (case a6 => k_is); (case a7 => k_is); (case a8 => k_is); (case a9 => k_is); (case a10 => k_is); (case a11 => k_is)
      (case a12 => k_is); (case a13 => k_is); (case a14 => k_is); (case a15 => k_is); (case a16 => k_is); (case a17 => k_is)
      (case a18 => k_is); (case a19 => k_is); (case a20 => k_is); (case a21 => k_is); (case a22 => k_is); (case a23 => k_is)
      (case a24 => k_is); (case a25 => k_is); (case a26 => k_is); (case a27 => k_is); (case b0 => k_is); (case b1 => k_is)
      (case b2 => k_is); (case b3 => k_is); (case b4 => k_is); (case b5 => k_is); (case b6 => k_is)
    obtain ⟨aStroke, tStroke⟩ := hStroke
    obtain ⟨aTable, tTable⟩ := hTable
    obtain ⟨aJudgement, tJudgement⟩ := hJudgement
    obtain ⟨aFrame, tFrame⟩ := hFrame
    obtain ⟨aReader, tReader⟩ := hReader
    obtain ⟨aMatch, tMatch⟩ := hMatch
    obtain ⟨aFuncs, tFuncs, dCALLS⟩ := hFuncs
    have T : Cue.Txt (L2.KOf KX) mg ⟨aStroke, aTable, aJudgement, aFrame, aReader, aMatch, aFuncs⟩ := ⟨tStroke, tTable, tJudgement, tFrame, tReader, tMatch, tFuncs, hConst, dCALLS⟩
    have e0 := hmg.symm.trans T.fs.m_answers
    cases e0
    exact ⟨_, fun s us hu => Cue.binds_answers T s us hu, fun base kb nb => Cue.ok_answers T⟩
  case S =>
    intro K H xs a hO hwi hask hx
    cases hx with
    | cons h1 h2 =>
      cases h2
      cases h1 with
      | lst hs ha =>
        have e := L2.ints_dw a.1 _ ha
        subst e
        obtain ⟨cs, hl, hf, hlen, hans⟩ := Cue.asked_put (l := a.1) hask
        refine ⟨_, cs, rfl, by rw [← hl]; exact hs, hf, hlen, fun H' p hp => ?_⟩
        have e2 : Codec.app PySem.Challenge.rw_cuereferee_s01_answers.args PySem.Challenge.rw_cuereferee_s01_answers.f a = PyKg53.answers a.1 := rfl
        show L2.Dw K H' (.ref p) (.list ((PyKg53.answers a.1).map WData.int))
        rw [hans]
        exact .lst (L2.SqL.of hp) (L2.dw_ints _)
end
