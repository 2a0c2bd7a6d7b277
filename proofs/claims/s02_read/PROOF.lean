import PyProof.Rows.All
import Wide.All
import OpenK.AllK
import Wide.FinOn
import PyProof.EqAt
import PyProof.EqKinds
import PyProof.TupleCall
import KE.BitLaws
import KE.OsGo
import KE.OsEnd
import KE.KEqDict
import Open.SpecLaws
import KE.KListLetter
import PySem.Challenge.RW_handboard_s02_read
set_option Elab.async false
set_option linter.all false
set_option maxRecDepth 100000
/-! THE HAND LAYER, for ints, bools, texts, own classes, lists, tuples, dicts, comprehensions, walks over dicts, enumerate, zip, reversed, texts, calls, loops. Paste it whole ahead of your own text; what your proof does not reach may be deleted. -/
namespace L2
open PySem PySem.Spec PyProof.Rows

/-- a key: an int or a str -/
abbrev Key := Sum Int Str
def keyIs : Key → Value → Bool
  | .inl k, v => Value.isInt k v
  | .inr x, v => Value.isStrOf x v
def keyH (w : World) : Key → Int
  | .inl k => hashInt k
  | .inr x => hashStr w x
theorem keyIs_shape : ∀ {k : Key} {v : Value}, keyIs k v = true → (∃ i t, k = Sum.inl i ∧ v = Value.int i t) ∨ (∃ x t, k = Sum.inr x ∧ v = Value.str x t)
  | .inl i, v, h => by
    obtain ⟨t, e⟩ := Value.isInt_shape (k := i) (v := v) h
    exact .inl ⟨i, t, rfl, e⟩
  | .inr x, v, h => by
    obtain ⟨t, e⟩ := Value.isStrOf_shape (x := x) (v := v) h
    exact .inr ⟨x, t, rfl, e⟩
theorem key_ll (a b : Int) : decide ((Sum.inl a : Key) = Sum.inl b) = (a == b) := by
  by_cases e : a = b
  · subst e; simp
  · have h : ¬ (Sum.inl a : Key) = Sum.inl b := fun q => e (Sum.inl.inj q)
    rw [decide_eq_false h]
    exact (beq_eq_false_iff_ne.mpr e).symm
theorem key_rr (a b : Str) : decide ((Sum.inr a : Key) = Sum.inr b) = decide (a = b) := by
  by_cases e : a = b
  · subst e; simp
  · have h : ¬ (Sum.inr a : Key) = Sum.inr b := fun q => e (Sum.inr.inj q)
    rw [decide_eq_false h, decide_eq_false e]
theorem key_lr (a : Int) (b : Str) : decide ((Sum.inl a : Key) = Sum.inr b) = false := decide_eq_false (fun q => nomatch q)
theorem key_rl (a : Str) (b : Int) : decide ((Sum.inr a : Key) = Sum.inl b) = false := decide_eq_false (fun q => nomatch q)

def mixKind (prog : Program) (w : World) : PySem.KeyKind prog w Key where
  is := keyIs
  hash := keyH w
  inj := fun v a b ha hb => by
    rcases keyIs_shape ha with ⟨i, t, rfl, rfl⟩ | ⟨x, t, rfl, rfl⟩
    · rcases keyIs_shape hb with ⟨j, u, rfl, e⟩ | ⟨y, u, rfl, e⟩
      · injection e with e1 _; rw [e1]
      · exact nomatch e
    · rcases keyIs_shape hb with ⟨j, u, rfl, e⟩ | ⟨y, u, rfl, e⟩
      · exact nomatch e
      · injection e with e1 _; rw [e1]
  byValue := fun k v h => by
    rcases keyIs_shape h with ⟨i, t, rfl, rfl⟩ | ⟨x, t, rfl, rfl⟩ <;> rfl
  pyHash := fun hv h => by
    rcases keyIs_shape hv with ⟨i, t, rfl, rfl⟩ | ⟨x, t, rfl, rfl⟩
    · exact wpAny_pyHash_int h
    · exact wpAny_pyHash_str h
  eqBool := fun hu hv h => by
    rcases keyIs_shape hu with ⟨i, t, rfl, rfl⟩ | ⟨x, t, rfl, rfl⟩
    · rcases keyIs_shape hv with ⟨j, u, rfl, rfl⟩ | ⟨y, u, rfl, rfl⟩
      · rw [key_ll] at h; exact wpAny_eqBool_int h
      · rw [key_lr] at h; exact SeqAt.EqAt.int_str i t y u _ _ _ _ h
    · rcases keyIs_shape hv with ⟨j, u, rfl, rfl⟩ | ⟨y, u, rfl, rfl⟩
      · rw [key_rl] at h; exact SeqAt.EqAt.str_int x t j u _ _ _ _ h
      · rw [key_rr] at h; exact wpAny_eqBool_str h
  «strs» := fun k x t v h => by
    rcases keyIs_shape h with ⟨i, u, rfl, e⟩ | ⟨y, u, rfl, e⟩
    · exact nomatch e
    · injection e with e1 _
      subst e1
      cases v <;> rfl

end L2

namespace L2
open PySem PySem.Spec PyProof.Rows

/-- a value, without the heap -/
inductive V where
  | non | bl (b : Bool) | int (i : Int) | str (x : Str) | byt (b : Array UInt8) | flt (b : UInt64) | ref (a : Addr) | ty (n : String)
  deriving DecidableEq

def RelV : V → Value → Prop
  | .non, u => u = Value.none
  | .bl b, u => u = Value.bool b
  | .int i, u => ∃ t, u = Value.int i t
  | .str x, u => ∃ t, u = Value.str x t
  | .byt b, u => ∃ t, u = Value.bytes b t
  | .flt b, u => ∃ t, u = Value.float b t
  | .ref a, u => u = Value.ref a
  | .ty n, u => u = Value.type n

abbrev Vals : List V → List Value → Prop := Paired RelV
theorem Vals.length {xs : List V} {us : List Value} (r : Vals xs us) : xs.length = us.length := Paired.length r
theorem Vals.get : ∀ {xs : List V} {us : List Value} {i : Nat} {x : V}, Vals xs us → xs[i]? = some x → ∃ u, us[i]? = some u ∧ RelV x u
  | _, _, _, _, .nil, e => by simp at e
  | _, _, 0, _, .cons r _, e => by simp at e; subst e; exact ⟨_, rfl, r⟩
  | _, _, i + 1, x, .cons _ t, e => by
    obtain ⟨u, h1, h2⟩ := Vals.get (i := i) (x := x) t (by simpa using e)
    exact ⟨u, by simpa using h1, h2⟩
theorem Vals.set {x : V} {u : Value} (r : RelV x u) : ∀ {xs : List V} {us : List Value} (i : Nat), Vals xs us → Vals (xs.set i x) (us.set i u)
  | _, _, _, .nil => .nil
  | _, _, 0, .cons _ t => .cons r t
  | _, _, i + 1, .cons q t => .cons q (Vals.set r i t)
theorem Vals.append : ∀ {xs ys : List V} {us ws : List Value}, Vals xs us → Vals ys ws → Vals (xs ++ ys) (us ++ ws)
  | _, _, _, _, .nil, s => s
  | _, _, _, _, .cons r t, s => .cons r (Vals.append t s)
theorem Vals.take : ∀ {xs : List V} {us : List Value} (n : Nat), Vals xs us → Vals (xs.take n) (us.take n)
  | _, _, 0, _ => .nil
  | _, _, _ + 1, .nil => .nil
  | _, _, n + 1, .cons r t => .cons r (Vals.take n t)
theorem Vals.drop : ∀ {xs : List V} {us : List Value} (n : Nat), Vals xs us → Vals (xs.drop n) (us.drop n)
  | _, _, 0, r => r
  | _, _, _ + 1, .nil => .nil
  | _, _, n + 1, .cons _ t => Vals.drop n t
theorem Vals.none_of : ∀ {xs : List V} {us : List Value} {i : Nat}, Vals xs us → xs[i]? = none → us[i]? = none := fun {xs us i} r e => by
  have h1 := r.length
  have h2 : xs.length ≤ i := List.getElem?_eq_none_iff.mp e
  exact List.getElem?_eq_none_iff.mpr (by omega)

def RelO : Option V → Option Value → Prop
  | some v, some u => RelV v u
  | none, none => True
  | _, _ => False
def KV {κ : Type} : List (κ × V) → List (κ × Value) → Prop := Paired fun (p : κ × V) (q : κ × Value) => p.1 = q.1 ∧ RelV p.2 q.2

/-- a key of a dict (00_mix): an int or a text -/
def kV : Key → V
  | .inl i => .int i
  | .inr x => .str x

/-- what stands at a tracked address -/
inductive HO where
  /-- a list -/
  | lst (xs : List V)
  /-- a tuple (never changes) -/
  | tup (xs : List V)
  /-- a dict whose keys are ints and texts; one whose keys are tuples of ints and texts (the empty one is both) -/
  | dK (kvs : List (Key × V)) | dT (kvs : List (List Key × V))
  /-- a set of ints: its members, its size -/
  | set (S : Int → Bool) (n : Nat)
  /-- an instance of the class at C, its dict at dx, its attributes -/
  | ins (C dx : Addr) (fs : List (Str × V))
  /-- the dict of the instance at x -/
  | own (x : Addr)
  /-- the dict of an exception -/
  | xd (fs : List (Str × V))
  /-- a bound method, f of x -/
  | met (f x : Addr)
  /-- a range object lo, lo + 1, .. below hi -/
  | rng (lo hi : Int)
  /-- a thing that is known to the object (the script; a dict while a loop walks it): read, never written while it is so -/
  | frz (o : Obj) (u : HO)
  /-- a code object's table -/
  | tbl (ps : Array Value)
  /-- any other thing, by what is true of its one object (a def of one's own: SetO a S n := HO.ext fun h => ..) -/
  | ext (φ : Heap → Prop)

abbrev Hp := Addr → Option HO
def upd (H : Hp) (a : Addr) (o : HO) : Hp := fun b => if b = a then some o else H b
theorem upd_same {H : Hp} {a : Addr} {o : HO} : upd H a o a = some o := by unfold upd; rw [if_pos rfl]
theorem upd_ne {H : Hp} {a b : Addr} {o : HO} (h : b ≠ a) : upd H a o b = H b := by unfold upd; rw [if_neg h]
/-- two objects of different content stand apart -/
theorem ne_of {H : Hp} {a b : Addr} {o u : HO} (h : H a = some o) (h' : H b = some u) (d : o ≠ u) : a ≠ b := by
  intro e; subst e; rw [h] at h'; exact d (Option.some.inj h')
theorem ne_of_none {H : Hp} {a b : Addr} {o : HO} (h : H a = some o) (h' : H b = none) : a ≠ b := by
  intro e; subst e; rw [h] at h'; cases h'

section
variable (P : Program) (w : World)
def ObjOk (H : Hp) (h : Heap) (a : Addr) : HO → Prop
  | .lst xs => xs.length ≤ sizeLine ∧ ∃ (its : List Value) (n : Nat), Vals xs its ∧ h.get? a = some { cls := .type "list", data := .seq its.toArray n }
  | .tup xs => xs.length ≤ sizeLine ∧ ∃ its : List Value, Vals xs its ∧ IsTup h a its.toArray
  | .dK kvs => kvs.length ≤ sizeLine ∧ (a == sysModules) = false ∧ ∃ vs, KV kvs vs ∧ h.DictOf (mixKind P w) a vs
  | .dT kvs => kvs.length ≤ sizeLine ∧ (a == sysModules) = false ∧ ∃ xs : List (List Key × Addr × Value),
      Paired (fun (p : List Key × V) (q : List Key × Addr × Value) => p.1 = q.1 ∧ H q.2.1 = some (.tup (p.1.map kV)) ∧ RelV p.2 q.2.2) kvs xs ∧
      ∃ o es ep, h.get? a = some o ∧ o.ExactDict ∧ o.data = .dict es ep ∧ es.toList = xs.map (entryOfKey (tupleKind (mixKind P w))) ∧ (xs.map (·.1)).Nodup
  | .set S n => h.SetOf (intKind P w) a S n
  | .ins C dx fs => H dx = some (.own a) ∧ fs.length ≤ 1000 ∧ dx ≠ a ∧ h.get? a = some (PySem.W.instObj C dx) ∧
      ∃ mA, h.Ns1 dx mA ∧ (∀ f, RelO (fs.lookup f) (mA f)) ∧ PySem.Within mA (fs.map (·.1))
  | .own _ => ∃ o, h.get? a = some o
  | .xd fs => ∃ mA, h.Ns1 a mA ∧ ∀ f, RelO (fs.lookup f) (mA f)
  | .rng lo hi => ∃ t u v, h.get? a = some { cls := .type "range", data := .fields #[.int lo t, .int hi u, .int 1 v] }
  | .frz o u => h.get? a = some o ∧ ObjOk H h a u
  | .tbl ps => h.get? a = some { cls := .none, data := .fields ps }
  | .met f x => h.get? a = some (PySem.W.methodObj (.ref f) (.ref x))
  | .ext φ => φ h ∧ (∃ o, h.get? a = some o) ∧ ∀ h1 h2 : Heap, φ h1 → (∀ o, h1.get? a = some o → h2.get? a = some o) → φ h2
/-- the abstract heap is held -/
def HOk (H : Hp) (h : Heap) : Prop := ∀ a o, H a = some o → ObjOk P w H h a o
end

section
variable {P : Program} {w : World} {H H' : Hp} {h h' : Heap} {a : Addr} {o : HO}
theorem ObjOk.lt (x : ObjOk P w H h a o) : a < h.objs.size := by
  cases o with
  | lst xs => obtain ⟨_, _, _, _, e⟩ := x; exact Heap.lt_size e
  | tup xs => obtain ⟨_, _, _, p⟩ := x; exact p.lt
  | dK kvs => obtain ⟨_, _, _, _, o, _, _, e, _⟩ := x; exact Heap.lt_size e
  | dT kvs => obtain ⟨_, _, _, _, o, _, _, e, _⟩ := x; exact Heap.lt_size e
  | set S n => obtain ⟨o, _, _, _, e, _⟩ := x; exact Heap.lt_size e
  | ins C dx fs => obtain ⟨_, _, _, e, _⟩ := x; exact Heap.lt_size e
  | own y => obtain ⟨_, e⟩ := x; exact Heap.lt_size e
  | xd fs => obtain ⟨_, ⟨_, _, _, e, _⟩, _⟩ := x; exact Heap.lt_size e
  | rng lo hi => obtain ⟨_, _, _, e⟩ := x; exact Heap.lt_size e
  | frz ob u => obtain ⟨e, _⟩ := x; exact Heap.lt_size e
  | tbl ps => exact Heap.lt_size (show h.get? a = some _ from x)
  | met f y => exact Heap.lt_size (show h.get? a = some _ from x)
  | ext φ => obtain ⟨_, ⟨_, e⟩, _⟩ := x; exact Heap.lt_size e
theorem Paired.mapP {α β : Type} {F G : α → β → Prop} : ∀ {l₁ : List α} {l₂ : List β}, Paired F l₁ l₂ → (∀ a b, F a b → G a b) → Paired G l₁ l₂
  | _, _, .nil, _ => .nil
  | _, _, .cons r t, f => .cons (f _ _ r) (Paired.mapP t f)
theorem Paired.imp' {α β : Type} {F G : α → β → Prop} (f : ∀ a b, F a b → G a b) {l₁ : List α} {l₂ : List β} (r : Paired F l₁ l₂) : Paired G l₁ l₂ := Paired.mapP r f
/-- what an object's description leans on: its own object, its own dict, the tuples -/
theorem ObjOk.stay (x : ObjOk P w H h a o) (k : ∀ b u, (b = a ∨ H b = some (.own a)) → h.get? b = some u → h'.get? b = some u)
    (ho : ∀ b, H b = some (.own a) → H' b = some (.own a)) (ht : ∀ b xs, H b = some (.tup xs) → H' b = some (.tup xs)) : ObjOk P w H' h' a o := by
  induction o with
  | lst xs => obtain ⟨z, its, n, r, e⟩ := x; exact ⟨z, its, n, r, k _ _ (.inl rfl) e⟩
  | tup xs => obtain ⟨z, its, r, ob, e, c⟩ := x; exact ⟨z, its, r, ob, k _ _ (.inl rfl) e, c⟩
  | dK kvs => obtain ⟨z, y, vs, r, ob, es, ep, e, c⟩ := x; exact ⟨z, y, vs, r, ob, es, ep, k _ _ (.inl rfl) e, c⟩
  | dT kvs =>
    obtain ⟨z, y, xs, r, ob, es, ep, e, c⟩ := x
    exact ⟨z, y, xs, Paired.mapP r fun p q z => ⟨z.1, ht _ _ z.2.1, z.2.2⟩, ob, es, ep, k _ _ (.inl rfl) e, c⟩
  | set S n => obtain ⟨ob, es, ep, t, e, c⟩ := x; exact ⟨ob, es, ep, t, k _ _ (.inl rfl) e, c⟩
  | ins C dx fs =>
    obtain ⟨d, z, ne, e, mA, ⟨od, es, ep, e2, c⟩, r⟩ := x
    exact ⟨ho _ d, z, ne, k _ _ (.inl rfl) e, mA, ⟨od, es, ep, k _ _ (.inr d) e2, c⟩, r⟩
  | own y => obtain ⟨ob, e⟩ := x; exact ⟨ob, k _ _ (.inl rfl) e⟩
  | xd fs => obtain ⟨mA, ⟨od, es, ep, e, c⟩, r⟩ := x; exact ⟨mA, ⟨od, es, ep, k _ _ (.inl rfl) e, c⟩, r⟩
  | rng lo hi => obtain ⟨t, u, v, e⟩ := x; exact ⟨t, u, v, k _ _ (.inl rfl) e⟩
  | frz ob u ih => obtain ⟨e, q⟩ := x; exact ⟨k _ _ (.inl rfl) e, ih q⟩
  | tbl ps =>
    have e : h.get? a = some { cls := .none, data := .fields ps } := x
    show h'.get? a = some { cls := .none, data := .fields ps }
    exact k a _ (.inl rfl) e
  | met f y =>
    have e : h.get? a = some (PySem.W.methodObj (.ref f) (.ref y)) := x
    show h'.get? a = some (PySem.W.methodObj (.ref f) (.ref y))
    exact k a _ (.inl rfl) e
  | ext φ => obtain ⟨p, ⟨o, e⟩, st⟩ := x; exact ⟨st _ _ p fun o q => k _ _ (.inl rfl) q, ⟨o, k _ _ (.inl rfl) e⟩, st⟩
theorem HOk.lt (x : HOk P w H h) (e : H a = some o) : a < h.objs.size := (x a o e).lt
theorem HOk.fresh (x : HOk P w H h) (e : h.objs.size ≤ a) : H a = none := by
  cases q : H a with
  | none => rfl
  | some u => exact absurd (Nat.lt_of_lt_of_le (x.lt q) e) (Nat.lt_irrefl _)
/-- every object of the heap is kept -/
theorem HOk.kept (x : HOk P w H h) (k : ∀ b u, h.get? b = some u → h'.get? b = some u) : HOk P w H h' := fun a o e =>
  (x a o e).stay (fun b u _ q => k b u q) (fun _ q => q) fun _ _ q => q
/-- a new object is laid and tracked -/
theorem HOk.laid (x : HOk P w H h) (k : ∀ b u, h.get? b = some u → h'.get? b = some u) (hp : h.objs.size ≤ a) (new : ObjOk P w (upd H a o) h' a o) : HOk P w (upd H a o) h' := fun b u e => by
  have hn := x.fresh hp
  by_cases hb : b = a
  · subst hb; rw [upd_same] at e; cases e; exact new
  · rw [upd_ne hb] at e
    exact (x b u e).stay (fun c v _ q => k c v q) (fun c q => by rw [upd_ne (ne_of_none q hn)]; exact q) fun c xs q => by rw [upd_ne (ne_of_none q hn)]; exact q
end

/-- what may be read as u: it is u, or a known u -/
def Rd (H : Hp) (a : Addr) (u : HO) : Prop := H a = some u ∨ ∃ o, H a = some (.frz o u)
theorem Rd.of {H : Hp} {a : Addr} {u : HO} (h : H a = some u) : Rd H a u := .inl h
theorem Rd.ok {P : Program} {w : World} {H : Hp} {h : Heap} {a : Addr} {u : HO} (r : Rd H a u) (x : HOk P w H h) : ObjOk P w H h a u := by
  rcases r with r | ⟨o, r⟩
  · exact x a u r
  · obtain ⟨_, q⟩ := x a _ r
    exact q
/-- what may be written -/
def Mut : Option HO → Prop
  | some (.lst _) => True
  | some (.dK _) => True
  | some (.dT _) => True
  | some (.set _ _) => True
  | some (.ins _ _ _) => True
  | some (.ext _) => True
  | _ => False
section
variable {P : Program} {w : World} {H : Hp} {h h' : Heap} {x e : Addr} {o' : HO}
/-- the object at e is changed: x itself, or the dict of the instance x -/
theorem HOk.write (ok : HOk P w H h) (mu : Mut (H x)) (he : e = x ∨ H e = some (.own x)) (k : ∀ b u, b ≠ e → h.get? b = some u → h'.get? b = some u) (heo : ∃ u, h'.get? e = some u)
    (new : ObjOk P w (upd H x o') h' x o') : HOk P w (upd H x o') h' := fun b u q => by
  have nown : ∀ c y, H c = some (.own y) → c ≠ x := fun c y r z => by subst z; rw [r] at mu; exact mu
  have ntup : ∀ c xs, H c = some (.tup xs) → c ≠ x := fun c xs r z => by subst z; rw [r] at mu; exact mu
  by_cases hb : b = x
  · subst hb; rw [upd_same] at q; cases q; exact new
  · rw [upd_ne hb] at q
    by_cases hbe : b = e
    · have q' : H b = some (.own x) := by
        rcases he with z | z
        · exact absurd (hbe.trans z) hb
        · rw [hbe]; exact z
      rw [q] at q'; cases q'
      obtain ⟨v, hv⟩ := heo
      exact ⟨v, by rw [hbe]; exact hv⟩
    · refine (ok b u q).stay (fun c v hc r => k c v ?_ r) (fun c r => by rw [upd_ne (nown c b r)]; exact r) fun c xs r => by rw [upd_ne (ntup c xs r)]; exact r
      rcases hc with rfl | hc
      · exact hbe
      · rintro rfl
        rcases he with z | z
        · exact nown c b hc z
        · rw [hc] at z; cases z; exact hb rfl
end

/-! ### kept unless tracked; of the frames at fs (the callers') the slots may change (an exception that passes writes there); of the records at ex (iterators) nothing is said -/
structure Un (fs ex : List Addr) (H H' : Hp) (h h' : Heap) : Prop where
  keep : ∀ b o, h.get? b = some o → H b = none → b ∉ fs → b ∉ ex → h'.get? b = some o
  slot : ∀ b o, h.get? b = some o → H b = none → b ∈ fs → b ∉ ex → ∃ sl, h'.get? b = some { o with slots := sl }
  free : ∀ b o, h.get? b = some o → H b = none → b ∉ ex → H' b = none
  there : ∀ b o, h.get? b = some o → b ∉ ex → ∃ o', h'.get? b = some o'
  tups : ∀ b xs, H b = some (.tup xs) → H' b = some (.tup xs)
  frzs : ∀ b o u, H b = some (.frz o u) → H' b = some (.frz o u)
  tbls : ∀ b ps, H b = some (.tbl ps) → ∃ more, H' b = some (.tbl (ps ++ more))
section
variable {fs fs' ex ex' : List Addr} {H H1 H2 : Hp} {h h1 h2 h' : Heap} {a x e : Addr} {o : HO}
theorem Un.any (u : Un fs ex H H1 h h1) {b : Addr} {ob : Obj} (q : h.get? b = some ob) (n : H b = none) (hx : b ∉ ex) : ∃ sl, h1.get? b = some { ob with slots := sl } := by
  by_cases hb : b ∈ fs
  · exact u.slot b ob q n hb hx
  · exact ⟨ob.slots, u.keep b ob q n hb hx⟩
theorem Un.trans (a : Un fs ex H H1 h h1) (b : Un fs ex H1 H2 h1 h2) : Un fs ex H H2 h h2 where
  keep := fun c ob q n hc hx => b.keep c ob (a.keep c ob q n hc hx) (a.free c ob q n hx) hc hx
  slot := fun c ob q n hc hx => by
    obtain ⟨sl, e1⟩ := a.slot c ob q n hc hx
    obtain ⟨sl', e2⟩ := b.slot c _ e1 (a.free c ob q n hx) hc hx
    exact ⟨sl', e2⟩
  free := fun c ob q n hx => by
    obtain ⟨o', e1⟩ := a.there c ob q hx
    exact b.free c o' e1 (a.free c ob q n hx) hx
  there := fun c ob q hx => by
    obtain ⟨o', e1⟩ := a.there c ob q hx
    exact b.there c o' e1 hx
  tups := fun c xs q => b.tups c xs (a.tups c xs q)
  frzs := fun c ob xs q => b.frzs c ob xs (a.frzs c ob xs q)
  tbls := fun c ps q => by
    obtain ⟨m1, e1⟩ := a.tbls c ps q
    obtain ⟨m2, e2⟩ := b.tbls c _ e1
    exact ⟨m1 ++ m2, by rw [e2, Array.append_assoc]⟩
theorem Un.kept (k : ∀ b u, h.get? b = some u → h'.get? b = some u) : Un fs ex H H h h' :=
  ⟨fun b ob q _ _ _ => k b ob q, fun b ob q _ _ _ => ⟨ob.slots, k b ob q⟩, fun _ _ _ n _ => n, fun b ob q _ => ⟨ob, k b ob q⟩, fun _ _ q => q, fun _ _ _ q => q, fun _ ps q => ⟨#[], by rw [q]; simp⟩⟩
theorem Un.refl : Un fs ex H H h h := Un.kept fun _ _ q => q
theorem Un.laid (k : ∀ b u, h.get? b = some u → h'.get? b = some u) (hp : h.objs.size ≤ a) (hn : H a = none) : Un fs ex H (upd H a o) h h' where
  keep := fun b u q _ _ _ => k b u q
  slot := fun b u q _ _ _ => ⟨u.slots, k b u q⟩
  free := fun b u q n _ => by rw [upd_ne (Nat.ne_of_lt (Nat.lt_of_lt_of_le (Heap.lt_size q) hp))]; exact n
  there := fun b u q _ => ⟨u, k b u q⟩
  tups := fun b xs q => by rw [upd_ne (ne_of_none q hn)]; exact q
  frzs := fun b u xs q => by rw [upd_ne (ne_of_none q hn)]; exact q
  tbls := fun b ps q => ⟨#[], by rw [upd_ne (ne_of_none q hn), q]; simp⟩
theorem Un.write (mu : Mut (H x)) (he : e = x ∨ H e = some (.own x)) (k : ∀ b u, b ≠ e → h.get? b = some u → h'.get? b = some u) (heo : ∃ u, h'.get? e = some u) : Un fs ex H (upd H x o) h h' := by
  have hx : ∀ b, H b = none → b ≠ x := fun b n z => by subst z; rw [n] at mu; exact mu
  have hb : ∀ b, H b = none → b ≠ e := fun b n z => by
    subst z
    rcases he with r | r
    · exact hx b n r
    · rw [n] at r; cases r
  have hm : ∀ b u, H b = some u → ¬ Mut (some u) → b ≠ x := fun b u q nm z => by subst z; rw [q] at mu; exact nm mu
  refine ⟨fun b u q n _ _ => k b u (hb b n) q, fun b u q n _ _ => ⟨u.slots, k b u (hb b n) q⟩, fun b u q n _ => by rw [upd_ne (hx b n)]; exact n, fun b u q _ => ?_,
    fun b xs q => by rw [upd_ne (hm b _ q fun z => z)]; exact q, fun b u xs q => by rw [upd_ne (hm b _ q fun z => z)]; exact q, fun b ps q => ⟨#[], by rw [upd_ne (hm b _ q fun z => z), q]; simp⟩⟩
  by_cases hbe : b = e
  · subst hbe; exact heo
  · exact ⟨u, k b u hbe q⟩
theorem Un.mono (u : Un fs ex H H1 h h1) (hs : ∀ b ∈ fs, b ∈ fs') (hx : ∀ b ∈ ex, b ∈ ex') : Un fs' ex' H H1 h h1 :=
  ⟨fun b ob q n hb he => u.keep b ob q n (fun z => hb (hs b z)) fun z => he (hx b z), fun _ _ q n _ he => u.any q n fun z => he (hx _ z), fun b ob q n he => u.free b ob q n fun z => he (hx b z), fun b ob q he => u.there b ob q fun z => he (hx b z), u.tups, u.frzs, u.tbls⟩
end

/-! ### the heap without what is tracked -/
def trk (h : Heap) (H : Hp) : List Addr := (List.range h.objs.size).filter fun a => (H a).isSome
def hidT (h : Heap) (H : Hp) : Heap := PySem.W.hideAll h (trk h H)
theorem hidT_size (h : Heap) (H : Hp) : (hidT h H).objs.size = h.objs.size := PySem.W.hideAll_size _ _
theorem hidT_get {h : Heap} {H : Hp} {b : Addr} {o : Obj} (e : h.get? b = some o) (n : H b = none) : (hidT h H).get? b = some o :=
  PySem.W.hideAll_get _ e fun hm => by
    have q : (H b).isSome = true := (List.mem_filter.mp hm).2
    rw [n] at q; simp at q
theorem of_hidT {h : Heap} {H : Hp} {b : Addr} {o : Obj} (e : (hidT h H).get? b = some o) : h.get? b = some o ∧ H b = none := by
  have e' : h.get? b = some o := PySem.W.of_hideAll (trk h H) e
  refine ⟨e', ?_⟩
  cases q : H b with
  | none => rfl
  | some x =>
    have hm : b ∈ trk h H := List.mem_filter.mpr ⟨List.mem_range.mpr (Heap.lt_size e'), by simp [q]⟩
    have z : (hidT h H).get? b = none := PySem.W.hideAll_none (trk h H) hm
    rw [z] at e; cases e

/-! ### OpenK's ledger, filled with every new object but one -/
def allNews (g h : Heap) (L : Addr) : List (Addr × Obj) := (List.range h.objs.size).filterMap fun a => if a = L ∨ (g.get? a).isSome = true then none else (h.get? a).map fun o => (a, o)
def rest (g h : Heap) (L d : Addr) : List (Addr × Obj) := (allNews g h L).filter fun p => decide (p.1 ≠ d)
end L2

namespace L2
open PySem PySem.Spec PyProof.Rows

/-- the module's facts, over the base: the heap at the law's entry without what is tracked there -/
structure Mod (K : PySem.W.Frag) (mg : Str → Option Value) (base : Heap) : Prop where
  kin : K.In base
  glob : base.Ns mainGlobals mg
  blt : ∃ mb, base.Ns builtinsNs mb ∧ ∀ x : Str, x ≠ "__name__" → mb x = bootBuiltins x
  nolimit : base.NoLimit

/-- the context: a def's body (or a comprehension's block) running. base: fixed through the whole law; s₀, H₀: the entry; outer: the frames whose slots others may change (a def's callers); stack: all frames that run;
   ex: iterators that were made ahead of the entry and are walked here (a comprehension's); fn: the names whose cells were made at the entry (a def: all; a comprehension's block: its own); calm: not within an except suite; pn: pins that every state bears; xe: what is wanted of an exception that leaves the code -/
structure Cx where
  prog : Program
  w : World
  K : PySem.W.Frag
  mg : Str → Option Value
  base : Heap
  A : Around
  N : List Str
  s_0 : Shared
  H_0 : Hp
  env : Env
  outer : List Env
  stack : List Env
  ex : List Addr
  fn : Str → Bool
  calm : Bool
  pn : List (Addr × Obj)
  xe : Value → Shared → Prop
/-- the callers' frames -/
def frs (l : List Env) : List Addr := l.filterMap (·.frame)
abbrev Cx.fs (X : Cx) : List Addr := frs X.outer

def Vis (sc : Scope) (x : Str) : Prop := sc.names.lookup x = some .local ∨ sc.names.lookup x = some .cell ∨ sc.names.lookup x = some .free
def Loc (sc : Scope) (x : Str) : Prop := sc.names.lookup x = some .local ∨ sc.names.lookup x = some .cell
def Look (env : Env) (h : Heap) (m : Str → Option Value) (x : Str) (u : Value) : Prop :=
  (env.kindOf x = some .local ∧ m x = some u) ∨ ((env.kindOf x = some .cell ∨ env.kindOf x = some .free) ∧ ∃ c, env.cells.lookup x = some c ∧ h.IsCell c (some u))

structure Cx.Ok (X : Cx) : Prop where
  mod : Mod X.K X.mg X.base
  kind : X.env.scope.kind = .function
  glob : X.env.globals = mainGlobals
  blt : X.env.builtins = builtinsNs
  above : X.s_0.heap.objs.size ≤ X.env.locals
  inj : ∀ x y c, X.env.cells.lookup x = some c → X.env.cells.lookup y = some c → x = y
  has : ∀ x, (X.env.kindOf x = some .cell ∨ X.env.kindOf x = some .free) → ∃ c, X.env.cells.lookup x = some c
  cab : ∀ x c, X.fn x = true → X.env.cells.lookup x = some c → X.s_0.heap.objs.size ≤ c
  hd : X.calm = true → X.A.handled = none
  frames : X.A.frames = some X.stack
  stk : X.stack = X.outer ∨ (X.stack = X.env :: X.outer ∧ X.env.frame = some X.env.locals)
  exf : ∀ b ∈ X.ex, b ≠ X.env.locals ∧ ∀ x c, X.env.cells.lookup x = some c → c ≠ b
  bs : ∀ b o, X.base.get? b = some o → X.s_0.heap.get? b = some o ∧ X.H_0 b = none
  bsz : X.base.objs.size ≤ X.s_0.heap.objs.size
  noex : ∀ b o, X.base.get? b = some o → b ∉ X.ex
  exfs : ∀ b ∈ X.ex, b ∉ X.fs
  funs : X.s_0.heap.FunFrames X.base X.outer
  frf : ∀ b ∈ X.fs, X.H_0 b = none

structure Inv (X : Cx) (pins : List (Addr × Obj)) (σ : List (Option V)) (H : Hp) (s : Shared) : Prop where
  ok : X.Ok
  os : s.os = X.s_0.os
  bare : AllBare s.gens
  base : Un X.fs X.ex X.H_0 H X.s_0.heap s.heap
  loc : ∃ m, s.heap.Ns X.env.locals m ∧ ∀ (i : Nat) (x : Str) (v : V), X.N[i]? = some x → σ[i]? = some (some v) → Vis X.env.scope x → ∃ u, RelV v u ∧ Look X.env s.heap m x u
  cell : ∀ x c, X.env.cells.lookup x = some c → ∃ v, s.heap.IsCell c v
  free : H X.env.locals = none
  freeC : ∀ x c, X.env.cells.lookup x = some c → H c = none
  pin : ∀ p ∈ X.pn ++ pins, s.heap.get? p.1 = some p.2 ∧ H p.1 = none ∧ p.1 ≠ X.env.locals ∧ p.1 ∉ X.fs ∧ ∀ v, p.2.data ≠ .cell v
  hok : HOk X.prog X.w H s.heap
  len : σ.length = X.N.length

section
variable {X : Cx} {pins : List (Addr × Obj)} {σ : List (Option V)} {H H' : Hp} {s : Shared} {h' : Heap}

theorem Cx.Ok.nofr (ok : X.Ok) {b : Addr} {o : Obj} (e : X.base.get? b = some o) : b ∉ X.fs := fun hb => by
  have := (ok.funs.mem hb).1
  rw [e] at this; cases this
theorem Inv.bs (I : Inv X pins σ H s) : ∀ b o, X.base.get? b = some o → s.heap.get? b = some o ∧ H b = none := fun b o e =>
  ⟨I.base.keep b o (I.ok.bs b o e).1 (I.ok.bs b o e).2 (I.ok.nofr e) (I.ok.noex b o e), I.base.free b o (I.ok.bs b o e).1 (I.ok.bs b o e).2 (I.ok.noex b o e)⟩
theorem Inv.bk (I : Inv X pins σ H s) : ∀ b o, X.base.get? b = some o → s.heap.get? b = some o := fun b o e => (I.bs b o e).1
theorem Inv.mod (I : Inv X pins σ H s) : Mod X.K X.mg X.base := I.ok.mod
theorem Inv.kIn (I : Inv X pins σ H s) : X.K.In s.heap := I.ok.mod.kin.keeps I.bk
theorem Inv.nolimit (I : Inv X pins σ H s) : s.heap.NoLimit := I.ok.mod.nolimit.keeps I.bk
theorem Inv.lt (I : Inv X pins σ H s) : X.env.locals < s.heap.objs.size := let ⟨_, hn, _⟩ := I.loc; hn.lt
theorem Inv.sz (I : Inv X pins σ H s) : X.s_0.heap.objs.size ≤ s.heap.objs.size := Nat.le_trans I.ok.above (Nat.le_of_lt I.lt)
theorem Inv.nofs (I : Inv X pins σ H s) {a : Addr} (h : s.heap.objs.size ≤ a) : a ∉ X.fs := fun hb => by
  obtain ⟨_, o, ho, _⟩ := I.ok.funs.mem hb
  exact absurd (Nat.lt_of_lt_of_le (Heap.lt_size ho) (Nat.le_trans I.sz h)) (Nat.lt_irrefl _)
theorem Inv.cne (I : Inv X pins σ H s) : ∀ x c, X.env.cells.lookup x = some c → c ≠ X.env.locals := fun x c e z => by
  obtain ⟨v, o, ho, hd⟩ := I.cell x c e
  obtain ⟨m, ⟨o', es, ep, ho', hd', _⟩, _⟩ := I.loc
  rw [z, ho'] at ho; cases ho; rw [hd'] at hd; cases hd
theorem Inv.funs (I : Inv X pins σ H s) : s.heap.FunFrames X.base X.outer := by
  have all : ∀ (l : List Env), (∀ b ∈ frs l, b ∈ X.fs) → X.s_0.heap.FunFrames X.base l → s.heap.FunFrames X.base l := by
    intro l
    induction l with
    | nil => intro _ _; trivial
    | cons env r ih =>
      intro hs hl
      obtain ⟨hk, ⟨L, o, hf, hn, ho, hd⟩, hr⟩ := hl
      have hL : L ∈ X.fs := hs L (by unfold frs; rw [List.filterMap_cons, hf]; exact List.mem_cons_self)
      obtain ⟨sl, e⟩ := I.base.slot L o ho (I.ok.frf L hL) hL fun z => I.ok.exfs L z hL
      exact ⟨hk, ⟨L, _, hf, hn, e, hd⟩, ih (fun b hb => hs b (by unfold frs; rw [List.filterMap_cons, hf]; exact List.mem_cons_of_mem _ hb)) hr⟩
  exact all X.outer (fun _ hb => hb) I.ok.funs

/-- the frames that run, for a call -/
theorem Inv.stack (I : Inv X pins σ H s) : s.heap.FunFrames X.base X.stack := by
  rcases I.ok.stk with e | ⟨e, hf⟩
  · rw [e]; exact I.funs
  · rw [e]
    obtain ⟨m, hn, _⟩ := I.loc
    refine .cons (by rw [I.ok.kind]; decide) hf hn ?_ I.funs
    exact Heap.get?_none_of_le (Nat.le_trans I.ok.bsz I.ok.above)
theorem Inv.stkSub (I : Inv X pins σ H s) : ∀ b ∈ frs X.stack, b ∈ X.env.locals :: X.fs := fun b hb => by
  rcases I.ok.stk with e | ⟨e, hf⟩
  · rw [e] at hb; exact List.mem_cons_of_mem _ hb
  · rw [e] at hb
    unfold frs at hb
    rw [List.filterMap_cons, hf] at hb
    exact hb
theorem Inv.stkFree (I : Inv X pins σ H s) : ∀ b ∈ frs X.stack, H b = none := fun b hb => by
  rcases List.mem_cons.mp (I.stkSub b hb) with e | hb
  · rw [e]; exact I.free
  · obtain ⟨_, o, ho, _⟩ := I.ok.funs.mem hb
    exact I.base.free b o ho (I.ok.frf b hb) fun z => I.ok.exfs b z hb

/-- THE STEP: the untracked objects but the frame and the records at ch are kept (the callers' frames up to slots), the frame's map is kept, the new abstract heap is held -/
theorem Inv.step {g' : Array GenState} {t' : Nat} {d' : Drawn} {ch : List Addr} (I : Inv X pins σ H s)
    (hch : ∀ b ∈ ch, (b ∈ X.ex ∨ X.s_0.heap.objs.size ≤ b) ∧ b ≠ X.env.locals ∧ (∀ x c, X.env.cells.lookup x = some c → c ≠ b) ∧ ∀ p ∈ X.pn ++ pins, p.1 ≠ b)
    (keep : ∀ b o, b ≠ X.env.locals → b ∉ X.fs → b ∉ ch → s.heap.get? b = some o → H b = none → h'.get? b = some o)
    (slot : ∀ b o, b ≠ X.env.locals → b ∈ X.fs → b ∉ ch → s.heap.get? b = some o → H b = none → ∃ sl, h'.get? b = some { o with slots := sl }) (free : ∀ b o, b ∉ ch → s.heap.get? b = some o → H b = none → H' b = none)
    (there : ∀ b o, b ∉ ch → s.heap.get? b = some o → ∃ o', h'.get? b = some o')
    (tups : ∀ b xs, H b = some (.tup xs) → H' b = some (.tup xs)) (frzs : ∀ b o u, H b = some (.frz o u) → H' b = some (.frz o u)) (tbls : ∀ b ps, H b = some (.tbl ps) → ∃ more, H' b = some (.tbl (ps ++ more)))
    (ns : ∀ m, s.heap.Ns X.env.locals m → h'.Ns X.env.locals m) (hok : HOk X.prog X.w H' h') (hg : AllBare g') :
    Inv X pins σ H' { s with heap := h', gens := g', drawn := d', toks := t' } := by
  have neL : ∀ b o, X.s_0.heap.get? b = some o → b ≠ X.env.locals := fun b o e => Nat.ne_of_lt (Nat.lt_of_lt_of_le (Heap.lt_size e) I.ok.above)
  have neC : ∀ b o, X.s_0.heap.get? b = some o → b ∉ X.ex → b ∉ ch := fun b o e hx hb => by
    rcases (hch b hb).1 with z | z
    · exact hx z
    · exact absurd (Nat.lt_of_lt_of_le (Heap.lt_size e) z) (Nat.lt_irrefl _)
  have cellK : ∀ x c, X.env.cells.lookup x = some c → ∀ v, s.heap.IsCell c v → h'.IsCell c v := fun x c e v ⟨o, ho, hd⟩ => by
    have nch : c ∉ ch := fun z => (hch c z).2.2.1 x c e rfl
    by_cases hc : c ∈ X.fs
    · obtain ⟨sl, q⟩ := slot c o (I.cne x c e) hc nch ho (I.freeC x c e)
      exact ⟨_, q, hd⟩
    · exact ⟨o, keep c o (I.cne x c e) hc nch ho (I.freeC x c e), hd⟩
  refine ⟨I.ok, I.os, hg, ⟨fun b o e n hb hx => ?_, fun b o e n hb hx => ?_, fun b o e n hx => ?_, fun b o e hx => ?_, fun b xs e => tups b xs (I.base.tups b xs e), fun b o xs e => frzs b o xs (I.base.frzs b o xs e), fun b ps e => ?_⟩, ?_, fun x c e => ?_, ?_, fun x c e => ?_, fun p hp => ?_, hok, I.len⟩
  · exact keep b o (neL b o e) hb (neC b o e hx) (I.base.keep b o e n hb hx) (I.base.free b o e n hx)
  · obtain ⟨sl, e1⟩ := I.base.slot b o e n hb hx
    obtain ⟨sl', e2⟩ := slot b _ (neL b o e) hb (neC b o e hx) e1 (I.base.free b o e n hx)
    exact ⟨sl', e2⟩
  · obtain ⟨o', e1⟩ := I.base.there b o e hx
    exact free b o' (neC b o e hx) e1 (I.base.free b o e n hx)
  · obtain ⟨o', e1⟩ := I.base.there b o e hx
    exact there b o' (neC b o e hx) e1
  · obtain ⟨m1, e1⟩ := I.base.tbls b ps e
    obtain ⟨m2, e2⟩ := tbls b _ e1
    exact ⟨m1 ++ m2, by rw [e2, Array.append_assoc]⟩
  · obtain ⟨m, hn, hl⟩ := I.loc
    refine ⟨m, ns m hn, fun i x v e1 e2 e3 => ?_⟩
    obtain ⟨u, r, l⟩ := hl i x v e1 e2 e3
    refine ⟨u, r, ?_⟩
    rcases l with l | ⟨k, c, e, z⟩
    · exact .inl l
    · exact .inr ⟨k, c, e, cellK x c e _ z⟩
  · obtain ⟨v, z⟩ := I.cell x c e
    exact ⟨v, cellK x c e v z⟩
  · obtain ⟨m, ⟨o, _, _, ho, _⟩, _⟩ := I.loc
    exact free _ o (fun z => (hch _ z).2.1 rfl) ho I.free
  · obtain ⟨v, o, ho, hd⟩ := I.cell x c e
    exact free c o (fun z => (hch c z).2.2.1 x c e rfl) ho (I.freeC x c e)
  · obtain ⟨e, n, ne, nf, d⟩ := I.pin p hp
    have nch : p.1 ∉ ch := fun z => (hch p.1 z).2.2.2 p hp rfl
    exact ⟨keep p.1 p.2 ne nf nch e n, free p.1 p.2 nch e n, ne, nf, d⟩
/-- .. where the frame's own object is kept too -/
theorem Inv.un {t' : Nat} (I : Inv X pins σ H s) (u : Un X.fs [] H H' s.heap h') (hok : HOk X.prog X.w H' h') : Inv X pins σ H' { s with heap := h', toks := t' } := by
  obtain ⟨m, ⟨o, es, ep, ho, r⟩, _⟩ := id I.loc
  obtain ⟨sl, hL⟩ := u.any ho I.free (by simp)
  exact I.step (g' := s.gens) (d' := s.drawn) (ch := []) (fun _ z => nomatch z) (fun b o _ hb _ e n => u.keep b o e n hb (by simp)) (fun b o _ hb _ e n => u.slot b o e n hb (by simp)) (fun b o _ e n => u.free b o e n (by simp)) (fun b o _ e => u.there b o e (by simp)) u.tups u.frzs u.tbls (fun m' hm => by
    obtain ⟨o', es', ep', ho', r'⟩ := hm
    rw [ho] at ho'; cases ho'
    exact ⟨_, es', ep', hL, r'⟩) hok I.bare
/-- behind a call (or a comprehension's block): the slots of this frame may have changed too, the records at ch may have turned -/
theorem Inv.call {g' : Array GenState} {t' : Nat} {d' : Drawn} {ch : List Addr} (I : Inv X pins σ H s) (u : Un (frs X.stack) ch H H' s.heap h') (hok : HOk X.prog X.w H' h') (hg : AllBare g')
    (hch : ∀ b ∈ ch, (b ∈ X.ex ∨ X.s_0.heap.objs.size ≤ b) ∧ b ≠ X.env.locals ∧ (∀ x c, X.env.cells.lookup x = some c → c ≠ b) ∧ ∀ p ∈ X.pn ++ pins, p.1 ≠ b) :
    Inv X pins σ H' { s with heap := h', gens := g', drawn := d', toks := t' } := by
  obtain ⟨m, ⟨o, es, ep, ho, r⟩, _⟩ := id I.loc
  obtain ⟨sl, hL⟩ := u.any ho I.free fun z => (hch _ z).2.1 rfl
  exact I.step (ch := ch) hch (fun b o hL hb hc e n => u.keep b o e n (fun z => (List.mem_cons.mp (I.stkSub b z)).elim hL hb) hc) (fun b o _ _ hc e n => u.any e n hc) (fun b o hc e n => u.free b o e n hc) (fun b o hc e => u.there b o e hc) u.tups u.frzs u.tbls (fun m' hm => by
    obtain ⟨o', es', ep', ho', r'⟩ := hm
    rw [ho] at ho'; cases ho'
    exact ⟨_, es', ep', hL, r'⟩) hok hg
/-- an untracked record of ours (an iterator) has turned -/
theorem Inv.turned {t' : Nat} {it : Addr} (I : Inv X pins σ H s) (k : ∀ b o, b ≠ it → s.heap.get? b = some o → h'.get? b = some o) (hn : H it = none) (hL : it ≠ X.env.locals)
    (h1 : it ∈ X.ex ∨ X.s_0.heap.objs.size ≤ it) (h2 : ∀ x c, X.env.cells.lookup x = some c → c ≠ it) (h3 : ∀ p ∈ X.pn ++ pins, p.1 ≠ it) : Inv X pins σ H { s with heap := h', toks := t' } := by
  have nit : ∀ b u, H b = some u → b ≠ it := fun b u e z => by rw [z, hn] at e; cases e
  refine I.step (g' := s.gens) (d' := s.drawn) (ch := [it]) (fun b hb => ?_) (fun b o _ _ hc e _ => k b o (fun z => hc (by simp [z])) e) (fun b o _ _ hc e _ => ⟨o.slots, k b o (fun z => hc (by simp [z])) e⟩) (fun _ _ _ _ n => n)
    (fun b o hc e => ⟨o, k b o (fun z => hc (by simp [z])) e⟩) (fun _ _ e => e) (fun _ _ _ e => e) (fun b ps e => ⟨#[], by rw [e]; simp⟩) (fun m hm => ?_) (fun b u e => ?_) I.bare
  · have e : b = it := by simpa using hb
    subst e
    exact ⟨h1, hL, h2, h3⟩
  · obtain ⟨o, es, ep, ho, r⟩ := hm
    exact ⟨o, es, ep, k _ o (Ne.symm hL) ho, r⟩
  · refine (I.hok b u e).stay (fun c v hc q => k c v ?_ q) (fun _ q => q) fun _ _ q => q
    rcases hc with z | z
    · rw [z]; exact nit b u e
    · exact nit c _ z
theorem Inv.tok (I : Inv X pins σ H s) (t : Nat) : Inv X pins σ H { s with toks := t } := I.un (h' := s.heap) (t' := t) Un.refl I.hok
/-- all objects kept -/
theorem Inv.kept {t' : Nat} (I : Inv X pins σ H s) (k : ∀ b u, s.heap.get? b = some u → h'.get? b = some u) : Inv X pins σ H { s with heap := h', toks := t' } := I.un (Un.kept k) (I.hok.kept k)
/-- a new object laid and tracked -/
theorem Inv.laid {a : Addr} {o : HO} {t' : Nat} (I : Inv X pins σ H s) (k : ∀ b u, s.heap.get? b = some u → h'.get? b = some u) (hp : s.heap.objs.size ≤ a) (new : ObjOk X.prog X.w (upd H a o) h' a o) :
    Inv X pins σ (upd H a o) { s with heap := h', toks := t' } := I.un (Un.laid k hp (I.hok.fresh hp)) (I.hok.laid k hp new)
/-- an object written -/
theorem Inv.write {x e : Addr} {o : HO} {t' : Nat} (I : Inv X pins σ H s) (mu : Mut (H x)) (he : e = x ∨ H e = some (.own x)) (k : ∀ b u, b ≠ e → s.heap.get? b = some u → h'.get? b = some u) (heo : ∃ u, h'.get? e = some u)
    (new : ObjOk X.prog X.w (upd H x o) h' x o) : Inv X pins σ (upd H x o) { s with heap := h', toks := t' } := I.un (Un.write mu he k heo) (I.hok.write mu he k heo new)
/-- forgetting slots, pins -/
theorem Inv.weak {σ' : List (Option V)} (I : Inv X pins σ H s) (hl : σ'.length = σ.length) (w : ∀ (i : Nat) v, σ'[i]? = some (some v) → σ[i]? = some (some v)) : Inv X pins σ' H s :=
  ⟨I.ok, I.os, I.bare, I.base, let ⟨m, hn, hl'⟩ := I.loc; ⟨m, hn, fun i x v e1 e2 e3 => hl' i x v e1 (w i v e2) e3⟩, I.cell, I.free, I.freeC, I.pin, I.hok, hl.trans I.len⟩
theorem Inv.pins_of {pins' : List (Addr × Obj)} (I : Inv X pins σ H s) (h : ∀ p ∈ pins', s.heap.get? p.1 = some p.2 ∧ H p.1 = none ∧ p.1 ≠ X.env.locals ∧ p.1 ∉ X.fs ∧ ∀ v, p.2.data ≠ .cell v) : Inv X pins' σ H s :=
  ⟨I.ok, I.os, I.bare, I.base, I.loc, I.cell, I.free, I.freeC, fun p hp => (List.mem_append.mp hp).elim (fun z => I.pin p (List.mem_append_left _ z)) (h p), I.hok, I.len⟩

theorem nodup_ix {N : List Str} (hN : N.Nodup) {i j : Nat} {x : Str} (a : N[i]? = some x) (b : N[j]? = some x) : i = j := by
  obtain ⟨h1, e1⟩ := List.getElem?_eq_some_iff.mp a
  obtain ⟨h2, e2⟩ := List.getElem?_eq_some_iff.mp b
  exact (List.getElem_inj hN).mp (e1.trans e2.symm)

/-- a name is stored; what changed -/
theorem store_ok2 {M : Model} {A : Around} {E : Value → Shared → Prop} {i : Nat} {x : Str} {v : V} {u : Value} {Q : Unit → Shared → Prop} (I : Inv X pins σ H s) (hN : X.N.Nodup) (hi : X.N[i]? = some x) (hx : Loc X.env.scope x) (r : RelV v u)
    (h : ∀ s', Inv X pins (σ.set i (some v)) H s' → (∃ a, Heap.SameBut a s.heap s'.heap ∧ (a = X.env.locals ∨ X.env.cells.lookup x = some a)) → Q () s') (hf : X.fn x = true ∨ X.env.scope.names.lookup x = some .local := by first | exact .inl rfl | exact .inr rfl | assumption) : wpAny M A (storeName X.env x u) Q E s := by
  obtain ⟨m, hn, hl⟩ := id I.loc
  have hcls : (X.env.scope.kind == .class || (X.env.scope.kind == .module && X.env.locals != X.env.globals)) = false := by rw [I.ok.kind]; rfl
  have hiσ : i < σ.length := by rw [I.len]; exact (List.getElem?_eq_some_iff.mp hi).1
  have cne := I.cne
  have tracked : ∀ {a : Addr} {h' : Heap}, (∃ o, s.heap.get? a = some o ∧ H a = none) → Heap.SameBut a s.heap h' → HOk X.prog X.w H h' := fun {a h'} ha hs b ob e => by
    obtain ⟨_, _, hfree⟩ := ha
    refine (I.hok b ob e).stay (fun c w' hc q => (hs.2 c ?_).trans q) (fun _ q => q) fun _ _ q => q
    rintro rfl
    rcases hc with rfl | hc
    · rw [hfree] at e; cases e
    · rw [hfree] at hc; cases hc
  rcases hx with hk | hk
  · refine wpAny_storeName_local hk hn (fun h' hn' hs => ?_) hcls
    obtain ⟨oL, _, _, hoL, _⟩ := id hn
    refine h _ ⟨I.ok, I.os, I.bare, ⟨fun b o e n hb hx => ?_, fun b o e n hb hx => ?_, I.base.free, fun b o e hx => ?_, I.base.tups, I.base.frzs, I.base.tbls⟩, ⟨_, hn', fun j y v' e1 e2 e3 => ?_⟩, fun y c e => ?_, I.free, I.freeC, fun p hp => ?_, tracked ⟨oL, hoL, I.free⟩ hs, by simpa using I.len⟩ ⟨_, hs, .inl rfl⟩
    · exact (hs.2 b (Nat.ne_of_lt (Nat.lt_of_lt_of_le (Heap.lt_size e) I.ok.above))).trans (I.base.keep b o e n hb hx)
    · obtain ⟨sl, e1⟩ := I.base.slot b o e n hb hx
      exact ⟨sl, (hs.2 b (Nat.ne_of_lt (Nat.lt_of_lt_of_le (Heap.lt_size e) I.ok.above))).trans e1⟩
    · obtain ⟨o', e1⟩ := I.base.there b o e hx
      exact ⟨o', (hs.2 b (Nat.ne_of_lt (Nat.lt_of_lt_of_le (Heap.lt_size e) I.ok.above))).trans e1⟩
    · by_cases hj : j = i
      · subst hj
        rw [hi] at e1; cases e1
        rw [List.getElem?_set_self hiσ] at e2
        cases e2
        exact ⟨u, r, .inl ⟨hk, by simp⟩⟩
      · rw [List.getElem?_set_ne (Ne.symm hj)] at e2
        obtain ⟨u', r', q⟩ := hl j y v' e1 e2 e3
        refine ⟨u', r', ?_⟩
        rcases q with ⟨k, e⟩ | ⟨k, c, e, z⟩
        · refine .inl ⟨k, ?_⟩
          have : y ≠ x := fun e => hj (nodup_ix hN e1 (e ▸ hi))
          simp [this, e]
        · exact .inr ⟨k, c, e, z.sameBut hs (cne y c e)⟩
    · obtain ⟨w', z⟩ := I.cell y c e
      exact ⟨w', z.sameBut hs (cne y c e)⟩
    · obtain ⟨e, n, ne, nf, d⟩ := I.pin p hp
      exact ⟨(hs.2 p.1 ne).trans e, n, ne, nf, d⟩
  · have hfn : X.fn x = true := by
      rcases hf with z | z
      · exact z
      · rw [z] at hk; cases hk
    obtain ⟨c, hc⟩ := I.ok.has x (.inl hk)
    obtain ⟨w', z⟩ := I.cell x c hc
    refine wpAny_storeName_cell I.ok.kind hk hc z (fun h' hc' hs => ?_)
    obtain ⟨oc, hoc, hocd⟩ := id z
    refine h { s with heap := h' } ⟨I.ok, I.os, I.bare, ⟨fun b o e n hb hx => ?_, fun b o e n hb hx => ?_, I.base.free, fun b o e hx => ?_, I.base.tups, I.base.frzs, I.base.tbls⟩, ⟨m, hn.sameBut hs (Ne.symm (cne x c hc)), fun j y v' e1 e2 e3 => ?_⟩, fun y c' e => ?_, I.free, I.freeC, fun p hp => ?_, tracked ⟨oc, hoc, I.freeC x c hc⟩ hs, by simpa using I.len⟩ ⟨c, hs, .inr hc⟩
    · exact (hs.2 b (Nat.ne_of_lt (Nat.lt_of_lt_of_le (Heap.lt_size e) (I.ok.cab x c hfn hc)))).trans (I.base.keep b o e n hb hx)
    · obtain ⟨sl, e1⟩ := I.base.slot b o e n hb hx
      exact ⟨sl, (hs.2 b (Nat.ne_of_lt (Nat.lt_of_lt_of_le (Heap.lt_size e) (I.ok.cab x c hfn hc)))).trans e1⟩
    · obtain ⟨o', e1⟩ := I.base.there b o e hx
      exact ⟨o', (hs.2 b (Nat.ne_of_lt (Nat.lt_of_lt_of_le (Heap.lt_size e) (I.ok.cab x c hfn hc)))).trans e1⟩
    · by_cases hj : j = i
      · subst hj
        rw [hi] at e1; cases e1
        rw [List.getElem?_set_self hiσ] at e2
        cases e2
        exact ⟨u, r, .inr ⟨.inl hk, c, hc, hc'⟩⟩
      · rw [List.getElem?_set_ne (Ne.symm hj)] at e2
        obtain ⟨u', r', q⟩ := hl j y v' e1 e2 e3
        refine ⟨u', r', ?_⟩
        rcases q with q | ⟨k, c', e, z'⟩
        · exact .inl q
        · refine .inr ⟨k, c', e, z'.sameBut hs ?_⟩
          rintro rfl
          exact hj (nodup_ix hN e1 (I.ok.inj _ _ _ e hc ▸ hi))
    · by_cases hcc : c' = c
      · subst hcc; exact ⟨_, hc'⟩
      · obtain ⟨w2, z2⟩ := I.cell y c' e
        exact ⟨w2, z2.sameBut hs hcc⟩
    · obtain ⟨e, n, ne, nf, d⟩ := I.pin p hp
      refine ⟨(hs.2 p.1 ?_).trans e, n, ne, nf, d⟩
      intro q
      rw [q, hoc] at e
      have q' : oc = p.2 := Option.some.inj e
      exact d w' (by rw [← q']; exact hocd)
theorem store_ok {M : Model} {A : Around} {E : Value → Shared → Prop} {i : Nat} {x : Str} {v : V} {u : Value} {Q : Unit → Shared → Prop} (I : Inv X pins σ H s) (hN : X.N.Nodup) (hi : X.N[i]? = some x) (hx : Loc X.env.scope x) (r : RelV v u)
    (h : ∀ s', Inv X pins (σ.set i (some v)) H s' → Q () s') (hf : X.fn x = true ∨ X.env.scope.names.lookup x = some .local := by first | exact .inl rfl | exact .inr rfl | assumption) : wpAny M A (storeName X.env x u) Q E s :=
  store_ok2 I hN hi hx r (fun s' I' _ => h s' I') hf
/-- behind a call or a block, the state as it is -/
theorem Inv.call' {s' : Shared} {ch : List Addr} (I : Inv X pins σ H s) (ho : s'.os = s.os) (u : Un (frs X.stack) ch H H' s.heap s'.heap) (hok : HOk X.prog X.w H' s'.heap) (hg : AllBare s'.gens)
    (hch : ∀ b ∈ ch, (b ∈ X.ex ∨ X.s_0.heap.objs.size ≤ b) ∧ b ≠ X.env.locals ∧ (∀ x c, X.env.cells.lookup x = some c → c ≠ b) ∧ ∀ p ∈ X.pn ++ pins, p.1 ≠ b) : Inv X pins σ H' s' := by
  obtain ⟨h', g', d', t', o'⟩ := s'
  have e : o' = s.os := ho
  subst e
  exact I.call (g' := g') (t' := t') (d' := d') u hok hg hch
end

/-! ### the judgements -/
/-- an exception: its class, its own dict's address (where it has one), the abstract heap behind it -/
abbrev XK := Value → Option Addr → Hp → Prop
abbrev St := List (Option V)
abbrev VK := V → Hp → Prop
/-- an expression's reading; a test's; an argument list's -/
abbrev TE := St → Hp → VK → Prop
abbrev TT := St → Hp → (Bool → Hp → Prop) → Prop
abbrev TA := St → Hp → (List V → Hp → Prop) → Prop
/-- what is wanted behind a statement -/
structure Ends where
  nx : St → Hp → Prop
  rt : VK
  bk : St → Hp → Prop := fun _ _ => False
  ct : St → Hp → Prop := fun _ _ => False
abbrev TS := Ends → St → Hp → Prop

def EP (X : Cx) (pins : List (Addr × Obj)) (σ : St) (Q : VK) (u : Value) (s' : Shared) : Prop := ∃ v H', Inv X pins σ H' s' ∧ RelV v u ∧ Q v H'
def TP (X : Cx) (pins : List (Addr × Obj)) (σ : St) (Q : Bool → Hp → Prop) (b : Bool) (s' : Shared) : Prop := ∃ H', Inv X pins σ H' s' ∧ Q b H'
def AP (X : Cx) (pins : List (Addr × Obj)) (σ : St) (Q : List V → Hp → Prop) (us : List Value) (s' : Shared) : Prop := ∃ vs H', Inv X pins σ H' s' ∧ Vals vs us ∧ Q vs H'
def SP (X : Cx) (pins : List (Addr × Obj)) (D : Ends) (f : Flow) (s' : Shared) : Prop :=
  match f with
  | .next => ∃ σ' H', Inv X pins σ' H' s' ∧ D.nx σ' H'
  | .brk => ∃ σ' H', Inv X pins σ' H' s' ∧ D.bk σ' H'
  | .cont => ∃ σ' H', Inv X pins σ' H' s' ∧ D.ct σ' H'
  | .ret u => ∃ v σ' H', Inv X pins σ' H' s' ∧ RelV v u ∧ D.rt v H'

def PE (X : Cx) (e : Expr) (t : TE) : Prop :=
  ∀ (pins : List (Addr × Obj)) (s : Shared) (σ : St) (H : Hp) (Q : VK), Inv X pins σ H s → t σ H Q → wpAny (model X.prog X.w) X.A (eval e X.env) (EP X pins σ Q) X.xe s
def PT (X : Cx) (e : Expr) (t : TT) : Prop :=
  ∀ (pins : List (Addr × Obj)) (s : Shared) (σ : St) (H : Hp) (Q : Bool → Hp → Prop), Inv X pins σ H s → t σ H Q → wpAny (model X.prog X.w) X.A (isTrue e X.env (eval e X.env)) (TP X pins σ Q) X.xe s
/-- a test whatever its 'whole' is (and, or) -/
def PW (X : Cx) (e : Expr) (t : TT) : Prop :=
  ∀ (whole : Sem Value) (pins : List (Addr × Obj)) (s : Shared) (σ : St) (H : Hp) (Q : Bool → Hp → Prop), Inv X pins σ H s → t σ H Q → wpAny (model X.prog X.w) X.A (isTrue e X.env whole) (TP X pins σ Q) X.xe s
theorem PW.pt {X : Cx} {e : Expr} {t : TT} (h : PW X e t) : PT X e t := h _
/-- an argument list (no star), from the left -/
def PA (X : Cx) (es : List Expr) (t : TA) : Prop :=
  ∀ (pos : Pos) (pins : List (Addr × Obj)) (s : Shared) (σ : St) (H : Hp) (Q : List V → Hp → Prop), Inv X pins σ H s → t σ H Q → wpAny (model X.prog X.w) X.A (spliced (backTo pos (starEach es X.env))) (AP X pins σ Q) X.xe s
def PS (X : Cx) (st : Stmt) (t : TS) : Prop :=
  ∀ (pins : List (Addr × Obj)) (s : Shared) (σ : St) (H : Hp) (D : Ends), Inv X pins σ H s → t D σ H → wpAny (model X.prog X.w) X.A (exec st X.env) (SP X pins D) X.xe s
def PSs (X : Cx) (st : List Stmt) (t : TS) : Prop :=
  ∀ (pins : List (Addr × Obj)) (s : Shared) (σ : St) (H : Hp) (D : Ends), Inv X pins σ H s → t D σ H → wpAny (model X.prog X.w) X.A (execs st X.env) (SP X pins D) X.xe s
/-- weaken the end -/
theorem thn {α : Type} {t : Sem α} {Q Q' : α → Shared → Prop} {M : Model} {A : Around} {E : Value → Shared → Prop} {s : Shared} (h : wpAny M A t Q E s) (hQ : ∀ a s, Q a s → Q' a s) : wpAny M A t Q' E s := wpAny_mono h hQ fun _ _ x => x
end L2

namespace L2
open PySem PySem.Spec PyProof.Rows
section
variable {X : Cx}

/-! ### names and constants -/
def tVar (i : Nat) : TE := fun σ H Q => ∃ v, σ[i]? = some (some v) ∧ Q v H
def tC (v : V) : TE := fun _ H Q => Q v H
theorem pe_var {i : Nat} {x : Str} {pos : Pos} (hN : X.N[i]? = some x) (hv : Vis X.env.scope x) (hd : (x == ("__debug__" : Str)) = false := by decide) (hcd : (x == ("__classdict__" : Str)) = false := by decide) : PE X (.Name x pos) (tVar i) := by
  intro pins s σ H Q I h
  obtain ⟨v, e, h⟩ := h
  obtain ⟨m, hn, hl⟩ := I.loc
  obtain ⟨u, r, l⟩ := hl i x v hN e hv
  have fin : EP X pins σ Q u s := ⟨v, H, I, r, h⟩
  rcases l with ⟨hk, hm⟩ | ⟨hk, c, hc, hcell⟩
  · exact wpAny_Name (wpAny_loadName_local I.ok.kind hk hn hm fin) hd
  · rcases hk with hk | hk
    · exact wpAny_Name (wpAny_loadName_cell I.ok.kind hk hc hcell fin) hd
    · exact wpAny_Name (wpAny_loadName_free I.ok.kind hk hc hcell fin hcd) hd
theorem pe_int {i j pos} : PE X (.Constant (.int i) j pos) (tC (.int i)) := fun _ _ _ H _ I h => wpAny_Constant_int ⟨.int i, H, I.tok _, ⟨_, rfl⟩, h⟩
theorem pe_bl {b j pos} : PE X (.Constant (.bool b) j pos) (tC (.bl b)) := fun _ _ _ H _ I h => Constant_bool ⟨.bl b, H, I, rfl, h⟩
theorem pe_non {j pos} : PE X (.Constant .none j pos) (tC .non) := fun _ _ _ H _ I h => Constant_none ⟨.non, H, I, rfl, h⟩
theorem pe_str {x j pos} : PE X (.Constant (.str x) j pos) (tC (.str x)) := fun _ _ _ H _ I h => Calls.Constant_str ⟨.str x, H, I.tok _, ⟨_, rfl⟩, h⟩

/-- a global name of the def -/
def Gl (X : Cx) (x : Str) : Prop := X.env.kindOf x = some .globalImplicit
theorem ld_glob {E : Value → Shared → Prop} {pins : List (Addr × Obj)} {s : Shared} {σ : St} {H : Hp} {x : Str} {u : Value} {pos : Pos} {Q : Value → Shared → Prop} (I : Inv X pins σ H s) (hg : Gl X x) (hm : X.mg x = some u) (h : Q u s)
    (hd : (x == ("__debug__" : Str)) = false := by decide) : wpAny (model X.prog X.w) X.A (eval (.Name x pos) X.env) Q E s :=
  Calls.Name_function_global I.ok.kind hg (Calls.loadGlobal_global (by rw [I.ok.glob]; exact I.mod.glob.keeps I.bk) hm h) hd
theorem ld_blt {E : Value → Shared → Prop} {pins : List (Addr × Obj)} {s : Shared} {σ : St} {H : Hp} {x : Str} {u : Value} {pos : Pos} {Q : Value → Shared → Prop} (I : Inv X pins σ H s) (hg : Gl X x) (hm : X.mg x = none) (hv : bootBuiltins x = some u) (h : Q u s)
    (hn : x ≠ "__name__" := by decide) (hd : (x == ("__debug__" : Str)) = false := by decide) : wpAny (model X.prog X.w) X.A (eval (.Name x pos) X.env) Q E s := by
  obtain ⟨mb, h1, h2⟩ := I.mod.blt
  exact Calls.Name_function_global I.ok.kind hg (Calls.loadGlobal_builtin (by rw [I.ok.glob]; exact I.mod.glob.keeps I.bk) hm (by rw [I.ok.blt]; exact h1.keeps I.bk) ((h2 x hn).trans hv) h) hd
/-- a module's constant, a class, a function, as a value -/
theorem pe_glob {x : Str} {v : V} {u : Value} {pos : Pos} (hg : Gl X x) (hm : X.mg x = some u) (r : RelV v u) (hd : (x == ("__debug__" : Str)) = false := by decide) : PE X (.Name x pos) (tC v) :=
  fun _ _ _ H _ I h => ld_glob I hg hm ⟨v, H, I, r, h⟩ hd
/-! ### arithmetic -/
/-- two ints -/
def t2I (ta tb : TE) (k : Int → Int → Hp → Prop) : St → Hp → Prop := fun σ H => ta σ H fun x H1 => tb σ H1 fun y H2 => ∃ i j, x = .int i ∧ y = .int j ∧ k i j H2
def tAdd (ta tb : TE) : TE := fun σ H Q => t2I ta tb (fun i j H2 => Q (.int (i + j)) H2) σ H
def tSub (ta tb : TE) : TE := fun σ H Q => t2I ta tb (fun i j H2 => Q (.int (i - j)) H2) σ H
/-- the left factor below 2^64 -/
def tMul (ta tb : TE) : TE := fun σ H Q => t2I ta tb (fun i j H2 => (-(2 ^ 64) < i ∧ i < 2 ^ 64) ∧ Q (.int (i * j)) H2) σ H
variable {a b : Expr} {ta tb : TE} {pos : Pos}
/-! ### comparisons -/
def PC (X : Cx) (op : CmpOp) (a b : Expr) (t : TE) : Prop :=
  ∀ (pins : List (Addr × Obj)) (s : Shared) (σ : St) (H : Hp) (Q : VK), Inv X pins σ H s → t σ H Q →
    wpAny (model X.prog X.w) X.A (eval a X.env) (fun v s₁ => wpAny (model X.prog X.w) X.A (eval b X.env) (fun u s₂ => wpAny (model X.prog X.w) X.A (compareOp op v u) (EP X pins σ Q) X.xe s₂) X.xe s₁) X.xe s
def tCmp (p : Int → Int → Bool) (ta tb : TE) : TE := fun σ H Q => t2I ta tb (fun i j H2 => Q (.bl (p i j)) H2) σ H
abbrev tLt : TE → TE → TE := tCmp fun i j => decide (i < j)
abbrev tLe : TE → TE → TE := tCmp fun i j => decide (i ≤ j)
abbrev tGt : TE → TE → TE := tCmp fun i j => decide (j < i)
abbrev tGe : TE → TE → TE := tCmp fun i j => decide (j ≤ i)
abbrev tEqI : TE → TE → TE := tCmp fun i j => decide (i = j)
abbrev tNeI : TE → TE → TE := tCmp fun i j => !decide (i = j)
/-- is None -/
def tIsN (ta : TE) : TE := fun σ H Q => ta σ H fun x H1 => Q (.bl (decide (x = .non))) H1
def tNotN (ta : TE) : TE := fun σ H Q => ta σ H fun x H1 => Q (.bl (!decide (x = .non))) H1
/-- a comparison as a value, as a test -/
def tB (t : TE) : TT := fun σ H Q => t σ H fun x H1 => ∃ c, x = .bl c ∧ Q c H1
/-- an expression whose value is a bool, as a test -/
theorem pt_val {e : Expr} {t : TE} (h : PE X e t) (he : ∀ whole, isTrue e X.env whole = (do let v ← whole; standAt e.pos; holding [v] (truthy v)) := by intro _; rfl) : PT X e (tB t) := by
  intro pins s σ H Q I hw
  refine isTrue_plain (thn (h pins s σ H _ I hw) fun v s1 ⟨x, H1, I1, r1, q1⟩ => ?_) (he _)
  obtain ⟨d, rfl, q⟩ := q1
  cases r1
  exact wpAny_truthy_bool ⟨H1, I1, q⟩

/-! ### and, or, not -/
variable {tA tB' : TT} {rest : List Expr}
def tAnd (t u : TT) : TT := fun σ H Q => t σ H fun c H1 => if c = true then u σ H1 Q else Q false H1
def tOr (t u : TT) : TT := fun σ H Q => t σ H fun c H1 => if c = true then Q true H1 else u σ H1 Q
def tNot (t : TT) : TT := fun σ H Q => t σ H fun c H1 => Q (!c) H1
theorem pw_and1 (ha : PT X a tA) : PW X (.BoolOp .And [a] pos) tA := by
  intro wh pins s σ H Q I h
  refine isTrue_and (thn (ha pins s σ H Q I h) fun c s1 e => ?_)
  cases c with
  | true => exact isTrue_and_nil e
  | false => exact e
theorem pw_or1 (ha : PT X a tA) : PW X (.BoolOp .Or [a] pos) tA := by
  intro wh pins s σ H Q I h
  refine isTrue_or (thn (ha pins s σ H Q I h) fun c s1 e => ?_)
  cases c with
  | false => exact isTrue_or_nil e
  | true => exact e
theorem pw_and (ha : PT X a tA) (hb : PW X (.BoolOp .And (b :: rest) pos) tB') : PW X (.BoolOp .And (a :: b :: rest) pos) (tAnd tA tB') := by
  intro wh pins s σ H Q I h
  refine isTrue_and (thn (ha pins s σ H _ I h) fun c s1 ⟨H1, I1, q1⟩ => ?_)
  cases c with
  | true => exact hb wh pins s1 σ H1 Q I1 q1
  | false => exact ⟨H1, I1, q1⟩
theorem pw_or (ha : PT X a tA) (hb : PW X (.BoolOp .Or (b :: rest) pos) tB') : PW X (.BoolOp .Or (a :: b :: rest) pos) (tOr tA tB') := by
  intro wh pins s σ H Q I h
  refine isTrue_or (thn (ha pins s σ H _ I h) fun c s1 ⟨H1, I1, q1⟩ => ?_)
  cases c with
  | true => exact ⟨H1, I1, q1⟩
  | false => exact hb wh pins s1 σ H1 Q I1 q1
theorem pt_not (ha : PT X a tA) : PT X (.UnaryOp .Not a pos) (tNot tA) := by
  intro pins s σ H Q I h
  exact isTrue_not (ha pins s σ H (fun c H1 => Q (!c) H1) I h)
/-- .. as values (bools) -/
def tAndV (ta tb : TE) : TE := fun σ H Q => ta σ H fun x H1 => ∃ c, x = .bl c ∧ if c = true then tb σ H1 Q else Q (.bl false) H1
def tOrV (ta tb : TE) : TE := fun σ H Q => ta σ H fun x H1 => ∃ c, x = .bl c ∧ if c = true then Q (.bl true) H1 else tb σ H1 Q
def tNotV (ta : TE) : TE := fun σ H Q => ta σ H fun x H1 => ∃ c, x = .bl c ∧ Q (.bl (!c)) H1
theorem pe_one {op} {t : TE} (h : PE X a t) : PE X (.BoolOp op [a] pos) t := fun pins s σ H Q I hw => BoolOp_one (h pins s σ H Q I hw)
theorem pe_and (ha : PE X a ta) (hb : PE X (.BoolOp .And (b :: rest) pos) tb) : PE X (.BoolOp .And (a :: b :: rest) pos) (tAndV ta tb) := by
  intro pins s σ H Q I h
  refine BoolOp_and (thn (ha pins s σ H _ I h) fun v s1 ⟨x, H1, I1, r1, q1⟩ => ?_)
  obtain ⟨c, rfl, q1⟩ := q1
  cases r1
  refine wpAny_truthy_bool ?_
  cases c with
  | true => exact hb pins s1 σ H1 Q I1 q1
  | false => exact ⟨.bl false, H1, I1, rfl, q1⟩
theorem pe_or (ha : PE X a ta) (hb : PE X (.BoolOp .Or (b :: rest) pos) tb) : PE X (.BoolOp .Or (a :: b :: rest) pos) (tOrV ta tb) := by
  intro pins s σ H Q I h
  refine BoolOp_or (thn (ha pins s σ H _ I h) fun v s1 ⟨x, H1, I1, r1, q1⟩ => ?_)
  obtain ⟨c, rfl, q1⟩ := q1
  cases r1
  refine wpAny_truthy_bool ?_
  cases c with
  | false => exact hb pins s1 σ H1 Q I1 q1
  | true => exact ⟨.bl true, H1, I1, rfl, q1⟩
theorem pe_not (ha : PE X a ta) : PE X (.UnaryOp .Not a pos) (tNotV ta) := by
  intro pins s σ H Q I h
  refine UnaryOp_ (thn (ha pins s σ H _ I h) fun v s1 ⟨x, H1, I1, r1, q1⟩ => ?_)
  obtain ⟨c, rfl, q1⟩ := q1
  cases r1
  exact not_of (wpAny_truthy_bool ⟨.bl (!c), H1, I1, rfl, q1⟩)
/-- a if t else b -/
def tIf (t : TT) (ta tb : TE) : TE := fun σ H Q => t σ H fun c H1 => if c = true then ta σ H1 Q else tb σ H1 Q
theorem pe_ifExp {c : Expr} (hc : PT X c tA) (ha : PE X a ta) (hb : PE X b tb) : PE X (.IfExp c a b pos) (tIf tA ta tb) := by
  intro pins s σ H Q I h
  refine wpAny_IfExp (thn (hc pins s σ H _ I h) fun d s1 ⟨H1, I1, q1⟩ => ?_)
  cases d with
  | true => exact ha pins s1 σ H1 Q I1 q1
  | false => exact hb pins s1 σ H1 Q I1 q1
end
end L2

namespace L2
open PySem PySem.Spec PyProof.Rows

/-! ### a list, a tuple that is read: tracked, frozen, or an object of the module -/
def SqL (K : PySem.W.Frag) (H : Hp) (a : Addr) (xs : List V) : Prop :=
  Rd H a (.lst xs) ∨
    ∃ (o : Obj) (its : Array Value) (n : Nat), K.lookup a = some o ∧ o.cls = .type "list" ∧ o.dict = none ∧ o.data = .seq its n ∧ its.size ≤ sizeLine ∧ Vals xs its.toList
def SqT (K : PySem.W.Frag) (H : Hp) (a : Addr) (xs : List V) : Prop :=
  Rd H a (.tup xs) ∨
    ∃ (o : Obj) (its : Array Value) (n : Nat), K.lookup a = some o ∧ o.cls = .type "tuple" ∧ o.data = .seq its n ∧ its.size ≤ sizeLine ∧ Vals xs its.toList
def absV : Value → Option V
  | .none => some .non
  | .bool b => some (.bl b)
  | .int i _ => some (.int i)
  | .str x _ => some (.str x)
  | .bytes b _ => some (.byt b)
  | .float b _ => some (.flt b)
  | .ref a => some (.ref a)
  | .type n => some (.ty n)
  | _ => none
theorem RelV.abs {x : V} {u : Value} (r : RelV x u) : absV u = some x := by
  cases x with
  | non => cases r; rfl
  | bl _ => cases r; rfl
  | int _ => obtain ⟨t, rfl⟩ := r; rfl
  | str _ => obtain ⟨t, rfl⟩ := r; rfl
  | byt _ => obtain ⟨t, rfl⟩ := r; rfl
  | flt _ => obtain ⟨t, rfl⟩ := r; rfl
  | ref _ => cases r; rfl
  | ty _ => cases r; rfl
theorem RelV.inj {x y : V} {u : Value} (r : RelV x u) (q : RelV y u) : x = y := Option.some.inj (r.abs.symm.trans q.abs)
theorem Vals.inj : ∀ {xs ys : List V} {us : List Value}, Vals xs us → Vals ys us → xs = ys
  | _, _, _, .nil, .nil => rfl
  | _, _, _, .cons r t, .cons r' t' => by rw [r.inj r', Vals.inj t t']
section
variable {X : Cx} {pins : List (Addr × Obj)} {σ : St} {H : Hp} {s : Shared} {a : Addr} {xs ys : List V}
theorem SqL.of {K : PySem.W.Frag} (h : H a = some (.lst xs)) : SqL K H a xs := .inl (.inl h)
theorem SqT.of {K : PySem.W.Frag} (h : H a = some (.tup xs)) : SqT K H a xs := .inl (.inl h)
theorem Inv.list (I : Inv X pins σ H s) (h : SqL X.K H a xs) : ∃ its : List Value, Vals xs its ∧ PlainL s.heap a its.toArray ∧ xs.length ≤ sizeLine := by
  rcases h with h | ⟨o, its, n, hk, hc, hd, hs, hz, r⟩
  · obtain ⟨z, its, n, r, e⟩ := h.ok I.hok
    exact ⟨its, r, ⟨_, n, e, rfl, rfl, rfl⟩, z⟩
  · refine ⟨its.toList, r, ⟨o, n, I.kIn a o hk, hc, hd, by simpa using hs⟩, ?_⟩
    have e := r.length
    simp only [Array.length_toList] at e
    omega
theorem Inv.tuple (I : Inv X pins σ H s) (h : SqT X.K H a xs) : ∃ its : List Value, Vals xs its ∧ IsTup s.heap a its.toArray ∧ xs.length ≤ sizeLine := by
  rcases h with h | ⟨o, its, n, hk, hc, hs, hz, r⟩
  · obtain ⟨z, its, r, p⟩ := h.ok I.hok
    exact ⟨its, r, p, z⟩
  · refine ⟨its.toList, r, ⟨o, I.kIn a o hk, hc, n, by simpa using hs⟩, ?_⟩
    have e := r.length
    simp only [Array.length_toList] at e
    omega
theorem Inv.list_inj (I : Inv X pins σ H s) (h : SqL X.K H a xs) (h' : SqL X.K H a ys) : xs = ys := by
  obtain ⟨its, r, ⟨o, n, e, _, _, d⟩, _⟩ := I.list h
  obtain ⟨its', r', ⟨o', n', e', _, _, d'⟩, _⟩ := I.list h'
  rw [e] at e'; cases e'
  rw [d] at d'
  injection d' with d1 _
  have : its = its' := by simpa using congrArg Array.toList d1
  subst this
  exact r.inj r'
end

/-! ### another wish about exceptions -/
abbrev Cx.wish (X : Cx) (E : Value → Shared → Prop) : Cx := { X with xe := E }
/-- no exception leaves -/
abbrev Cx.nox (X : Cx) : Cx := X.wish fun _ _ => False
theorem Cx.Ok.wish {X : Cx} (ok : X.Ok) (E : Value → Shared → Prop) : (X.wish E).Ok :=
  ⟨ok.mod, ok.kind, ok.glob, ok.blt, ok.above, ok.inj, ok.has, ok.cab, ok.hd, ok.frames, ok.stk, ok.exf, ok.bs, ok.bsz, ok.noex, ok.exfs, ok.funs, ok.frf⟩
theorem Cx.Ok.unwish {X : Cx} {E : Value → Shared → Prop} (ok : (X.wish E).Ok) : X.Ok :=
  ⟨ok.mod, ok.kind, ok.glob, ok.blt, ok.above, ok.inj, ok.has, ok.cab, ok.hd, ok.frames, ok.stk, ok.exf, ok.bs, ok.bsz, ok.noex, ok.exfs, ok.funs, ok.frf⟩
section
variable {X : Cx} {pins : List (Addr × Obj)} {σ : St} {H : Hp} {s : Shared} {E : Value → Shared → Prop}
theorem Inv.wish (I : Inv X pins σ H s) (E : Value → Shared → Prop) : Inv (X.wish E) pins σ H s := ⟨I.ok.wish E, I.os, I.bare, I.base, I.loc, I.cell, I.free, I.freeC, I.pin, I.hok, I.len⟩
theorem Inv.unwish (I : Inv (X.wish E) pins σ H s) : Inv X pins σ H s := ⟨I.ok.unwish, I.os, I.bare, I.base, I.loc, I.cell, I.free, I.freeC, I.pin, I.hok, I.len⟩
theorem SP.unwish {D : Ends} {f : Flow} {s' : Shared} (h : SP (X.wish E) pins D f s') : SP X pins D f s' := by
  cases f with
  | next => obtain ⟨σ', H', I, q⟩ := h; exact ⟨σ', H', I.unwish, q⟩
  | brk => obtain ⟨σ', H', I, q⟩ := h; exact ⟨σ', H', I.unwish, q⟩
  | cont => obtain ⟨σ', H', I, q⟩ := h; exact ⟨σ', H', I.unwish, q⟩
  | ret u => obtain ⟨v, σ', H', I, r, q⟩ := h; exact ⟨v, σ', H', I.unwish, r, q⟩
theorem PE.nox {e : Expr} {t : TE} (h : PE X.nox e t) : PE X e t := fun pins s σ H Q I hw =>
  wpAny_mono (h pins s σ H Q (I.wish _) hw) (fun _ _ ⟨v, H', I', r, q⟩ => ⟨v, H', I'.unwish, r, q⟩) fun _ _ z => False.elim z
theorem PT.nox {e : Expr} {t : TT} (h : PT X.nox e t) : PT X e t := fun pins s σ H Q I hw =>
  wpAny_mono (h pins s σ H Q (I.wish _) hw) (fun _ _ ⟨H', I', q⟩ => ⟨H', I'.unwish, q⟩) fun _ _ z => False.elim z
theorem PSs.nox {st : List Stmt} {t : TS} (h : PSs X.nox st t) : PSs X st t := fun pins s σ H D I hw =>
  wpAny_mono (h pins s σ H D (I.wish _) hw) (fun _ _ q => q.unwish) fun _ _ z => False.elim z
end

/-! ### blocks and small statements -/
section
variable {X : Cx} {st : Stmt} {rest : List Stmt} {t u : TS} {e : Expr} {te : TE} {pos : Pos}
def tNext : TS := fun D σ H => D.nx σ H
def tSeq (t u : TS) : TS := fun D σ H => t { D with nx := u D } σ H
theorem pss_nil : PSs X [] tNext := fun _ _ σ H _ I h => wpAny_execs_nil ⟨σ, H, I, h⟩
theorem pss_cons (h1 : PS X st t) (h2 : PSs X rest u) : PSs X (st :: rest) (tSeq t u) := by
  intro pins s σ H D I h
  refine wpAny_execs_cons (thn (h1 pins s σ H { D with nx := u D } I h) fun f s1 q => ?_)
  cases f with
  | next =>
    obtain ⟨σ', H', I', q⟩ := q
    exact h2 pins s1 σ' H' D I' q
  | ret v => exact q
  | brk => exact q
  | cont => exact q
theorem pss_one (h1 : PS X st t) : PSs X [st] t := by
  intro pins s σ H D I h
  refine wpAny_execs_cons (thn (h1 pins s σ H D I h) fun f s1 q => ?_)
  cases f with
  | next => exact wpAny_execs_nil q
  | ret v => exact q
  | brk => exact q
  | cont => exact q
def tBreak : TS := fun D σ H => D.bk σ H
def tCont : TS := fun D σ H => D.ct σ H
/-- in a def's body nothing is shown -/
theorem Inv.quiet {pins : List (Addr × Obj)} {σ : St} {H : Hp} {s : Shared} (I : Inv X pins σ H s) : interactive X.env = false := by simp [interactive, I.ok.kind]
/-- an expression whose value is dropped -/
def tDrop (te : TE) : TS := fun D σ H => te σ H fun _ H1 => D.nx σ H1
theorem ps_expr (he : PE X e te) (hs : swapsWith e none pos.line X.env = pure false := by rfl) : PS X (.Expr e pos) (tDrop te) := by
  intro pins s σ H D I h
  exact wpAny_Expr_any (thn (he pins s σ H _ I h) fun v s1 ⟨x, H1, I1, r1, q1⟩ => ⟨σ, H1, I1, q1⟩) I.quiet hs
def tRet (te : TE) : TS := fun D σ H => te σ H D.rt
theorem ps_ret (he : PE X e te) : PS X (.Return (some e) pos) (tRet te) := by
  intro pins s σ H D I h
  exact wpAny_Return_some (thn (he pins s σ H _ I h) fun v s1 ⟨x, H1, I1, r1, q1⟩ => ⟨x, σ, H1, I1, r1, q1⟩)
def tRetN : TS := fun D _ H => D.rt .non H
def tIfS (c : TT) (t u : TS) : TS := fun D σ H => c σ H fun b H1 => if b = true then t D σ H1 else u D σ H1
theorem ps_if {c : Expr} {a b : List Stmt} {tc : TT} (hc : PT X c tc) (ha : PSs X a t) (hb : PSs X b u) : PS X (.If c a b pos) (tIfS tc t u) := by
  intro pins s σ H D I h
  refine wpAny_If (thn (hc pins s σ H _ I h) fun d s1 ⟨H1, I1, q1⟩ => ?_)
  cases d with
  | true => exact ha pins s1 σ H1 D I1 q1
  | false => exact hb pins s1 σ H1 D I1 q1
/-- code that the proof never comes to -/
def tNever : TS := fun _ _ _ => False
end

/-! ### targets -/
abbrev TG := V → St → Hp → (St → Hp → Prop) → Prop
abbrev TGs := List V → St → Hp → (St → Hp → Prop) → Prop
def PG (X : Cx) (target : Expr) (t : TG) : Prop :=
  ∀ (pins : List (Addr × Obj)) (s : Shared) (σ : St) (H : Hp) (v : V) (u : Value) (Q : St → Hp → Prop), Inv X pins σ H s → RelV v u → t v σ H Q →
    wpAny (model X.prog X.w) X.A (assign target X.env u) (fun _ s' => ∃ σ' H', Inv X pins σ' H' s' ∧ Q σ' H') X.xe s
/-- several targets, one after another -/
def PGs (X : Cx) (ts : List Expr) (t : TGs) : Prop :=
  ∀ (pins : List (Addr × Obj)) (s : Shared) (σ : St) (H : Hp) (vs : List V) (us : List Value) (Q : St → Hp → Prop), Inv X pins σ H s → Vals vs us → t vs σ H Q →
    wpAny (model X.prog X.w) X.A (assignInOrder ((assignEach ts X.env).map (·.2)) us) (fun _ s' => ∃ σ' H', Inv X pins σ' H' s' ∧ Q σ' H') X.xe s
/-- o[i] = v, by values -/
abbrev TSet := V → V → V → Hp → (Hp → Prop) → Prop
def PSet (X : Cx) (t : TSet) : Prop :=
  ∀ (pins : List (Addr × Obj)) (s : Shared) (σ : St) (H : Hp) (o i v : V) (ov iv u : Value) (Q : Hp → Prop), Inv X pins σ H s → RelV o ov → RelV i iv → RelV v u → t o i v H Q →
    wpAny (model X.prog X.w) X.A (setItem ov iv u) (fun _ s' => ∃ H', Inv X pins σ H' s' ∧ Q H') X.xe s
/-- a op= b, by values -/
abbrev TIp := V → V → Hp → VK → Prop
def PIp (X : Cx) (op : Operator) (t : TIp) : Prop :=
  ∀ (pins : List (Addr × Obj)) (s : Shared) (σ : St) (H : Hp) (x y : V) (v u : Value) (Q : VK), Inv X pins σ H s → RelV x v → RelV y u → t x y H Q →
    wpAny (model X.prog X.w) X.A (inplaceOp op v u) (EP X pins σ Q) X.xe s
section
variable {X : Cx} {pos : Pos}
def gName (i : Nat) : TG := fun v σ H Q => Q (σ.set i (some v)) H
theorem pg_name {i : Nat} {x : Str} (hN : X.N.Nodup) (hi : X.N[i]? = some x) (hx : Loc X.env.scope x) (hf : X.fn x = true ∨ X.env.scope.names.lookup x = some .local := by first | exact .inl rfl | exact .inr rfl | assumption) : PG X (.Name x pos) (gName i) := by
  intro pins s σ H v u Q I r h
  exact wpAny_assign_Name (store_ok I hN hi hx r (fun s' I' => ⟨_, H, I', h⟩) hf)
def gNil : TGs := fun vs σ H Q => vs = [] ∧ Q σ H
def gCons (t : TG) (u : TGs) : TGs := fun vs σ H Q => ∃ v r, vs = v :: r ∧ t v σ H fun σ' H' => u r σ' H' Q
theorem pgs_nil : PGs X [] gNil := by
  intro pins s σ H vs us Q I r h
  obtain ⟨e, h⟩ := h
  subst e
  cases r
  exact assignInOrder_nil ⟨σ, H, I, h⟩
theorem pgs_cons {e : Expr} {es : List Expr} {t : TG} {u : TGs} (h1 : PG X e t) (h2 : PGs X es u)
    (hs : (assignEach (e :: es) X.env).map (·.2) = assign e X.env :: (assignEach es X.env).map (·.2) := by rfl) : PGs X (e :: es) (gCons t u) := by
  intro pins s σ H vs us Q I r h
  obtain ⟨v, vr, e1, h⟩ := h
  subst e1
  cases r with
  | cons r rr =>
    rw [hs]
    refine assignInOrder_cons (thn (h1 pins s σ H _ _ _ I r h) fun _ s1 ⟨σ1, H1, I1, q1⟩ => ?_)
    exact h2 pins s1 σ1 H1 _ _ Q I1 rr q1
/-- (a, b, ..) = a tuple of that length -/
def gTup (K : PySem.W.Frag) (n : Nat) (t : TGs) : TG := fun v σ H Q => ∃ a xs, v = .ref a ∧ SqT K H a xs ∧ xs.length = n ∧ t xs σ H Q
theorem pg_tup {es : List Expr} {k : Nat} {t : TGs} {n : Nat} (hc : X.calm = true) (h : PGs X es t)
    (hn : (assignEach es X.env).length = n := by rfl) (hst : (assignEach es X.env).findIdx? (·.1) = none := by rfl) : PG X (.Tuple es k pos) (gTup X.K n t) := by
  intro pins s σ H v u Q I r hw
  obtain ⟨a, xs, e1, hq, hl, hw⟩ := hw
  subst e1
  cases r
  obtain ⟨its, rv, ht, hz⟩ := I.tuple hq
  refine assign_Tuple_tuple (I.ok.hd hc) ht (by simp [hn, ← hl, rv.length]) hst fun h' hx => ?_
  have I1 : Inv X pins σ H { s with heap := h' } := I.kept (t' := s.toks) fun b o e => hx b o (Nat.ne_of_lt (Heap.lt_size e)) e
  exact h pins _ σ H xs _ Q I1 (by simpa using rv) hw
/-- o[i] = .. -/
def gSub (to ti : TE) (t : TSet) : TG := fun v σ H Q => to σ H fun o H1 => ti σ H1 fun i H2 => t o i v H2 fun H3 => Q σ H3
/-- target = value -/
def tAsg (te : TE) (g : TG) : TS := fun D σ H => te σ H fun x H1 => g x σ H1 D.nx
/-- name = value -/
theorem ps_set {i : Nat} {x : Str} {e : Expr} {te : TE} {pos' : Pos} (hN : X.N.Nodup) (hi : X.N[i]? = some x) (hx : Loc X.env.scope x) (he : PE X e te) (hs : swapsWith e (some (.Name x pos')) pos.line X.env = pure false := by rfl) (hf : X.fn x = true ∨ X.env.scope.names.lookup x = some .local := by first | exact .inl rfl | exact .inr rfl | assumption) :
    PS X (.Assign [.Name x pos'] e pos) (tAsg te (gName i)) := by
  intro pins s σ H D I h
  refine wpAny_Assign_Name (thn (he pins s σ H _ I h) fun v s1 ⟨y, H1, I1, r1, q1⟩ => ?_) hs
  exact store_ok I1 hN hi hx r1 (fun s2 I2 => ⟨_, H1, I2, q1⟩) hf
/-- a, b = x, y with plain local names: stored from the right; the pair itself is not tracked (the opening rows as in PyProof/Rows/TupAssign.lean:23) -/
def tPar (i j : Nat) (ta : TA) : TS := fun D σ H => ta σ H fun vs H1 => ∃ v w, vs = [v, w] ∧ D.nx ((σ.set i (some v)).set j (some w)) H1
/-- name op= e -/
def tAug (i : Nat) (te : TE) (ti : TIp) : TS := fun D σ H => ∃ x, σ[i]? = some (some x) ∧ te σ H fun y H1 => ti x y H1 fun z H2 => D.nx (σ.set i (some z)) H2
/-- o[i] op= e -/
def tAugS (to ti te : TE) (tget : V → V → Hp → VK → Prop) (tip : TIp) (tset : TSet) : TS := fun D σ H => to σ H fun o H1 => ti σ H1 fun i H2 => tget o i H2 fun x H3 => te σ H3 fun y H4 => tip x y H4 fun z H5 => tset o i z H5 fun H6 => D.nx σ H6
/-- o[i], by values -/
def PGet (X : Cx) (t : V → V → Hp → VK → Prop) : Prop :=
  ∀ (pins : List (Addr × Obj)) (s : Shared) (σ : St) (H : Hp) (o i : V) (ov iv : Value) (Q : VK), Inv X pins σ H s → RelV o ov → RelV i iv → t o i H Q →
    wpAny (model X.prog X.w) X.A (getItem ov iv) (EP X pins σ Q) X.xe s
/-- ints -/
def ipI (f : Int → Int → Int) : TIp := fun x y H Q => ∃ i j, x = .int i ∧ y = .int j ∧ Q (.int (f i j)) H
end

/-! ### while -/
section
variable {X : Cx} {pos : Pos}
/-- the invariant W with its measure -/
def tWhile (c : TT) (tb : TS) : TS := fun D σ H => ∃ W : Nat → St → Hp → Prop, (∃ m, W m σ H) ∧ ∀ m σ H, W m σ H →
  c σ H fun b H1 => if b = true then ∃ N : St → Hp → Prop, (∀ σ' H', N σ' H' → ∃ m', m' < m ∧ W m' σ' H') ∧ tb { D with nx := N, ct := N, bk := D.nx } σ H1 else D.nx σ H1
theorem ps_while {c : Expr} {body : List Stmt} {tc : TT} {tb : TS} (hp : PassesOwn (model X.prog X.w) X.A X.env X.xe) (hc : PT X c tc) (hb : PSs X body tb) : PS X (.While c body [] pos) (tWhile tc tb) := by
  intro pins s σ H D I h
  obtain ⟨W, ⟨m0, w0⟩, turn⟩ := h
  refine wpAny_While (codeAny_whileLoop (fun n s' => ∃ σ' H', Inv X pins σ' H' s' ∧ W n σ' H') ?_ m0 ⟨σ, H, I, w0⟩)
  rintro n s1 ⟨σ1, H1, I1, w1⟩
  refine wpAny_passesOwn hp (thn (hc pins s1 σ1 H1 _ I1 (turn n σ1 H1 w1)) fun b s2 ⟨H2, I2, q2⟩ => ?_)
  cases b with
  | true =>
    obtain ⟨N, hN, q2⟩ := q2
    rw [if_pos rfl]
    refine wpAny_passesOwn hp (thn (hb pins s2 σ1 H2 _ I2 q2) fun f s3 q3 => ?_)
    cases f with
    | next =>
      obtain ⟨σ3, H3, I3, n3⟩ := q3
      obtain ⟨m', hm, w3⟩ := hN σ3 H3 n3
      exact ⟨m', hm, σ3, H3, I3, w3⟩
    | cont =>
      obtain ⟨σ3, H3, I3, n3⟩ := q3
      obtain ⟨m', hm, w3⟩ := hN σ3 H3 n3
      exact ⟨m', hm, σ3, H3, I3, w3⟩
    | brk => exact q3
    | ret v => exact q3
  | false =>
    rw [if_neg Bool.false_ne_true]
    exact wpAny_execs_nil ⟨σ1, H2, I2, q2⟩
end

/-! ### what a loop or a comprehension walks -/
/-- at turn i: it yields x (the heap may grow), or it stops -/
structure It where
  go : Nat → Hp → Prop
  yld : Nat → Hp → V → Hp → Prop
  stop : Nat → Hp → Prop
/-- the iterator's own objects may turn: they are not the frame's, not pinned, younger than the entry (or a comprehension's own) -/
def FpOk (X : Cx) (pins : List (Addr × Obj)) (H : Hp) (b : Addr) : Prop :=
  H b = none ∧ b ≠ X.env.locals ∧ b ∉ X.fs ∧ (b ∈ X.ex ∨ X.s_0.heap.objs.size ≤ b) ∧ (∀ x c, X.env.cells.lookup x = some c → c ≠ b) ∧ ∀ p ∈ X.pn ++ pins, p.1 ≠ b
theorem Inv.fpOk {X : Cx} {pins : List (Addr × Obj)} {σ : St} {H H' : Hp} {s : Shared} {b : Addr} (I : Inv X pins σ H s) (hb : s.heap.objs.size ≤ b) (hn : H' b = none) : FpOk X pins H' b := by
  refine ⟨hn, Nat.ne_of_gt (Nat.lt_of_lt_of_le I.lt hb), I.nofs hb, .inr (Nat.le_trans I.sz hb), fun x c e z => ?_, fun p hp z => ?_⟩
  · obtain ⟨v, q⟩ := I.cell x c e
    exact absurd (Nat.lt_of_lt_of_le q.lt (by rw [z]; exact hb)) (Nat.lt_irrefl _)
  · exact absurd (Nat.lt_of_lt_of_le (Heap.lt_size (I.pin p hp).1) (by rw [z]; exact hb)) (Nat.lt_irrefl _)
structure Turn (P : Program) (w : World) (K : PySem.W.Frag) (tg : Expr) (J : It) (fp : List Addr) (it : Addr) (tn : Nat → Heap → Prop) : Prop where
  mem : it ∈ fp
  obj : ∀ i h, tn i h → ∀ b ∈ fp, ∃ o, h.get? b = some o ∧ ∀ v, o.data ≠ .cell v
  keep : ∀ i h h', tn i h → (∀ b ∈ fp, ∀ o, h.get? b = some o → h'.get? b = some o) → tn i h'
  item : ∀ (X : Cx), X.prog = P → X.w = w → X.K = K → X.calm = true → ∀ (i : Nat) (pins : List (Addr × Obj)) (s : Shared) (σ : St) (H : Hp) (E : Value → Shared → Prop), Inv X pins σ H s → (∀ b ∈ fp, FpOk X pins H b) → tn i s.heap → J.go i H →
    wpAny (model P w) X.A (pyNext (.ref it)) (fun r s1 => ∃ u, r = some u ∧
      wpAny (model P w) X.A (letOwnedTupleGo tg (.ref it) u) (fun _ s2 => ∃ x H', Inv X pins σ H' s2 ∧ RelV x u ∧ J.yld i H x H' ∧ tn (i + 1) s2.heap ∧ ∀ b ∈ fp, H' b = none) E s1) E s
  done : ∀ (X : Cx), X.prog = P → X.w = w → X.K = K → X.calm = true → ∀ (i : Nat) (pins : List (Addr × Obj)) (s : Shared) (σ : St) (H : Hp) (E : Value → Shared → Prop), Inv X pins σ H s → (∀ b ∈ fp, FpOk X pins H b) → tn i s.heap → J.stop i H →
    wpAny (model P w) X.A (pyNext (.ref it)) (fun r s1 => r = none ∧ Inv X pins σ H s1) E s
  self : ∀ (A : Around) (i : Nat) (s : Shared) (Q : Value → Shared → Prop) (E : Value → Shared → Prop), tn i s.heap → Q (.ref it) s → wpAny (model P w) A (pyIter (.ref it)) Q E s
abbrev TI := St → Hp → (It → Hp → Prop) → Prop
/-- an iterator has come -/
def PIE (X : Cx) (pins : List (Addr × Obj)) (σ : St) (tg : Expr) (R : It → Hp → Prop) (itv : Value) (s2 : Shared) : Prop :=
  ∃ (it : Addr) (fp : List Addr) (tn : Nat → Heap → Prop) (J : It) (H' : Hp), itv = .ref it ∧ Inv X pins σ H' s2 ∧ Turn X.prog X.w X.K tg J fp it tn ∧ tn 0 s2.heap ∧ (∀ b ∈ fp, FpOk X pins H' b) ∧ R J H'
def PI (X : Cx) (tg iter : Expr) (wi : TI) : Prop :=
  ∀ (pins : List (Addr × Obj)) (s : Shared) (σ : St) (H : Hp) (R : It → Hp → Prop), Inv X pins σ H s → wi σ H R →
    wpAny (model X.prog X.w) X.A (eval iter X.env) (fun v s1 => wpAny (model X.prog X.w) X.A (pyIter v) (PIE X pins σ tg R) X.xe s1) X.xe s

/-- the step ahead of the store is nothing for an iterator that keeps no tuple -/
theorem go_of {M : Model} {A : Around} {E : Value → Shared → Prop} {s : Shared} {tg : Expr} {it : Addr} {u : Value} {o : Obj} {n : String} {vs : Array Value} {Q : Unit → Shared → Prop} (ho : s.heap.get? it = some o) (hc : o.cls = .type n) (hd : o.data = .fields vs)
    (hn : ["enumerate", "zip", "dict_itemiterator", "dict_reverseitemiterator", "odict_iterator", "itertools.zip_longest", "itertools.pairwise"].contains n = false) (hQ : Q () s) : wpAny M A (letOwnedTupleGo tg (.ref it) u) Q E s := by
  unfold letOwnedTupleGo
  cases tg <;> first
    | exact wpAny_pure hQ
    | (cases u <;> first
        | exact wpAny_pure hQ
        | (refine wpAny_bind (wpAny_load ho ?_)
           rw [hc, hd]
           show wpAny M A (if (["enumerate", "zip", "dict_itemiterator", "dict_reverseitemiterator", "odict_iterator", "itertools.zip_longest", "itertools.pairwise"].contains n && vs[0]? == some (rawInt _)) = true then _ else _) Q E s
           rw [if_neg (by intro h; rw [hn, Bool.false_and] at h; cases h)]
           exact wpAny_pure hQ))

/-- the list at a, as it stands at each turn (a loop may append to it) -/
def Itl (K : PySem.W.Frag) (a : Addr) : It :=
  ⟨fun i H => ∃ xs x, SqL K H a xs ∧ xs[i]? = some x, fun i H x H' => H' = H ∧ ∀ xs, SqL K H a xs → xs[i]? = some x, fun i H => ∃ xs, SqL K H a xs ∧ xs.length ≤ i⟩
def Itt (K : PySem.W.Frag) (a : Addr) : It :=
  ⟨fun i H => ∃ xs x, SqT K H a xs ∧ xs[i]? = some x, fun i H x H' => H' = H ∧ ∀ xs, SqT K H a xs → xs[i]? = some x, fun i H => ∃ xs, SqT K H a xs ∧ xs.length ≤ i⟩
/-- lo, lo + 1, .. (n of them) -/
def Itr (lo : Int) (n : Nat) : It := ⟨fun i _ => i < n, fun i H x H' => H' = H ∧ x = .int (lo + i), fun i _ => n ≤ i⟩
theorem turn_list {P : Program} {w : World} {K : PySem.W.Frag} {tg : Expr} (a it : Addr) : Turn P w K tg (Itl K a) [it] it (fun i h => h.IsListIter it a i) where
  mem := by simp
  obj := fun i h st b hb => by
    have e : b = it := by simpa using hb
    subst e
    obtain ⟨o, e, c, d⟩ := st
    exact ⟨o, e, fun v z => by rw [d] at z; cases z⟩
  keep := fun i h h' st k => st.at fun o e => k it (by simp) o e
  item := by
    intro X hP hw hK hc i pins s σ H E I hf st hg
    subst hP hw hK
    obtain ⟨xs, x, hq, hx⟩ := hg
    obtain ⟨its, rv, p, hz⟩ := I.list hq
    obtain ⟨u, hu, ru⟩ := rv.get hx
    obtain ⟨f0, f1, f2, f3, f4, f5⟩ := hf it (by simp)
    refine wpAny_pyNext_list_item st p.isList (x := u) (by simpa using hu) fun h' st' sb => ?_
    have I1 : Inv X pins σ H { s with heap := h' } := I.turned (t' := s.toks) (fun b o hb e => (sb.2 b hb).trans e) f0 f1 f3 f4 f5
    obtain ⟨o, e, c, d⟩ := id st'
    exact ⟨u, rfl, go_of (s := { s with heap := h' }) e c d (by decide) ⟨x, H, I1, ru, ⟨rfl, fun ys hy => by rw [I.list_inj hy hq]; exact hx⟩, st', fun b hb => (hf b hb).1⟩⟩
  done := by
    intro X hP hw hK hc i pins s σ H E I hf st hg
    subst hP hw hK
    obtain ⟨xs, hq, hx⟩ := hg
    obtain ⟨its, rv, p, hz⟩ := I.list hq
    obtain ⟨f0, f1, f2, f3, f4, f5⟩ := hf it (by simp)
    have hl := rv.length
    exact wpAny_pyNext_list_end (I.ok.hd hc) st p.isList (by simp; omega) fun h' eb => ⟨rfl, I.turned (t' := s.toks) (fun b o hb e => eb b o hb e) f0 f1 f3 f4 f5⟩
  self := fun _ _ _ _ _ st h => wpAny_pyIter_listiter st h
end L2

namespace L2
open PySem PySem.Spec PyProof.Rows
section
variable {X : Cx} {tg : Expr}
def iList (K : PySem.W.Frag) (tl : TE) : TI := fun σ H R => tl σ H fun x H1 => ∃ a, x = .ref a ∧ (∃ xs, SqL K H1 a xs) ∧ R (Itl K a) H1
def iTup (K : PySem.W.Frag) (tl : TE) : TI := fun σ H R => tl σ H fun x H1 => ∃ a, x = .ref a ∧ (∃ xs, SqT K H1 a xs) ∧ R (Itt K a) H1
theorem pi_list {l : Expr} {tl : TE} (hl : PE X l tl) : PI X tg l (iList X.K tl) := by
  intro pins s σ H R I h
  refine thn (hl pins s σ H _ I h) fun v s1 ⟨x, H1, I1, r1, q1⟩ => ?_
  obtain ⟨a, e, ⟨xs, hq⟩, q⟩ := q1
  subst e
  cases r1
  obtain ⟨its, rv, p, hz⟩ := I1.list hq
  refine wpAny_pyIter_list p.isList ?_
  refine ⟨s1.heap.objs.size, [s1.heap.objs.size], _, _, H1, rfl, I1.kept (t' := s1.toks) fun b o e => Heap.get?_push_of_some _ e, turn_list a _, ⟨_, Heap.get?_push_size _ rfl, rfl, rfl⟩, fun b hb => ?_, q⟩
  have e : b = s1.heap.objs.size := by simpa using hb
  subst e
  exact I1.fpOk (Nat.le_refl _) (I1.hok.fresh (Nat.le_refl _))
def iRng1 (ta : TA) : TI := fun σ H R => ta σ H fun vs H1 => ∃ j : Int, vs = [.int j] ∧ -(2 ^ 62) ≤ j ∧ j < 2 ^ 62 ∧ R (Itr 0 j.toNat) H1
def iRng2 (ta : TA) : TI := fun σ H R => ta σ H fun vs H1 => ∃ i j : Int, vs = [.int i, .int j] ∧ (-(2 ^ 62) ≤ i ∧ i < 2 ^ 62 ∧ -(2 ^ 62) ≤ j ∧ j < 2 ^ 62) ∧ R (Itr i (j - i).toNat) H1
/-! ### for -/
/-- W: the invariant by the turn and a measure; N: what the body is to reach -/
def tFor (wi : TI) (g : TG) (tb : TS) : TS := fun D σ H => wi σ H fun J H1 => ∃ W : Nat → Nat → St → Hp → Prop, (∃ m, W 0 m σ H1) ∧ ∀ i m σ H, W i m σ H →
  (J.stop i H ∧ D.nx σ H) ∨ (J.go i H ∧ ∃ N : St → Hp → Prop, (∀ σ' H', N σ' H' → ∃ m', m' < m ∧ W (i + 1) m' σ' H') ∧ ∀ x H', J.yld i H x H' → g x σ H' fun σ2 H2 => tb { D with nx := N, ct := N, bk := D.nx } σ2 H2)
/-- the records at fp as they stand -/
def pinsAt (fp : List Addr) (h : Heap) : List (Addr × Obj) := fp.filterMap fun b => (h.get? b).map fun o => (b, o)
theorem mem_pinsAt {fp : List Addr} {h : Heap} {b : Addr} {o : Obj} (hb : b ∈ fp) (e : h.get? b = some o) : (b, o) ∈ pinsAt fp h := List.mem_filterMap.mpr ⟨b, hb, by rw [e]; rfl⟩
theorem of_pinsAt {fp : List Addr} {h : Heap} {p : Addr × Obj} (hp : p ∈ pinsAt fp h) : p.1 ∈ fp ∧ h.get? p.1 = some p.2 := by
  obtain ⟨b, hb, e⟩ := List.mem_filterMap.mp hp
  cases q : h.get? b with
  | none => rw [q] at e; cases e
  | some o =>
    rw [q] at e
    have e' : (b, o) = p := Option.some.inj e
    subst e'
    exact ⟨hb, q⟩
theorem Inv.pinned {pins : List (Addr × Obj)} {σ : St} {H : Hp} {s : Shared} {fp : List Addr} (I : Inv X pins σ H s) (hf : ∀ b ∈ fp, FpOk X pins H b) (ho : ∀ b ∈ fp, ∃ o, s.heap.get? b = some o ∧ ∀ v, o.data ≠ .cell v) : Inv X (pins ++ pinsAt fp s.heap) σ H s :=
  I.pins_of fun p hp => (List.mem_append.mp hp).elim (fun z => I.pin p (List.mem_append_right _ z)) fun z => by
    obtain ⟨hb, e⟩ := of_pinsAt z
    obtain ⟨f0, f1, f2, _⟩ := hf p.1 hb
    obtain ⟨o, e', d⟩ := ho p.1 hb
    rw [e] at e'; cases e'
    exact ⟨e, f0, f1, f2, d⟩
theorem Inv.unpinned {pins pl : List (Addr × Obj)} {σ : St} {H : Hp} {s : Shared} (I : Inv X (pins ++ pl) σ H s) : Inv X pins σ H s := I.pins_of fun p hp => I.pin p (List.mem_append_right _ (List.mem_append_left _ hp))
theorem ps_for {iter : Expr} {body : List Stmt} {wi : TI} {g : TG} {tb : TS} {pos : Pos} (hp : PassesOwn (model X.prog X.w) X.A X.env X.xe) (hc : X.calm = true) (hi : PI X tg iter wi) (hg : PG X tg g) (hb : PSs X body tb)
    (hs : ∀ x, foldedSetIterable iter X.env x = pure x := by intro _; rfl) : PS X (.For tg iter body [] pos) (tFor wi g tb) := by
  intro pins s σ H D I h
  refine wpAny_For (thn (hi pins s σ H _ I h) fun v s1 h1 => thn h1 fun itv s2 h2 => ?_) hs
  obtain ⟨it, fp, tn, J, H2, e, I2, T, st2, f2, W, ⟨m0, w0⟩, turn⟩ := h2
  subst e
  -- what stays true of the iterator's objects through the loop
  have stat : ∀ {H' : Hp}, (∀ b ∈ fp, H' b = none) → ∀ b ∈ fp, FpOk X pins H' b := fun hn b hb => ⟨hn b hb, (f2 b hb).2⟩
  refine codeAny_forLoop_any (fun n s' => ∃ i σ' H', Inv X pins σ' H' s' ∧ tn i s'.heap ∧ (∀ b ∈ fp, H' b = none) ∧ W i n σ' H') ?_ m0 ⟨0, σ, H2, I2, st2, fun b hb => (f2 b hb).1, w0⟩
  rintro n s3 ⟨i, σ3, H3, I3, st3, fr3, w3⟩
  rcases turn i n σ3 H3 w3 with ⟨stop, qn⟩ | ⟨go, N, hN, step⟩
  · refine wpAny_passesOwn hp (thn (T.done X rfl rfl rfl hc i pins s3 σ3 H3 X.xe I3 (stat fr3) st3 stop) fun r s4 ⟨hr, I4⟩ => ?_)
    subst hr
    exact wpAny_execs_nil ⟨σ3, H3, I4, qn⟩
  · refine wpAny_passesOwn hp (thn (T.item X rfl rfl rfl hc i pins s3 σ3 H3 X.xe I3 (stat fr3) st3 go) fun r s4 ⟨u, hr, h4⟩ => ?_)
    subst hr
    refine wpAny_passesOwn hp (thn h4 fun _ s5 ⟨x, H5, I5, r5, y5, st5, fr5⟩ => ?_)
    have I5' := I5.pinned (stat fr5) (T.obj _ _ st5)
    refine wpAny_passesOwn hp (thn (hg _ s5 σ3 H5 x u _ I5' r5 (step x H5 y5)) fun _ s6 ⟨σ6, H6, I6, q6⟩ => ?_)
    refine wpAny_passesOwn hp (thn (hb _ s6 σ6 H6 _ I6 q6) fun f s7 q7 => ?_)
    have again : ∀ {σ7 : St} {H7 : Hp}, Inv X (pins ++ pinsAt fp s5.heap) σ7 H7 s7 → N σ7 H7 → ∃ m, m < n ∧ ∃ i σ' H', Inv X pins σ' H' s7 ∧ tn i s7.heap ∧ (∀ b ∈ fp, H' b = none) ∧ W i m σ' H' := fun {σ7 H7} I7 n7 => by
      obtain ⟨m', hm, w7⟩ := hN σ7 H7 n7
      refine ⟨m', hm, i + 1, σ7, H7, I7.unpinned, T.keep _ _ _ st5 fun b hb o e => (I7.pin (b, o) (List.mem_append_right _ (List.mem_append_right _ (mem_pinsAt hb e)))).1, fun b hb => ?_, w7⟩
      obtain ⟨o, e, d⟩ := T.obj _ _ st5 b hb
      exact (I7.pin (b, o) (List.mem_append_right _ (List.mem_append_right _ (mem_pinsAt hb e)))).2.1
    cases f with
    | next => obtain ⟨σ7, H7, I7, n7⟩ := q7; exact again I7 n7
    | cont => obtain ⟨σ7, H7, I7, n7⟩ := q7; exact again I7 n7
    | brk => obtain ⟨σ7, H7, I7, q7⟩ := q7; exact ⟨σ7, H7, I7.unpinned, q7⟩
    | ret v => obtain ⟨x7, σ7, H7, I7, r7, q7⟩ := q7; exact ⟨x7, σ7, H7, I7.unpinned, r7, q7⟩
end

/-! ### the forms one uses -/
/-- over a list that the body leaves as it is -/
theorem for_list {K : PySem.W.Frag} {a : Addr} {xs : List V} {g : TG} {tb : TS} {D : Ends} {σ : St} {H : Hp} (Pv : Nat → St → Hp → Prop) (h0 : Pv 0 σ H) (hl : ∀ i σ H, i ≤ xs.length → Pv i σ H → SqL K H a xs)
    (hs : ∀ i x σ H, xs[i]? = some x → Pv i σ H → g x σ H fun σ2 H2 => tb { D with nx := Pv (i + 1), ct := Pv (i + 1), bk := D.nx } σ2 H2) (hd : ∀ σ H, Pv xs.length σ H → D.nx σ H) :
    ∃ W : Nat → Nat → St → Hp → Prop, (∃ m, W 0 m σ H) ∧ ∀ i m σ H, W i m σ H →
      ((Itl K a).stop i H ∧ D.nx σ H) ∨ ((Itl K a).go i H ∧ ∃ N : St → Hp → Prop, (∀ σ' H', N σ' H' → ∃ m', m' < m ∧ W (i + 1) m' σ' H') ∧ ∀ x H', (Itl K a).yld i H x H' → g x σ H' fun σ2 H2 => tb { D with nx := N, ct := N, bk := D.nx } σ2 H2) := by
  refine ⟨fun i m σ H => m = xs.length - i ∧ i ≤ xs.length ∧ Pv i σ H, ⟨xs.length, by simp, Nat.zero_le _, h0⟩, ?_⟩
  rintro i m σ H ⟨rfl, hi, p⟩
  have q := hl i σ H hi p
  by_cases hlt : i < xs.length
  · refine .inr ⟨⟨xs, xs[i], q, by simp [hlt]⟩, Pv (i + 1), fun σ' H' p' => ⟨xs.length - (i + 1), by omega, rfl, hlt, p'⟩, fun x H' y => ?_⟩
    obtain ⟨e, y⟩ := y
    subst e
    exact hs i x σ _ (y xs q) p
  · have e : i = xs.length := by omega
    subst e
    exact .inl ⟨⟨xs, q, Nat.le_refl _⟩, hd σ H p⟩
/-- while, by a word and a measure of the state -/
theorem while_by {c : TT} {tb : TS} {D : Ends} {σ : St} {H : Hp} (Pv : St → Hp → Prop) (μ : St → Hp → Nat) (h0 : Pv σ H)
    (hs : ∀ σ H, Pv σ H → c σ H fun b H1 => if b = true then tb { D with nx := fun σ' H' => Pv σ' H' ∧ μ σ' H' < μ σ H, ct := fun σ' H' => Pv σ' H' ∧ μ σ' H' < μ σ H, bk := D.nx } σ H1 else D.nx σ H1)
    (mono : ∀ σ H Q Q', (∀ b H1, Q b H1 → Q' b H1) → c σ H Q → c σ H Q') : tWhile c tb D σ H := by
  refine ⟨fun m σ H => m = μ σ H ∧ Pv σ H, ⟨_, rfl, h0⟩, ?_⟩
  rintro m σ H ⟨rfl, p⟩
  refine mono σ H _ _ (fun b H1 q => ?_) (hs σ H p)
  cases b with
  | true => exact ⟨_, fun σ' H' ⟨p', l⟩ => ⟨_, l, rfl, p'⟩, q⟩
  | false => exact q
end L2

namespace L2
open PySem PySem.Spec PyProof.Rows

abbrev R2 := V → V → Hp → VK → Prop
/-- a two-place operation on values: f is binaryOp op, inplaceOp op or compareOp op -/
def OpR (X : Cx) (f : Value → Value → Sem Value) (r : R2) : Prop :=
  ∀ (pins : List (Addr × Obj)) (s : Shared) (σ : St) (H : Hp) (x y : V) (v u : Value) (Q : VK), Inv X pins σ H s → RelV x v → RelV y u → r x y H Q →
    wpAny (model X.prog X.w) X.A (f v u) (EP X pins σ Q) X.xe s
/-- a one-place operation -/
def UnR (X : Cx) (f : Value → Sem Value) (r : V → Hp → VK → Prop) : Prop :=
  ∀ (pins : List (Addr × Obj)) (s : Shared) (σ : St) (H : Hp) (x : V) (v : Value) (Q : VK), Inv X pins σ H s → RelV x v → r x H Q →
    wpAny (model X.prog X.w) X.A (f v) (EP X pins σ Q) X.xe s
/-- a call of a value that is known (a builtin, a type) with values -/
def CallR (X : Cx) (f : Value) (r : List V → Hp → VK → Prop) : Prop :=
  ∀ (pins : List (Addr × Obj)) (s : Shared) (σ : St) (H : Hp) (xs : List V) (us : List Value) (Q : VK), Inv X pins σ H s → Vals xs us → r xs H Q →
    wpAny (model X.prog X.w) X.A (call f us) (EP X pins σ Q) X.xe s
/-- a value's truth -/
def TruR (X : Cx) (r : V → Hp → (Bool → Hp → Prop) → Prop) : Prop :=
  ∀ (pins : List (Addr × Obj)) (s : Shared) (σ : St) (H : Hp) (x : V) (v : Value) (Q : Bool → Hp → Prop), Inv X pins σ H s → RelV x v → r x H Q →
    wpAny (model X.prog X.w) X.A (truthy v) (TP X pins σ Q) X.xe s

def tOp (r : R2) (ta tb : TE) : TE := fun σ H Q => ta σ H fun x H1 => tb σ H1 fun y H2 => r x y H2 Q
def tUn (r : V → Hp → VK → Prop) (ta : TE) : TE := fun σ H Q => ta σ H fun x H1 => r x H1 Q
/-- ints in, under C, and a value out -/
def rI (C : Int → Int → Prop) (g : Int → Int → V) : R2 := fun x y H Q => ∃ i j, x = .int i ∧ y = .int j ∧ C i j ∧ Q (g i j) H
def rI0 (g : Int → Int → V) : R2 := fun x y H Q => ∃ i j, x = .int i ∧ y = .int j ∧ Q (g i j) H
def rU (g : Int → V) : V → Hp → VK → Prop := fun x H Q => ∃ i, x = .int i ∧ Q (g i) H

section
variable {X : Cx} {a b c : Expr} {ta tb tc : TE} {pos : Pos}

theorem binT (ha : PE X a ta) (hb : PE X b tb) {pins : List (Addr × Obj)} {s : Shared} {σ : St} {H : Hp} {R : V → V → Hp → Prop} (I : Inv X pins σ H s)
    (h : ta σ H fun x H1 => tb σ H1 fun y H2 => R x y H2) {Q : Value → Shared → Prop} {f : Value → Value → Sem Value}
    (hf : ∀ v u s2 x y H2, Inv X pins σ H2 s2 → RelV x v → RelV y u → R x y H2 → wpAny (model X.prog X.w) X.A (f v u) Q X.xe s2) :
    wpAny (model X.prog X.w) X.A (eval a X.env) (fun v s₁ => wpAny (model X.prog X.w) X.A (eval b X.env) (fun u s₂ => wpAny (model X.prog X.w) X.A (f v u) Q X.xe s₂) X.xe s₁) X.xe s := by
  refine thn (ha pins s σ H _ I h) fun v s1 ⟨x, H1, I1, r1, q1⟩ => ?_
  refine thn (hb pins s1 σ H1 _ I1 q1) fun u s2 ⟨y, H2, I2, r2, q2⟩ => ?_
  exact hf v u s2 x y H2 I2 r1 r2 q2

theorem pe_op {op : Operator} {r : R2} (ho : OpR X (binaryOp op) r) (ha : PE X a ta) (hb : PE X b tb) : PE X (.BinOp a op b pos) (tOp r ta tb) := by
  intro pins s σ H Q I h
  exact wpAny_BinOp (binT ha hb I h fun v u s2 x y H2 I2 rx ry q => ho pins s2 σ H2 x y v u Q I2 rx ry q)
theorem pe_un {op : UnaryOp} {r : V → Hp → VK → Prop} (ho : UnR X (unaryOp op) r) (ha : PE X a ta) : PE X (.UnaryOp op a pos) (tUn r ta) := by
  intro pins s σ H Q I h
  exact UnaryOp_ (thn (ha pins s σ H _ I h) fun v s1 ⟨x, H1, I1, r1, q1⟩ => ho pins s1 σ H1 x v Q I1 r1 q1)
/-! ### ints -/
theorem opI {f : Value → Value → Sem Value} {C : Int → Int → Prop} {g : Int → Int → Int}
    (rule : ∀ (i j : Int) (t u : Tok) (s : Shared) (Q : Value → Shared → Prop) (E : Value → Shared → Prop), C i j → Q (.int (g i j) s.toks) { s with toks := s.toks + 1 } → wpAny (model X.prog X.w) X.A (f (.int i t) (.int j u)) Q E s) :
    OpR X f (rI C fun i j => .int (g i j)) := by
  intro pins s σ H x y v u Q I rx ry h
  obtain ⟨i, j, rfl, rfl, hc, q⟩ := h
  obtain ⟨t, rfl⟩ := rx
  obtain ⟨t', rfl⟩ := ry
  exact rule i j t t' s _ _ hc ⟨.int (g i j), H, I.tok _, ⟨_, rfl⟩, q⟩
theorem opI0 {f : Value → Value → Sem Value} {g : Int → Int → Int}
    (rule : ∀ (i j : Int) (t u : Tok) (s : Shared) (Q : Value → Shared → Prop) (E : Value → Shared → Prop), Q (.int (g i j) s.toks) { s with toks := s.toks + 1 } → wpAny (model X.prog X.w) X.A (f (.int i t) (.int j u)) Q E s) :
    OpR X f (rI0 fun i j => .int (g i j)) := by
  intro pins s σ H x y v u Q I rx ry h
  obtain ⟨i, j, rfl, rfl, q⟩ := h
  obtain ⟨t, rfl⟩ := rx
  obtain ⟨t', rfl⟩ := ry
  exact rule i j t t' s _ _ ⟨.int (g i j), H, I.tok _, ⟨_, rfl⟩, q⟩
theorem opB0 {f : Value → Value → Sem Value} {g : Int → Int → Bool}
    (rule : ∀ (i j : Int) (t u : Tok) (s : Shared) (Q : Value → Shared → Prop) (E : Value → Shared → Prop), Q (.bool (g i j)) s → wpAny (model X.prog X.w) X.A (f (.int i t) (.int j u)) Q E s) :
    OpR X f (rI0 fun i j => .bl (g i j)) := by
  intro pins s σ H x y v u Q I rx ry h
  obtain ⟨i, j, rfl, rfl, q⟩ := h
  obtain ⟨t, rfl⟩ := rx
  obtain ⟨t', rfl⟩ := ry
  exact rule i j t t' s _ _ ⟨.bl (g i j), H, I, rfl, q⟩

def CDiv (i j : Int) : Prop := 0 < j ∧ j < 1073741824
def CDivN (i j : Int) : Prop := j ≠ 0 ∧ j.natAbs < 1073741824
def CPow (i j : Int) : Prop := 0 ≤ j ∧ j ≤ 1000000 ∧ i.natAbs < 2 ^ 64
def CMul (i j : Int) : Prop := (-(2 ^ 64) < i ∧ i < 2 ^ 64) ∨ (-(2 ^ 64) < j ∧ j < 2 ^ 64)
theorem CMul.ok {i j : Int} (h : CMul i j) : IntMulOk i j := by
  rcases h with ⟨h1, h2⟩ | ⟨h1, h2⟩
  · exact .of_left (intBits_le_64 h1 h2)
  · exact .of_right (intBits_le_64 h1 h2)
theorem op_add : OpR X (binaryOp .Add) (rI0 fun i j => .int (i + j)) := opI0 fun _ _ _ _ _ _ _ q => add_int q
theorem op_sub : OpR X (binaryOp .Sub) (rI0 fun i j => .int (i - j)) := opI0 fun _ _ _ _ _ _ _ q => sub_int q
theorem op_mul : OpR X (binaryOp .Mult) (rI CMul fun i j => .int (i * j)) := opI fun _ _ _ _ _ _ _ hc q => mul_int q hc.ok
/-- % by a positive divisor of any size -/
theorem op_mod : OpR X (binaryOp .Mod) (rI (fun _ j => 0 < j) fun i j => .int (i % j)) := opI fun i j _ _ _ _ _ hc q => by
  have h1 : (0 : Int) < j := hc
  exact mod_int' (by omega) (by rw [Int.fmod_eq_emod_of_nonneg i (by omega)]; exact q)
theorem unI {f : Value → Sem Value} {g : Int → Int}
    (rule : ∀ (i : Int) (t : Tok) (s : Shared) (Q : Value → Shared → Prop) (E : Value → Shared → Prop), Q (.int (g i) s.toks) { s with toks := s.toks + 1 } → wpAny (model X.prog X.w) X.A (f (.int i t)) Q E s) :
    UnR X f (rU fun i => .int (g i)) := by
  intro pins s σ H x v Q I rx h
  obtain ⟨i, rfl, q⟩ := h
  obtain ⟨t, rfl⟩ := rx
  exact rule i t s _ _ ⟨.int (g i), H, I.tok _, ⟨_, rfl⟩, q⟩
theorem un_neg : UnR X (unaryOp .USub) (rU fun i => .int (-i)) := unI fun _ _ _ _ _ q => neg_int q
/-! ### bools among ints: n += (a < b) -/
end

/-! ### comparisons -/
/-- the scalars that == tells apart as data does -/
def scal : V → V → Bool
  | .non, .non => true | .non, .int _ => true | .int _, .non => true | .non, .bl _ => true | .bl _, .non => true | .non, .str _ => true | .str _, .non => true
  | .int _, .int _ => true | .bl _, .bl _ => true | .str _, .str _ => true | .byt _, .byt _ => true
  | .int _, .str _ => true | .str _, .int _ => true | .bl _, .str _ => true | .str _, .bl _ => true
  | _, _ => false
def rEq : R2 := fun x y H Q => scal x y = true ∧ Q (.bl (decide (x = y))) H
def rNe : R2 := fun x y H Q => scal x y = true ∧ Q (.bl (!decide (x = y))) H

theorem dec_int {i j : Int} : decide (V.int i = V.int j) = (i == j) := by
  rw [Bool.eq_iff_iff]
  simp
theorem dec_bl {i j : Bool} : decide (V.bl i = V.bl j) = (i == j) := by
  rw [Bool.eq_iff_iff]
  simp
theorem dec_str {i j : Str} : decide (V.str i = V.str j) = (i == j) := by
  rw [Bool.eq_iff_iff]
  simp
theorem dec_byt {i j : Array UInt8} : decide (V.byt i = V.byt j) = (i.toList == j.toList) := by
  rw [Bool.eq_iff_iff]
  cases i
  cases j
  simp

section
variable {X : Cx} {a b c : Expr} {ta tb tc : TE} {pos : Pos}
theorem fin_bl {pins : List (Addr × Obj)} {σ : St} {H : Hp} {s : Shared} {Q : VK} {k k' : Bool} (I : Inv X pins σ H s) (q : Q (.bl k) H) (e : k = k') : EP X pins σ Q (.bool k') s := by
  subst e
  exact ⟨.bl k, H, I, rfl, q⟩
theorem op_eq : OpR X (compareOp .Eq) rEq := by
  intro pins s σ H x y v u Q I rx ry h
  obtain ⟨hs, q⟩ := h
  cases x with
  | non =>
    cases rx
    cases y with
    | non => cases ry; exact PySem.EqNone.eq_none_none (fin_bl I q (by simp))
    | bl j => cases ry; exact PySem.EqNone.eq_none_bool (fin_bl I q (by simp))
    | int j => obtain ⟨t', rfl⟩ := ry; exact PySem.EqNone.eq_none_int (fin_bl I q (by simp))
    | str j => obtain ⟨t', rfl⟩ := ry; exact PySem.EqNone.eq_none_str (fin_bl I q (by simp))
    | _ => exact absurd (show false = true from hs) Bool.false_ne_true
  | bl i =>
    cases rx
    cases y with
    | non => cases ry; exact PySem.EqNone.eq_bool_none (fin_bl I q (by simp))
    | bl j => cases ry; exact eq_bool (fin_bl I q dec_bl)
    | str j => obtain ⟨t', rfl⟩ := ry; exact PySem.EqMixed.eq_bool_str (fin_bl I q (by simp))
    | _ => exact absurd (show false = true from hs) Bool.false_ne_true
  | int i =>
    obtain ⟨t, rfl⟩ := rx
    cases y with
    | non => cases ry; exact PySem.EqNone.eq_int_none (fin_bl I q (by simp))
    | int j => obtain ⟨t', rfl⟩ := ry; exact eq_int (fin_bl I q dec_int)
    | str j => obtain ⟨t', rfl⟩ := ry; exact PySem.EqMixed.eq_int_str (fin_bl I q (by simp))
    | _ => exact absurd (show false = true from hs) Bool.false_ne_true
  | str i =>
    obtain ⟨t, rfl⟩ := rx
    cases y with
    | non => cases ry; exact PySem.EqNone.eq_str_none (fin_bl I q (by simp))
    | bl j => cases ry; exact PySem.EqMixed.eq_str_bool (fin_bl I q (by simp))
    | int j => obtain ⟨t', rfl⟩ := ry; exact PySem.EqMixed.eq_str_int (fin_bl I q (by simp))
    | str j => obtain ⟨t', rfl⟩ := ry; exact eq_str (fin_bl I q dec_str)
    | _ => exact absurd (show false = true from hs) Bool.false_ne_true
  | byt i =>
    obtain ⟨t, rfl⟩ := rx
    cases y with
    | byt j => obtain ⟨t', rfl⟩ := ry; exact PySem.W.eq_bytes (fin_bl I q dec_byt)
    | _ => exact absurd (show false = true from hs) Bool.false_ne_true
  | _ => cases y <;> exact absurd (show false = true from hs) Bool.false_ne_true
theorem op_ne : OpR X (compareOp .NotEq) rNe := by
  intro pins s σ H x y v u Q I rx ry h
  obtain ⟨hs, q⟩ := h
  cases x with
  | non =>
    cases rx
    cases y with
    | non => cases ry; exact PySem.EqNone.ne_none_none (fin_bl I q (by simp))
    | bl j => cases ry; exact PySem.EqNone.ne_none_bool (fin_bl I q (by simp))
    | int j => obtain ⟨t', rfl⟩ := ry; exact PySem.EqNone.ne_none_int (fin_bl I q (by simp))
    | str j => obtain ⟨t', rfl⟩ := ry; exact PySem.EqNone.ne_none_str (fin_bl I q (by simp))
    | _ => exact absurd (show false = true from hs) Bool.false_ne_true
  | bl i =>
    cases rx
    cases y with
    | non => cases ry; exact PySem.EqNone.ne_bool_none (fin_bl I q (by simp))
    | bl j => cases ry; exact ne_bool (fin_bl I q (congrArg not dec_bl))
    | str j => obtain ⟨t', rfl⟩ := ry; exact PySem.EqMixed.ne_bool_str (fin_bl I q (by simp))
    | _ => exact absurd (show false = true from hs) Bool.false_ne_true
  | int i =>
    obtain ⟨t, rfl⟩ := rx
    cases y with
    | non => cases ry; exact PySem.EqNone.ne_int_none (fin_bl I q (by simp))
    | int j => obtain ⟨t', rfl⟩ := ry; exact ne_int (fin_bl I q (congrArg not dec_int))
    | str j => obtain ⟨t', rfl⟩ := ry; exact PySem.EqMixed.ne_int_str (fin_bl I q (by simp))
    | _ => exact absurd (show false = true from hs) Bool.false_ne_true
  | str i =>
    obtain ⟨t, rfl⟩ := rx
    cases y with
    | non => cases ry; exact PySem.EqNone.ne_str_none (fin_bl I q (by simp))
    | bl j => cases ry; exact PySem.EqMixed.ne_str_bool (fin_bl I q (by simp))
    | int j => obtain ⟨t', rfl⟩ := ry; exact PySem.EqMixed.ne_str_int (fin_bl I q (by simp))
    | str j => obtain ⟨t', rfl⟩ := ry; exact ne_str (fin_bl I q (congrArg not dec_str))
    | _ => exact absurd (show false = true from hs) Bool.false_ne_true
  | byt i =>
    obtain ⟨t, rfl⟩ := rx
    cases y with
    | byt j => obtain ⟨t', rfl⟩ := ry; exact PySem.W.ne_bytes (fin_bl I q (congrArg not dec_byt))
    | _ => exact absurd (show false = true from hs) Bool.false_ne_true
  | _ => cases y <;> exact absurd (show false = true from hs) Bool.false_ne_true

theorem op_lt : OpR X (compareOp .Lt) (rI0 fun i j => .bl (decide (i < j))) := opB0 fun _ _ _ _ _ _ _ q => lt_int q
theorem op_le : OpR X (compareOp .LtE) (rI0 fun i j => .bl (decide (i ≤ j))) := opB0 fun _ _ _ _ _ _ _ q => le_int q
theorem op_gt : OpR X (compareOp .Gt) (rI0 fun i j => .bl (decide (j < i))) := opB0 fun _ _ _ _ _ _ _ q => gt_int q
/-- is None, is not None: the right side a value none -/
theorem op_isN : OpR X (compareOp .Is) (fun x y H Q => y = .non ∧ Q (.bl (decide (x = .non))) H) := by
  intro pins s σ H x y v u Q I rx ry h
  obtain ⟨rfl, q⟩ := h
  cases ry
  refine is_none_gen (fin_bl I q ?_)
  cases x <;> first
    | (cases rx; rfl)
    | (obtain ⟨t, rfl⟩ := rx; rfl)
/-- is, is not of two objects that are tracked lists or instances -/
def isObj : HO → Bool
  | .lst _ => true
  | .ins _ _ _ => true
  | _ => false
/-- two rules for one operation: by cases -/
theorem OpR.or {f : Value → Value → Sem Value} {r r' : R2} (h : OpR X f r) (h' : OpR X f r') : OpR X f (fun x y H Q => r x y H Q ∨ r' x y H Q) := by
  intro pins s σ H x y v u Q I rx ry q
  rcases q with q | q
  · exact h pins s σ H x y v u Q I rx ry q
  · exact h' pins s σ H x y v u Q I rx ry q

theorem nomark (b : Expr) {op : CmpOp} (h : op ≠ .In := by decide) (h2 : op ≠ .NotIn := by decide) : behindInMarks op b = false := by
  have e1 : (op == CmpOp.In) = false := by cases op <;> first | rfl | exact absurd rfl h
  have e2 : (op == CmpOp.NotIn) = false := by cases op <;> first | rfl | exact absurd rfl h2
  cases b <;> simp [behindInMarks, e1, e2]
/-- a comparison as a value; hm: nomark b, or (for in, not in) by with_unfolding_all rfl -/
theorem pe_cmpR {op : CmpOp} {r : R2} (ho : OpR X (compareOp op) r) (ha : PE X a ta) (hb : PE X b tb) (hm : behindInMarks op b = false) : PE X (.Compare a [op] [b] pos) (tOp r ta tb) := by
  intro pins s σ H Q I h
  exact wpAny_Compare1 (binT ha hb I h fun v u s2 x y H2 I2 rx ry q => ho pins s2 σ H2 x y v u Q I2 rx ry q) hm
/-- a reading of a value as a test -/
def tTest (t : TE) : TT := fun σ H Q => t σ H fun x H' => ∃ k, x = .bl k ∧ Q k H'
theorem pt_cmpR {op : CmpOp} {r : R2} (ho : OpR X (compareOp op) r) (ha : PE X a ta) (hb : PE X b tb) (hm : behindInMarks op b = false) : PT X (.Compare a [op] [b] pos) (tTest (tOp r ta tb)) := by
  intro pins s σ H Q I h
  refine wpAny_isTrue_Compare1 (thn (ha pins s σ H _ I h) fun v s1 ⟨x, H1, I1, r1, q1⟩ => thn (hb pins s1 σ H1 _ I1 q1) fun u s2 ⟨y, H2, I2, r2, q2⟩ =>
    thn (ho pins s2 σ H2 x y v u _ I2 r1 r2 q2) fun c s3 ⟨z, H3, I3, r3, k, e, q3⟩ => ?_) hm
  subst e
  cases r3
  exact wpAny_truthy_bool ⟨H3, I3, q3⟩
/-- a op1 b op2 c -/
def tChain (r r' : R2) (ta tb tc : TE) : TE := fun σ H Q => ta σ H fun x H1 => tb σ H1 fun y H2 => r x y H2 fun z H3 => ∃ k, z = .bl k ∧
  (if k = true then tc σ H3 fun w' H4 => r' y w' H4 Q else Q (.bl false) H3)
theorem pe_chain {op op' : CmpOp} {r r' : R2} (ho : OpR X (compareOp op) r) (ho' : OpR X (compareOp op') r') (ha : PE X a ta) (hb : PE X b tb) (hc : PE X c tc)
    (hm : lastMarks [op, op'] [b, c] = false := by with_unfolding_all rfl) : PE X (.Compare a [op, op'] [b, c] pos) (tChain r r' ta tb tc) := by
  intro pins s σ H Q I h
  refine Compare_chain (thn (ha pins s σ H _ I h) fun v s1 ⟨x, H1, I1, r1, q1⟩ => chain_link (thn (hb pins s1 σ H1 _ I1 q1) fun u s2 ⟨y, H2, I2, r2, q2⟩ =>
    thn (ho pins s2 σ H2 x y v u _ I2 r1 r2 q2) fun d s3 ⟨z, H3, I3, r3, k, e, q3⟩ => ?_)) hm
  subst e
  cases r3
  refine wpAny_truthy_bool ?_
  cases k with
  | false => exact ite_ff ⟨.bl false, H3, I3, rfl, q3⟩
  | true => exact ite_tt (chain_last (thn (hc pins s3 σ H3 _ I3 q3) fun w' s4 ⟨z', H4, I4, r4, q4⟩ => ho' pins s4 σ H4 y z' u w' Q I4 r2 r4 q4))
theorem pt_chain {op op' : CmpOp} {r r' : R2} (ho : OpR X (compareOp op) r) (ho' : OpR X (compareOp op') r') (ha : PE X a ta) (hb : PE X b tb) (hc : PE X c tc)
    (hm : lastMarks [op, op'] [b, c] = false := by with_unfolding_all rfl) : PT X (.Compare a [op, op'] [b, c] pos) (tTest (tChain r r' ta tb tc)) := by
  intro pins s σ H Q I h
  refine isTrue_chain (thn (ha pins s σ H _ I h) fun v s1 ⟨x, H1, I1, r1, q1⟩ => test_link (thn (hb pins s1 σ H1 _ I1 q1) fun u s2 ⟨y, H2, I2, r2, q2⟩ =>
    thn (ho pins s2 σ H2 x y v u _ I2 r1 r2 q2) fun d s3 ⟨z, H3, I3, r3, k, e, q3⟩ => ?_)) hm
  subst e
  cases r3
  refine wpAny_truthy_bool ?_
  cases k with
  | false =>
    obtain ⟨k', e', q'⟩ := q3
    cases e'
    exact ite_ff ⟨H3, I3, q'⟩
  | true =>
    refine ite_tt (test_last (thn (hc pins s3 σ H3 _ I3 q3) fun w' s4 ⟨z', H4, I4, r4, q4⟩ => thn (ho' pins s4 σ H4 y z' u w' _ I4 r2 r4 q4) fun d' s5 ⟨z2, H5, I5, r5, k2, e2, q5⟩ => ?_))
    subst e2
    cases r5
    exact wpAny_truthy_bool ⟨H5, I5, q5⟩

/-! ### truth -/
/-- a value's truth by the abstract heap -/
def TruV (K : PySem.W.Frag) (x : V) (H : Hp) (k : Bool) : Prop :=
  match x with
  | .non => k = false
  | .bl b => k = b
  | .int i => k = (i != 0)
  | .str y => y.length ≤ sizeLine ∧ k = ((y.length : Int) != 0)
  | .byt y => y.size ≤ sizeLine ∧ k = ((y.size : Int) != 0)
  | .ref p => (∃ xs, SqL K H p xs ∧ k = !xs.isEmpty) ∨ (∃ xs, SqT K H p xs ∧ k = !xs.isEmpty) ∨ ∃ kvs, H p = some (.dK kvs) ∧ k = !kvs.isEmpty
  | _ => False
theorem line63 : (sizeLine : Nat) < 2 ^ 63 := by rw [sizeLine_eq]; decide
/-! ### strs and bytes -/
def PlainIxT (b : Expr) : Prop := ∀ o i, subscripted b false o i = operate [o, i] (getItem o i)
/-! ### scalar builtins, by CallR -/
theorem vals1 {x : V} {us : List Value} (r : Vals [x] us) : ∃ u, us = [u] ∧ RelV x u := by
  cases r with
  | cons r1 r2 => cases r2; exact ⟨_, rfl, r1⟩
theorem call_str_int : CallR X (.type "str") (fun xs H Q => ∃ i, xs = [.int i] ∧ i.natAbs.log2 < 1920 ∧ Q (.str (toString i)) H) := by
  intro pins s σ H xs us Q I r h
  obtain ⟨i, rfl, hz, q⟩ := h
  obtain ⟨u, rfl, t, rfl⟩ := vals1 r
  exact PySem.P.str_of_int hz ⟨.str _, H, I.tok _, ⟨_, rfl⟩, q⟩
theorem call_ord : CallR X (.builtin "ord") (fun xs H Q => ∃ x, xs = [.str x] ∧ x.length = 1 ∧ Q (.int (x.cps.getD 0 0 : Nat)) H) := by
  intro pins s σ H xs us Q I r h
  obtain ⟨x, rfl, hz, q⟩ := h
  obtain ⟨u, rfl, t, rfl⟩ := vals1 r
  exact ord_of_one hz ⟨.int _, H, I.tok _, ⟨_, rfl⟩, q⟩
/-- len of a str, a bytes, a list, a tuple -/
def LenV (K : PySem.W.Frag) (x : V) (H : Hp) (n : Nat) : Prop :=
  match x with
  | .str y => y.length ≤ sizeLine ∧ n = y.length
  | .byt y => y.size ≤ sizeLine ∧ n = y.size
  | .ref p => (∃ xs, SqL K H p xs ∧ n = xs.length) ∨ ∃ xs, SqT K H p xs ∧ n = xs.length
  | _ => False
end
end L2

namespace L2
open PySem PySem.Spec PyProof.Rows

/-! ### an instance, its attributes a map -/
structure ObjM (h : Heap) (x dx C : Addr) (mA : Str → Option Value) : Prop where
  obj : h.get? x = some (PySem.W.instObj C dx)
  ns : h.Ns1 dx mA
  ne : dx ≠ x

theorem lookIn_ns {h : Heap} {dx : Addr} {mA : Str → Option Value} (n : h.Ns1 dx mA) : ∃ od, h.get? dx = some od ∧ ∀ name, PySem.W.lookIn name od = some (mA name) := by
  obtain ⟨o, es, ep, ho, hd, hk, _, hm⟩ := n
  refine ⟨o, ho, fun name => ?_⟩
  have e := hm name
  unfold nsFind findBy at e
  rw [← Array.find?_toList] at e
  unfold PySem.W.lookIn
  rw [hd]
  dsimp only
  split
  · rename_i y q
    rw [q] at e
    exact congrArg some e
  · rename_i q
    rw [q] at e
    have a : es.toList.any (·.refKey) = false := by
      rw [List.any_eq_false]
      intro y hy
      obtain ⟨z, t, hkey⟩ := hk y (Array.mem_toList_iff.mp hy)
      simp [DictEntry.refKey, hkey]
    have a' : ¬ es.toList.any (·.refKey) = true := by rw [a]; exact Bool.false_ne_true
    rw [if_neg a']
    exact congrArg some e

theorem ObjM.look {h : Heap} {x dx C : Addr} {mA : Str → Option Value} (I : ObjM h x dx C mA) : ∃ od, PySem.W.InstAt h x (PySem.W.instObj C dx) C (some od) ∧ ∀ name, PySem.W.lookIn name od = some (mA name) :=
  let ⟨od, ho, hl⟩ := lookIn_ns I.ns
  ⟨od, ⟨I.obj, rfl, rfl, ho⟩, hl⟩

section
variable {prog : Program} {w : World} {A : Around} {E : Value → Shared → Prop} {s : Shared} {K : PySem.W.Frag} {x dx C f : Addr} {mA : Str → Option Value} {name : Str} {v : Value}

theorem get_map {expr : Bool} {Q : Value → Shared → Prop} (X : K.In s.heap) (I : ObjM s.heap x dx C mA) (hg : PySem.W.plainGet K C name = true) (hh : PySem.W.hasDictIn K C = true)
    (ha : PySem.W.findIn K (.ref C) name = some none) (hv : mA name = some v) (hv' : PySem.W.handedIn v = true) (h : Q v { s with toks := s.toks + 1 }) :
    wpAny (model prog w) A (getAttr (.ref x) name expr) Q E s := by
  obtain ⟨od, J, hl⟩ := I.look
  exact PySem.W.get_value X J (PySem.W.plainGet_of hg).1 (PySem.W.findObj_own hh ha rfl (by rw [hl, hv])) hv' h

theorem get_meth {pl : Sem Bool} {Q : Value × List Value → Shared → Prop} (X : K.In s.heap) (I : ObjM s.heap x dx C mA) (hg : PySem.W.plainGet K C name = true)
    (hf : PySem.W.findIn K (.ref C) name = some (some (.ref f))) (ht : PySem.W.isFn K (.ref f) = true) (hv : mA name = none) (h : Q (.ref f, [.ref x]) s) :
    wpAny (model prog w) A (getMethod (.ref x) name pl) Q E s := by
  obtain ⟨od, J, hl⟩ := I.look
  exact PySem.W.method_fn X J (PySem.W.plainGet_of hg).1 (PySem.W.plainGet_of hg).2 hf (beq_iff_eq.mp ht) (by show (PySem.W.lookIn name od).map (·.isSome) = some false; rw [hl, hv]; rfl) h

theorem set_map {ns : List Str} {Q : Unit → Shared → Prop} (X : K.In s.heap) (I : ObjM s.heap x dx C mA)
    (hs : PySem.W.findIn K (.ref C) "__setattr__" = some (some (.builtin "object.__setattr__"))) (hp : PySem.W.plainOver K C = true) (ht : PySem.W.takerIn K C name = some none) (hh : PySem.W.hasDictIn K C = true)
    (hw : PySem.Within mA ns) (hsz : ns.length ≤ sizeLine)
    (h : ∀ h', ObjM h' x dx C (fun y => if y = name then some v else mA y) → Heap.SameBut dx s.heap h' → Q () { s with heap := h', toks := s.toks + 2 }) :
    wpAny (model prog w) A (setAttr (.ref x) name v) Q E s := by
  obtain ⟨od, J, hl⟩ := I.look
  refine PySem.W.set_plain X J hs (PySem.W.osa_open (s := { s with toks := s.toks + 1 }) (r := none) X J hp ht fun b => ?_)
  obtain ⟨cd, hc, hd'⟩ := PySem.W.any_some hh
  have hx : s.heap.get? x = some ⟨.ref C, some dx, .plain, #[]⟩ := I.obj
  refine wpAny_bind (wpAny_pure (wpAny_bind (wpAny_bind (wpAny_loadPart hx (wpAny_bind (PySem.W.Looks.here (s := { s with toks := s.toks + 1 }) (PySem.W.looks_clsIn X hc) ?_))))))
  rw [hd']
  refine wpAny_pure (a := some dx) (wpAny_bind (wpAny_pure (wpAny_bind ?_)))
  refine wpAny_nsSet1 (s := { s with toks := s.toks + 1 }) I.ns fun h' hn2 hs2 => ?_
  obtain ⟨oD, esD, epD, hoD, hdD, hcD⟩ := hn2.count (PySem.Within.cons name v hw)
  refine wpAny_bind (wpAny_lookBehind hoD (by rw [hdD]; exact pastItsLine_dict (Nat.le_trans hcD (by rw [List.length_cons]; omega))) ?_)
  exact wpAny_pure (h _ ⟨(hs2.2 _ (Ne.symm I.ne)).trans I.obj, hn2, I.ne⟩ hs2)

/-- C(..): the dict at the heap's end, the instance behind it; then its __init__ -/
theorem make_map {R : Result → Shared → Prop} {vs : List Value} {kw : List (Str × Value)} (X : K.In s.heap) (hm : PySem.W.makesIn K C = true)
    (hi : PySem.W.findIn K (.ref C) "__init__" = some (some (.ref f))) (hf : PySem.W.typeIn K (.ref f) = some (.type "function"))
    (h : codeAny (model prog w) (A.under (.builtin "type.__call__" ⟨.ref C :: vs, kw⟩)) (.call (.ref f) ⟨.ref (s.heap.objs.size + 1) :: vs, kw⟩) (PySem.W.InitBack (s.heap.objs.size + 1) R)
      { s with heap := (s.heap.push PySem.W.emptyDict).push (PySem.W.instObj C s.heap.objs.size) }) :
    codeAny (model prog w) A (.call (.ref C) ⟨vs, kw⟩) R s := by
  obtain ⟨hh, g, d, t, os⟩ := s
  exact PySem.W.make_core (PySem.W.makes_of X hm) (PySem.W.looks_findIn X hi) (fun self => PySem.W.bind_fn X self hf) (.inl rfl) h
end

/-! ### the attributes as a list of pairs -/
def putF (f : Str) (v : V) : List (Str × V) → List (Str × V)
  | [] => [(f, v)]
  | (g, x) :: r => if g = f then (g, v) :: r else (g, x) :: putF f v r
theorem lookup_putF (f g : Str) (v : V) : ∀ fs : List (Str × V), (putF f v fs).lookup g = if g = f then some v else fs.lookup g
  | [] => by
    show List.lookup g [(f, v)] = _
    by_cases h : g = f
    · have hb : (g == f) = true := beq_iff_eq.mpr h
      simp only [List.lookup, hb, if_pos h]
    · have hb : (g == f) = false := beq_eq_false_iff_ne.mpr h
      simp only [List.lookup, hb, if_neg h]
  | (k, x) :: r => by
    have ih := lookup_putF f g v r
    rw [show putF f v ((k, x) :: r) = (if k = f then (k, v) :: r else (k, x) :: putF f v r) from rfl]
    by_cases hk : k = f
    · rw [if_pos hk]
      by_cases h : g = k
      · have hb : (g == k) = true := beq_iff_eq.mpr h
        simp only [List.lookup, hb, if_pos (h.trans hk)]
      · have hb : (g == k) = false := beq_eq_false_iff_ne.mpr h
        simp only [List.lookup, hb, if_neg (fun e : g = f => h (e.trans hk.symm))]
    · rw [if_neg hk]
      by_cases h : g = k
      · have hb : (g == k) = true := beq_iff_eq.mpr h
        simp only [List.lookup, hb, if_neg (fun e : g = f => hk (h.symm.trans e))]
      · have hb : (g == k) = false := beq_eq_false_iff_ne.mpr h
        simp only [List.lookup, hb]
        exact ih
theorem keys_putF (f : Str) (v : V) : ∀ fs : List (Str × V), f ∈ (putF f v fs).map (·.1) ∧ ∀ g, g ∈ fs.map (·.1) → g ∈ (putF f v fs).map (·.1)
  | [] => ⟨by simp [putF], fun g h => by simp at h⟩
  | (k, x) :: r => by
    obtain ⟨i1, i2⟩ := keys_putF f v r
    rw [show putF f v ((k, x) :: r) = (if k = f then (k, v) :: r else (k, x) :: putF f v r) from rfl]
    by_cases hk : k = f
    · rw [if_pos hk]
      subst hk
      exact ⟨by simp, fun g h => by simpa using h⟩
    · rw [if_neg hk]
      refine ⟨?_, fun g h => ?_⟩
      · rw [List.map_cons]
        exact List.mem_cons_of_mem _ i1
      · rw [List.map_cons] at h ⊢
        rcases List.mem_cons.mp h with e | e
        · exact List.mem_cons.mpr (.inl e)
        · exact List.mem_cons_of_mem _ (i2 g e)
theorem length_putF (f : Str) (v : V) : ∀ fs : List (Str × V), (putF f v fs).length ≤ fs.length + 1
  | [] => by simp [putF]
  | (k, x) :: r => by
    have ih := length_putF f v r
    rw [show putF f v ((k, x) :: r) = (if k = f then (k, v) :: r else (k, x) :: putF f v r) from rfl]
    by_cases hk : k = f
    · rw [if_pos hk, List.length_cons, List.length_cons]; omega
    · rw [if_neg hk, List.length_cons, List.length_cons]; omega

theorem RelO.some_of {v : V} {o : Option Value} (r : RelO (some v) o) : ∃ u, o = some u ∧ RelV v u := by
  cases o with
  | none => exact (show False from r).elim
  | some u => exact ⟨u, rfl, r⟩
theorem RelO.none_of {o : Option Value} (r : RelO none o) : o = none := by
  cases o with
  | none => rfl
  | some u => exact (show False from r).elim
theorem handed_of {v : V} {u : Value} (r : RelV v u) : PySem.W.handedIn u = true := by
  cases v with
  | non => cases (show u = Value.none from r); rfl
  | bl b => cases (show u = Value.bool b from r); rfl
  | int i => obtain ⟨t, e⟩ := (show ∃ t, u = Value.int i t from r); cases e; rfl
  | str x => obtain ⟨t, e⟩ := (show ∃ t, u = Value.str x t from r); cases e; rfl
  | byt b => obtain ⟨t, e⟩ := (show ∃ t, u = Value.bytes b t from r); cases e; rfl
  | flt b => obtain ⟨t, e⟩ := (show ∃ t, u = Value.float b t from r); cases e; rfl
  | ref a => cases (show u = Value.ref a from r); rfl
  | ty n => cases (show u = Value.type n from r); rfl

section
variable {P : Program} {w : World} {H H' : Hp} {h h' : Heap} {a C dx : Addr} {fs fs' : List (Str × V)}
theorem ins_get (hok : HOk P w H h) (e : H a = some (.ins C dx fs)) : ∃ mA, ObjM h a dx C mA ∧ (∀ f, RelO (fs.lookup f) (mA f)) ∧ PySem.Within mA (fs.map (·.1)) ∧ fs.length ≤ 1000 ∧ H dx = some (.own a) := by
  obtain ⟨d, z, ne, ob, mA, n, r, q⟩ := (show ObjOk P w H h a (.ins C dx fs) from hok a _ e)
  exact ⟨mA, ⟨ob, n, ne⟩, r, q, z, d⟩
end

/-! ### what of the text a class must have -/
structure Cls (K : PySem.W.Frag) (C : Addr) : Prop where
  pg : PySem.W.plainGet K C Str.empty = true
  hd : PySem.W.hasDictIn K C = true
  po : PySem.W.plainOver K C = true
  sa : PySem.W.findIn K (.ref C) "__setattr__" = some (some (.builtin "object.__setattr__"))
theorem Cls.get {K : PySem.W.Frag} {C : Addr} (c : Cls K C) (f : Str) : PySem.W.plainGet K C f = true := c.pg
/-- no class of it has the name -/
def NoAttr (K : PySem.W.Frag) (C : Addr) (f : Str) : Prop := PySem.W.findIn K (.ref C) f = some none
theorem NoAttr.taker {K : PySem.W.Frag} {C : Addr} {f : Str} (n : NoAttr K C f) : PySem.W.takerIn K C f = some none := by
  unfold PySem.W.takerIn
  rw [show PySem.W.findIn K (.ref C) f = some none from n]
  rfl
/-- a constant of the class -/
structure Con (K : PySem.W.Frag) (C : Addr) (f : Str) (v : V) (u : Value) : Prop where
  at_ : PySem.W.findIn K (.ref C) f = some (some u)
  rel : RelV v u
  get : PySem.W.specialIn K u "__get__" = some none
  cp : PySem.W.copiedNames.contains f = false
/-- a method: a plain def of the class or of one above it -/
structure Meth (K : PySem.W.Frag) (C : Addr) (m : Str) (f : Addr) : Prop where
  at_ : PySem.W.findIn K (.ref C) m = some (some (.ref f))
  fn : PySem.W.isFn K (.ref f) = true
  kp : PySem.W.keepIn K (.ref f) = true

section
variable {X : Cx} {pins : List (Addr × Obj)} {σ : St} {H : Hp} {s : Shared} {a C dx : Addr} {fs : List (Str × V)} {f : Str} {v : V} {A : Around} {E : Value → Shared → Prop}

theorem getattr_ok {b : Bool} {Q : Value → Shared → Prop} (I : Inv X pins σ H s) (e : H a = some (.ins C dx fs)) (c : Cls X.K C) (n : NoAttr X.K C f) (l : fs.lookup f = some v)
    (h : ∀ u s', Inv X pins σ H s' → RelV v u → Q u s') : wpAny (model X.prog X.w) A (getAttr (.ref a) f b) Q E s := by
  obtain ⟨mA, O, r, _, _, _⟩ := ins_get I.hok e
  obtain ⟨u, hu, ru⟩ := RelO.some_of (v := v) (o := mA f) (by rw [← l]; exact r f)
  exact get_map I.kIn O (c.get f) c.hd n hu (handed_of ru) (h u _ (I.tok _) ru)

theorem getmeth_ok {m : Str} {g : Addr} {pl : Sem Bool} {Q : Value × List Value → Shared → Prop} (I : Inv X pins σ H s) (e : H a = some (.ins C dx fs)) (c : Cls X.K C) (k : Meth X.K C m g) (l : fs.lookup m = none)
    (h : Q (.ref g, [.ref a]) s) : wpAny (model X.prog X.w) A (getMethod (.ref a) m pl) Q E s := by
  obtain ⟨mA, O, r, _, _, _⟩ := ins_get I.hok e
  have hn : mA m = none := RelO.none_of (by rw [← l]; exact r m)
  exact get_meth I.kIn O (c.get m) k.at_ k.fn hn h

theorem setattr_ok {y : V} {u : Value} {Q : Unit → Shared → Prop} (I : Inv X pins σ H s) (e : H a = some (.ins C dx fs)) (c : Cls X.K C) (n : NoAttr X.K C f) (hl : fs.length < 1000) (ry : RelV y u)
    (h : ∀ s', Inv X pins σ (upd H a (.ins C dx (putF f y fs))) s' → Q () s') : wpAny (model X.prog X.w) A (setAttr (.ref a) f u) Q E s := by
  obtain ⟨mA, O, r, wi, _, ho⟩ := ins_get I.hok e
  have hz : (fs.map (·.1)).length ≤ sizeLine := by rw [List.length_map, sizeLine_eq]; omega
  refine set_map I.kIn O c.sa c.po n.taker c.hd wi hz fun h' O' sb => h _ ?_
  have hd : ∃ o, h'.get? dx = some o := let ⟨o, _, _, e', _⟩ := O'.ns; ⟨o, e'⟩
  refine I.write (x := a) (e := dx) (by rw [e]; exact True.intro) (.inr ho) (fun b q hb z => (sb.2 b hb).trans z) hd ?_
  refine ⟨by rw [upd_ne O.ne]; exact ho, ?_, O.ne, O'.obj, _, O'.ns, fun g => ?_, fun g hg => ?_⟩
  · have := length_putF f y fs; omega
  · show RelO ((putF f y fs).lookup g) (if g = f then some u else mA g)
    rw [lookup_putF]
    by_cases q : g = f
    · rw [if_pos q, if_pos q]; exact ry
    · rw [if_neg q, if_neg q]; exact r g
  · by_cases q : g = f
    · rw [q]; exact (keys_putF f y fs).1
    · refine (keys_putF f y fs).2 g (wi g fun z => hg ?_)
      show (if g = f then some u else mA g) = none
      rw [if_neg q]; exact z

/-- a new instance, tracked, without attributes -/
theorem Inv.made (I : Inv X pins σ H s) : Inv X pins σ (upd (upd H s.heap.objs.size (.own (s.heap.objs.size + 1))) (s.heap.objs.size + 1) (.ins C s.heap.objs.size []))
    { s with heap := (s.heap.push PySem.W.emptyDict).push (PySem.W.instObj C s.heap.objs.size) } := by
  have e1 : (s.heap.push PySem.W.emptyDict).get? s.heap.objs.size = some PySem.W.emptyDict := Heap.get?_push_size s.heap rfl
  have e2 : ((s.heap.push PySem.W.emptyDict).push (PySem.W.instObj C s.heap.objs.size)).get? (s.heap.objs.size + 1) = some (PySem.W.instObj C s.heap.objs.size) := by
    have := Heap.get?_push_size (s.heap.push PySem.W.emptyDict) (o := PySem.W.instObj C s.heap.objs.size) rfl
    rwa [Heap.size_push] at this
  have e3 : (s.heap.push PySem.W.emptyDict).Ns s.heap.objs.size (fun _ => none) := ⟨PySem.W.emptyDict, #[], _, e1, rfl, (fun e he => absurd he (by simp)), fun _ => rfl⟩
  have I1 := I.laid (a := s.heap.objs.size) (o := .own (s.heap.objs.size + 1)) (h' := s.heap.push PySem.W.emptyDict) (t' := s.toks) (fun b u q => Heap.get?_push_of_some _ q) (Nat.le_refl _) ⟨_, e1⟩
  refine I1.laid (a := s.heap.objs.size + 1) (o := .ins C s.heap.objs.size []) (t' := s.toks) (fun b u q => Heap.get?_push_of_some _ q) (Nat.le_of_eq (Heap.size_push _ _)) ?_
  have ne : s.heap.objs.size ≠ s.heap.objs.size + 1 := Nat.ne_of_lt (Nat.lt_succ_self _)
  refine ⟨by rw [upd_ne ne, upd_same], Nat.zero_le _, ne, e2, fun _ => none, (Heap.Ns1.of_empty e3).at fun o q => Heap.get?_push_of_some _ q, fun _ => True.intro, fun y hy => absurd rfl hy⟩

/-- e.f where nothing but the object is asked: through attributeBase (super) and the last hold -/
theorem attr_of {prog : Program} {w : World} {env : Env} {e : Expr} {f : Str} {pos : Pos} {s : Shared} {Q : Value → Shared → Prop} (hb : attributeBase e f env (eval e env) = eval e env)
    (h : wpAny (model prog w) A (eval e env) (fun o s₁ => wpAny (model prog w) A (getAttr o f true) Q E s₁) E s) : wpAny (model prog w) A (eval (.Attribute e f pos) env) Q E s :=
  Attribute_any_ h (by rw [arm_eval_Attribute, hb])
end

/-! ### readings and rules -/
/-- e.f, an attribute of the instance -/
def tFld (K : PySem.W.Frag) (ta : TE) (f : Str) : TE := fun σ H Q => ta σ H fun x H1 => ∃ a C dx fs v, x = .ref a ∧ H1 a = some (.ins C dx fs) ∧ Cls K C ∧ NoAttr K C f ∧ fs.lookup f = some v ∧ Q v H1
/-- e.f, a constant of the class -/
def tCon (K : PySem.W.Frag) (ta : TE) (f : Str) : TE := fun σ H Q => ta σ H fun x H1 => ∃ a C dx fs v u, x = .ref a ∧ H1 a = some (.ins C dx fs) ∧ Cls K C ∧ Con K C f v u ∧ fs.lookup f = none ∧ Q v H1
/-- e.f = value -/
def sFld (K : PySem.W.Frag) (ta tv : TE) (f : Str) : TS := fun D σ H => tv σ H fun y H1 => ta σ H1 fun x H2 => ∃ a C dx fs, x = .ref a ∧ H2 a = some (.ins C dx fs) ∧ Cls K C ∧ NoAttr K C f ∧ fs.length < 1000 ∧
  D.nx σ (upd H2 a (.ins C dx (putF f y fs)))
/-- an augmented operator on two values -/
def InOp (X : Cx) (op : Operator) (rd : V → V → Hp → VK → Prop) : Prop :=
  ∀ (pins : List (Addr × Obj)) (s : Shared) (σ : St) (H : Hp) (x y : V) (u v : Value) (Q : VK), Inv X pins σ H s → RelV x u → RelV y v → rd x y H Q → wpAny (model X.prog X.w) X.A (inplaceOp op u v) (EP X pins σ Q) X.xe s
/-- e.f op= value -/
def sFldAug (K : PySem.W.Frag) (ta tv : TE) (rd : V → V → Hp → VK → Prop) (f : Str) : TS := fun D σ H => ta σ H fun x H1 => ∃ a C dx fs v, x = .ref a ∧ H1 a = some (.ins C dx fs) ∧ Cls K C ∧ NoAttr K C f ∧ fs.lookup f = some v ∧
  tv σ H1 fun y H2 => rd v y H2 fun z H3 => ∃ dx' fs', H3 a = some (.ins C dx' fs') ∧ fs'.length < 1000 ∧ D.nx σ (upd H3 a (.ins C dx' (putF f z fs')))

section
variable {X : Cx} {o e value : Expr} {f : Str} {pos pos' tpos : Pos} {ta tv : TE}
theorem pe_fld (he : PE X e ta) (hb : attributeBase e f X.env (eval e X.env) = eval e X.env) : PE X (.Attribute e f pos) (tFld X.K ta f) := by
  intro pins s σ H Q I h
  refine attr_of hb (thn (he pins s σ H _ I h) fun u s1 ⟨x, H1, I1, rx, a, C, dx, fs, v, ex, ea, c, n, l, q⟩ => ?_)
  subst ex
  obtain rfl : u = Value.ref a := rx
  exact getattr_ok I1 ea c n l fun u' s2 I2 ru => ⟨v, H1, I2, ru, q⟩
theorem ps_fld (ha : PE X o ta) (hv : PE X value tv) (hs : swapsWith value (some (.Attribute o f pos')) pos.line X.env = pure false) : PS X (.Assign [.Attribute o f pos'] value pos) (sFld X.K ta tv f) := by
  intro pins s σ H D I h
  refine plainObj_wpAny_Assign_Attribute (thn (hv pins s σ H _ I h) fun u s1 ⟨y, H1, I1, ry, q⟩ => thn (ha pins s1 σ H1 _ I1 q) fun ov s2 ⟨x, H2, I2, rx, a, C, dx, fs, ex, ea, c, n, l, q2⟩ => ?_) hs
  subst ex
  obtain rfl : ov = Value.ref a := rx
  exact setattr_ok I2 ea c n l ry fun s3 I3 => ⟨σ, _, I3, q2⟩
def rAdd : V → V → Hp → VK → Prop := fun x y H Q => ∃ i j, x = .int i ∧ y = .int j ∧ Q (.int (i + j)) H
def rSub : V → V → Hp → VK → Prop := fun x y H Q => ∃ i j, x = .int i ∧ y = .int j ∧ Q (.int (i - j)) H
end

/-! ### isinstance -/
section
variable {X : Cx} {pins : List (Addr × Obj)} {σ : St} {H : Hp} {s : Shared} {A : Around} {E : Value → Shared → Prop} {Q : Value → Shared → Prop} {c : Value} {b : Bool}
/-- the type of a value, as the fragment's deciders take it; for an instance its class -/
inductive TyOf (K : PySem.W.Frag) (H : Hp) : V → Value → Prop where
  | non : TyOf K H .non (.type "NoneType")
  | bl (x : Bool) : TyOf K H (.bl x) (.type "bool")
  | int (i : Int) : TyOf K H (.int i) (.type "int")
  | str (x : Str) : TyOf K H (.str x) (.type "str")
  | flt (x : UInt64) : TyOf K H (.flt x) (.type "float")
  | lst {a : Addr} {xs : List V} (e : H a = some (.lst xs)) : TyOf K H (.ref a) (.type "list")
  | frz {a : Addr} {o : Obj} {xs : List V} (e : H a = some (.frz o (.lst xs))) : TyOf K H (.ref a) (.type "list")
  | tup {a : Addr} {xs : List V} (e : H a = some (.tup xs)) : TyOf K H (.ref a) (.type "tuple")
  | dK {a : Addr} {kvs : List (Key × V)} (e : H a = some (.dK kvs)) : TyOf K H (.ref a) (.type "dict")
  | dT {a : Addr} {kvs : List (List Key × V)} (e : H a = some (.dT kvs)) : TyOf K H (.ref a) (.type "dict")
  | ins {a C dx : Addr} {fs : List (Str × V)} (e : H a = some (.ins C dx fs)) (cl : Cls K C) (ha : PySem.W.findIn K (.ref C) "__class__" = some (some (.builtin "object.__class__")))
      (hn : PySem.W.specialIn K (.builtin "object.__class__") "__get__" = some (some (.builtin "getset_descriptor.__get__"))) (htk : PySem.W.takesIn K (.builtin "object.__class__") = some true)
      (hm : PySem.W.mroIn K C (.type "object") = some true) : TyOf K H (.ref a) (.ref C)
end
end L2

namespace L2
open PySem PySem.Spec PyProof.Rows

/-! ### room -/
structure Room (k : Nat) (A : Around) : Prop where
  hd : A.handled = none
  dp : A.depth + 3 * k + 5 < recursionLimit
  un : A.units + 16 * k + 200 < cLine
theorem Room.mono {j k : Nat} {A : Around} (r : Room k A) (h : j ≤ k) : Room j A := ⟨r.hd, by have := r.dp; omega, by have := r.un; omega⟩
theorem Room.deeper {k : Nat} {A : Around} (r : Room (k + 1) A) (env : Env) : Room k (A.deeper env) :=
  ⟨r.hd, by have := r.dp; show A.depth + 1 + 3 * k + 5 < _; omega, by have := r.un; show A.units + 3 + 16 * k + 200 < _; omega⟩
theorem Room.in1 {k : Nat} {A : Around} (r : Room (k + 1) A) : Room k A.in1 :=
  ⟨r.hd, by have := r.dp; show A.depth + 3 * k + 5 < _; omega, by have := r.un; show A.units + 1 + 16 * k + 200 < _; omega⟩
theorem make_depth {A : Around} {C : Addr} {us : List Value} {kw : List (Str × Value)} : (A.under (.builtin "type.__call__" ⟨.ref C :: us, kw⟩)).depth = A.depth + 1 := by
  first | rfl | simp [Around.under, Code.weight, Code.isCreation, Code.isGuard, Code.isCaller, Code.frames, Code.isFrame, guardIds]
theorem make_units {A : Around} {C : Addr} {us : List Value} {kw : List (Str × Value)} : (A.under (.builtin "type.__call__" ⟨.ref C :: us, kw⟩)).units = A.units + 1 := by
  first | rfl | simp [Around.under, Code.cUnits, Code.frames, Code.isFrame]
theorem Room.make {k : Nat} {A : Around} (r : Room (k + 1) A) (C : Addr) (us : List Value) (kw : List (Str × Value)) : Room k (A.under (.builtin "type.__call__" ⟨.ref C :: us, kw⟩)) :=
  ⟨r.hd, by have := r.dp; rw [make_depth]; omega, by have := r.un; rw [make_units]; omega⟩
theorem Room.depth {k : Nat} {A : Around} (r : Room k A) : A.depth < recursionLimit := by have := r.dp; omega
theorem Room.units {k : Nat} {A : Around} (r : Room k A) : A.units + 64 < cLine := by have := r.un; omega
/-! ### argument lists and displays -/
def tNil : TA := fun _ H Q => Q [] H
def tCons (ta : TE) (tr : TA) : TA := fun σ H Q => ta σ H fun x H1 => tr σ H1 fun xs H2 => Q (x :: xs) H2
section
variable {X : Cx} {e : Expr} {es : List Expr} {te : TE} {t : TA} {pos : Pos}
theorem pa_nil : PA X [] tNil := fun _ _ _ _ H Q I h => Calls.spliced_nil ⟨[], H, I, .nil, h⟩
theorem pa_cons (ha : PE X e te) (hr : PA X es t) (hs : starEach (e :: es) X.env = (false, eval e X.env) :: starEach es X.env := by rfl) : PA X (e :: es) (tCons te t) := by
  intro pos pins s σ H Q I h
  rw [hs]
  show wpAny _ _ (spliced ((false, eval e X.env) :: backTo pos (starEach es X.env))) _ _ s
  refine Calls.spliced_cons (thn (ha pins s σ H _ I h) fun u s1 ⟨x, H1, I1, r1, q1⟩ => ?_)
  exact thn (hr pos pins s1 σ H1 _ I1 q1) fun us s2 ⟨xs, H2, I2, r2, q2⟩ => ⟨x :: xs, H2, I2, .cons r1 r2, q2⟩

/-- a tuple, a list of written items -/
def tTup (t : TA) : TE := fun σ H Q => t σ H fun xs H1 => xs.length ≤ sizeLine ∧ ∀ p, H1 p = none → Q (.ref p) (upd H1 p (.tup xs))
def tLst (t : TA) : TE := fun σ H Q => t σ H fun xs H1 => xs.length ≤ sizeLine ∧ ∀ p, H1 p = none → Q (.ref p) (upd H1 p (.lst xs))
theorem pe_lst (h : PA X es t) : PE X (.List es pos) (tLst t) := by
  intro pins s σ H Q I hq
  refine wpAny_List_spliced (thn (h pos pins s σ H _ I hq) fun us s1 ⟨xs, H1, I1, r, z, q⟩ => ⟨by rw [← r.length]; exact z, ?_⟩)
  have hf : H1 s1.heap.objs.size = none := I1.hok.fresh (Nat.le_refl _)
  refine ⟨.ref s1.heap.objs.size, upd H1 s1.heap.objs.size (.lst xs), I1.laid (t' := s1.toks) (fun b u e => Heap.get?_push_of_some _ e) (Nat.le_refl _) ?_, rfl, q _ hf⟩
  exact ⟨z, us, 0, r, Heap.get?_push_size _ rfl⟩
end

/-! ### what a def promises -/
/-- a def's promise: the bound arguments in the parameters' order, the heap, the wanted end, the wanted exception -/
abbrev Sp := List V → Hp → VK → XK → Prop
/-- how an exception lies behind a call (file 08 gives it): the callers' frames, abstract heap and state ahead of the call, the wish, the exception, the state -/
abbrev CXT := List Env → Hp → Shared → XK → Value → Shared → Prop

/-- the state at a call -/
structure Env0 (P : Program) (w : World) (K : PySem.W.Frag) (mg : Str → Option Value) (base : Heap) (A : Around) (outer : List Env) (s : Shared) (H : Hp) : Prop where
  frames : A.frames = some outer
  mod : Mod K mg base
  bs : ∀ b o, base.get? b = some o → s.heap.get? b = some o ∧ H b = none
  bsz : base.objs.size ≤ s.heap.objs.size
  funs : s.heap.FunFrames base outer
  frf : ∀ b ∈ frs outer, H b = none
  hok : HOk P w H s.heap
  bare : AllBare s.gens
/-- a call's end -/
def CE (outer : List Env) (P : Program) (w : World) (H : Hp) (s : Shared) (Q : VK) (u : Value) (s' : Shared) : Prop :=
  ∃ v H', s'.os = s.os ∧ AllBare s'.gens ∧ Un (frs outer) [] H H' s.heap s'.heap ∧ HOk P w H' s'.heap ∧ RelV v u ∧ Q v H'
def CR (CX : CXT) (outer : List Env) (P : Program) (w : World) (H : Hp) (s : Shared) (Q : VK) (E : XK) (r : Result) (s' : Shared) : Prop :=
  match r with
  | .ok (.ret u) => CE outer P w H s Q u s'
  | .ok _ => False
  | .error e => CX outer H s E e s'
structure FnOk (P : Program) (w : World) (K : PySem.W.Frag) (mg : Str → Option Value) (base : Heap) (CX : CXT) (k : Nat) (f : Addr) (fd : FuncData) (ps : List Str) (sp : Sp) : Prop where
  len : ∀ vs H Q E, sp vs H Q E → vs.length = ps.length
  run : ∀ (A : Around) (outer : List Env) (s : Shared) (H : Hp) (args : Args) (us : List Value) (vs : List V) (Q : VK) (E : XK), Room k A → Env0 P w K mg base A outer s H → BindsTo s fd args (ps.zip us) → Vals vs us → sp vs H Q E →
    codeAny (model P w) A (.call (.ref f) args) (CR CX outer P w H s Q E) s
theorem FnOk.mono {P : Program} {w : World} {K : PySem.W.Frag} {mg : Str → Option Value} {base : Heap} {CX : CXT} {j k : Nat} {f : Addr} {fd : FuncData} {ps : List Str} {sp : Sp} (F : FnOk P w K mg base CX j f fd ps sp) (h : j ≤ k) :
    FnOk P w K mg base CX k f fd ps sp := ⟨F.len, fun A outer s H args us vs Q E hr => F.run A outer s H args us vs Q E (hr.mono h)⟩
theorem Env0.make {P : Program} {w : World} {K : PySem.W.Frag} {mg : Str → Option Value} {base : Heap} {A : Around} {outer : List Env} {s : Shared} {H : Hp} (e : Env0 P w K mg base A outer s H) (C : Addr) (us : List Value) (kw : List (Str × Value)) :
    Env0 P w K mg base (A.under (.builtin "type.__call__" ⟨.ref C :: us, kw⟩)) outer s H := ⟨by first | exact e.frames | (simpa [Around.under, Code.envs, Code.isFrame, pushEnvs] using e.frames), e.mod, e.bs, e.bsz, e.funs, e.frf, e.hok, e.bare⟩
theorem Env0.in1 {P : Program} {w : World} {K : PySem.W.Frag} {mg : Str → Option Value} {base : Heap} {A : Around} {outer : List Env} {s : Shared} {H : Hp} (e : Env0 P w K mg base A outer s H) :
    Env0 P w K mg base A.in1 outer s H := ⟨e.frames, e.mod, e.bs, e.bsz, e.funs, e.frf, e.hok, e.bare⟩

section
variable {X : Cx} {pins : List (Addr × Obj)} {σ : St} {H : Hp} {s s' : Shared}
/-- from a body: what a callee wants -/
theorem Inv.env0 (I : Inv X pins σ H s) : Env0 X.prog X.w X.K X.mg X.base X.A X.stack s H :=
  ⟨I.ok.frames, I.ok.mod, I.bs, Nat.le_trans I.ok.bsz I.sz, I.stack, I.stkFree, I.hok, I.bare⟩
/-- behind a call -/
theorem Inv.after {Q : VK} {u : Value} (I : Inv X pins σ H s) (h : CE X.stack X.prog X.w H s Q u s') : EP X pins σ Q u s' := by
  obtain ⟨v, H', os, bare, un, hok, r, q⟩ := h
  obtain ⟨hh, g, d, t, os'⟩ := s'
  obtain rfl : os' = s.os := os
  exact ⟨v, H', I.call (h' := hh) (g' := g) (d' := d) (t' := t) (ch := []) un hok bare (fun b z => absurd z (by simp)), r, q⟩
end

/-! ### calls -/
/-- f(..): the written arguments, then the defaults dvs; E: what is wanted of an exception -/
def tCall (sp : Sp) (dvs : List V) (E : XK) (t : TA) : TE := fun σ H Q => t σ H fun vs H1 => sp (vs ++ dvs) H1 Q E
/-- o.m(..) of an instance of the class at C -/
def tMeth (C : Addr) (m : Str) (sp : Sp) (dvs : List V) (E : XK) (ta : TE) (t : TA) : TE := fun σ H Q => ta σ H fun x H1 => ∃ a dx fs, x = .ref a ∧ H1 a = some (.ins C dx fs) ∧ fs.lookup m = none ∧
  t σ H1 fun vs H2 => sp (x :: (vs ++ dvs)) H2 Q E
/-- C(..): a new instance and its dict, then __init__ -/
def tMake (C : Addr) (sp : Sp) (dvs : List V) (E : XK) (t : TA) : TE := fun σ H Q => t σ H fun vs H1 => ∀ x dx, H1 x = none → H1 dx = none → dx ≠ x →
  sp (.ref x :: (vs ++ dvs)) (upd (upd H1 dx (.own x)) x (.ins C dx [])) (fun v H2 => v = .non ∧ Q (.ref x) H2) E

/-- how the parameters are bound: us the positional arguments, kw the keywords' values by name, ds the defaults that fill up -/
def Binds (K : PySem.W.Frag) (fd : FuncData) (ps : List Str) (ds : List Value) : Prop :=
  ∀ (s : Shared) (us : List Value), K.In s.heap → (us ++ ds).length = ps.length → BindsTo s fd ⟨us, []⟩ (ps.zip (us ++ ds))
/-- every parameter is given -/
theorem Binds.all {K : PySem.W.Frag} {fd : FuncData} {ps : List Str} (h : ∀ us : List Value, us.length = ps.length → bindArgs fd ⟨us, []⟩ = pure (ps.zip us)) : Binds K fd ps [] := fun s us _ hl => by
  rw [List.append_nil] at hl ⊢
  exact .of_eq (h us hl)

/-- an exception of a callee reaches what this body wants of exceptions -/
def Passes (CX : CXT) (X : Cx) (E : XK) : Prop := ∀ (pins : List (Addr × Obj)) (σ : St) (H : Hp) (s : Shared) (e : Value) (s' : Shared), Inv X pins σ H s → CX X.stack H s E e s' → X.xe e s'

section
variable {X : Cx} {CX : CXT} {k : Nat} {f C : Addr} {fd : FuncData} {ps : List Str} {sp : Sp} {dvs : List V} {ds : List Value} {E : XK} {x m : Str} {p pos apos : Pos} {e o : Expr} {es : List Expr} {ta : TE} {t : TA}

/-- the callee runs -/
theorem run_fn {pins : List (Addr × Obj)} {σ : St} {H : Hp} {s : Shared} {Q : VK} {us : List Value} {vs : List V} (F : FnOk X.prog X.w X.K X.mg X.base CX k f fd ps sp) (hr : Room k X.A) (hb : Binds X.K fd ps ds) (hd : Vals dvs ds) (hx : Passes CX X E)
    (I : Inv X pins σ H s) (r : Vals vs us) (h : sp (vs ++ dvs) H Q E) : wpAny (model X.prog X.w) X.A (call (.ref f) us) (EP X pins σ Q) X.xe s := by
  have r2 : Vals (vs ++ dvs) (us ++ ds) := r.append hd
  have hl : (us ++ ds).length = ps.length := by rw [← r2.length]; exact F.len _ _ _ _ h
  refine wpAny_call (codeAny_mono (F.run X.A X.stack s H ⟨us, []⟩ (us ++ ds) (vs ++ dvs) Q E hr I.env0 (hb s us I.kIn hl) r2 h) fun r s' hq => ?_)
  cases r with
  | error e => exact hx pins σ H s e s' I hq
  | ok fl =>
    cases fl with
    | ret u => exact I.after hq
    | next => exact False.elim hq
    | brk => exact False.elim hq
    | cont => exact False.elim hq

theorem pe_call (F : FnOk X.prog X.w X.K X.mg X.base CX k f fd ps sp) (hr : Room k X.A) (hg : Gl X x) (hm : X.mg x = some (.ref f)) (hk : PySem.W.keepIn X.K (.ref f) = true) (hb : Binds X.K fd ps ds) (hd : Vals dvs ds) (hx : Passes CX X E)
    (ha : PA X (e :: es) t) (hdb : (x == ("__debug__" : Str)) = false := by decide) (he : starEach (e :: es) X.env = (false, eval e X.env) :: starEach es X.env := by rfl) (hpl : (backTo pos (starEach es X.env)).any (·.1) = false := by rfl) :
    PE X (.Call (.Name x p) (e :: es) [] pos) (tCall sp dvs E t) := by
  intro pins s σ H Q I h
  refine wpAny_Call_Name_kw (ld_glob I hg hm ?_ hdb)
  refine PySem.W.callWith_K (h₀ := X.base) I.ok.mod.kin hk (thn (ha pos pins s σ H _ I h) fun us s1 ⟨vs, H1, I1, r, q⟩ => ⟨I1.kIn, ?_⟩) he hpl
  exact run_fn F hr hb hd hx I1 r q
/-- o.m(e, ..) -/
theorem pe_meth {pl : Sem Bool} (he : PE X o ta) (c : Cls X.K C) (hm : Meth X.K C m f) (F : FnOk X.prog X.w X.K X.mg X.base CX k f fd ps sp) (hr : Room k X.A) (hb : Binds X.K fd ps ds) (hd : Vals dvs ds) (hx : Passes CX X E) (ha : PA X (e :: es) t)
    (hst : starEach (e :: es) X.env = (false, eval e X.env) :: starEach es X.env := by rfl) (hpl : (backTo pos (starEach es X.env)).any (·.1) = false := by rfl)
    (ht : eval (.Call (.Attribute o m apos) (e :: es) [] pos) X.env = (do
      let ov ← eval o X.env
      standAt apos.atName
      let (f, first) ← holding [ov] (getMethod ov m pl)
      callWith pos f first (backTo pos (starEach (e :: es) X.env)) (backToKw pos (keywordEach [] X.env))) := by rfl) :
    PE X (.Call (.Attribute o m apos) (e :: es) [] pos) (tMeth C m sp dvs E ta t) := by
  intro pins s σ H Q I h
  refine PySem.W.methodCall_KW (pl := pl) (thn (he pins s σ H _ I h) fun u s1 ⟨x, H1, I1, rx, a, dx, fs, ex, ea, l, q⟩ => ?_) ht
  subst ex
  obtain rfl : u = Value.ref a := rx
  refine getmeth_ok I1 ea c hm l ?_
  refine PySem.W.callWith_K (first := [.ref a]) (h₀ := X.base) I.ok.mod.kin hm.kp (thn (ha pos pins s1 σ H1 _ I1 q) fun us s2 ⟨vs, H2, I2, r, q2⟩ => ⟨I2.kIn, ?_⟩) hst hpl
  exact run_fn (us := .ref a :: us) (vs := .ref a :: vs) F hr hb hd hx I2 (.cons rfl r) q2
/-- o.m() -/
theorem pe_meth0 {pl : Sem Bool} (he : PE X o ta) (c : Cls X.K C) (hm : Meth X.K C m f) (F : FnOk X.prog X.w X.K X.mg X.base CX k f fd ps sp) (hr : Room k X.A) (hb : Binds X.K fd ps ds) (hd : Vals dvs ds) (hx : Passes CX X E)
    (ht : eval (.Call (.Attribute o m apos) [] [] pos) X.env = (do
      let ov ← eval o X.env
      standAt apos.atName
      let (f, first) ← holding [ov] (getMethod ov m pl)
      callWith pos f first (backTo pos (starEach [] X.env)) (backToKw pos (keywordEach [] X.env))) := by rfl) :
    PE X (.Call (.Attribute o m apos) [] [] pos) (tMeth C m sp dvs E ta tNil) := by
  intro pins s σ H Q I h
  refine PySem.W.methodCall_KW (pl := pl) (thn (he pins s σ H _ I h) fun u s1 ⟨x, H1, I1, rx, a, dx, fs, ex, ea, l, q⟩ => ?_) ht
  subst ex
  obtain rfl : u = Value.ref a := rx
  refine getmeth_ok I1 ea c hm l ?_
  exact PySem.W.callWith_K0 (first := [.ref a]) I1.kIn hm.kp (run_fn (us := [.ref a]) (vs := [.ref a]) F hr hb hd hx I1 (.cons rfl .nil) q)

/-- what a class must have to be made -/
structure Mk (K : PySem.W.Frag) (C f : Addr) : Prop where
  makes : PySem.W.makesIn K C = true
  init : PySem.W.findIn K (.ref C) "__init__" = some (some (.ref f))
  fn : PySem.W.isFn K (.ref f) = true
  kp : PySem.W.keepIn K (.ref C) = true

theorem run_make {pins : List (Addr × Obj)} {σ : St} {H : Hp} {s : Shared} {Q : VK} {us : List Value} {vs : List V} (M : Mk X.K C f) (F : FnOk X.prog X.w X.K X.mg X.base CX k f fd ps sp) (hr : Room (k + 1) X.A) (hb : Binds X.K fd ps ds) (hd : Vals dvs ds)
    (hx : Passes CX X E) (I : Inv X pins σ H s) (r : Vals vs us)
    (h : ∀ x dx, H x = none → H dx = none → dx ≠ x → sp (.ref x :: (vs ++ dvs)) (upd (upd H dx (.own x)) x (.ins C dx [])) (fun v H2 => v = .non ∧ Q (.ref x) H2) E) :
    wpAny (model X.prog X.w) X.A (call (.ref C) us) (EP X pins σ Q) X.xe s := by
  have hq := h (s.heap.objs.size + 1) s.heap.objs.size (I.hok.fresh (Nat.le_succ _)) (I.hok.fresh (Nat.le_refl _)) (Nat.ne_of_lt (Nat.lt_succ_self _))
  have I2 := Inv.made (C := C) I
  have r2 : Vals (V.ref (s.heap.objs.size + 1) :: (vs ++ dvs)) (Value.ref (s.heap.objs.size + 1) :: (us ++ ds)) := .cons rfl (r.append hd)
  have hl : (Value.ref (s.heap.objs.size + 1) :: us ++ ds).length = ps.length := by
    have e := r2.length
    rw [F.len _ _ _ _ hq] at e
    exact e.symm
  refine wpAny_call (make_map (f := f) I.kIn M.makes M.init (beq_iff_eq.mp M.fn) (codeAny_mono (F.run _ X.stack _ _ ⟨Value.ref (s.heap.objs.size + 1) :: us, []⟩ (Value.ref (s.heap.objs.size + 1) :: (us ++ ds)) _ _ E (hr.make C us [])
    (I2.env0.make C us []) (hb _ (Value.ref (s.heap.objs.size + 1) :: us) I2.kIn hl) r2 hq) fun r s' hq' => ?_))
  cases r with
  | error e => exact hx pins σ _ _ e s' I2 hq'
  | ok fl =>
    cases fl with
    | ret u =>
      obtain ⟨v, H', I3, rv, ev, q3⟩ := I2.after hq'
      subst ev
      exact ⟨rv, ⟨V.ref (s.heap.objs.size + 1), H', I3, rfl, q3⟩⟩
    | next => exact False.elim hq'
    | brk => exact False.elim hq'
    | cont => exact False.elim hq'
theorem pe_make0 (M : Mk X.K C f) (F : FnOk X.prog X.w X.K X.mg X.base CX k f fd ps sp) (hr : Room (k + 1) X.A) (hg : Gl X x) (hm : X.mg x = some (.ref C)) (hb : Binds X.K fd ps ds) (hd : Vals dvs ds) (hx : Passes CX X E)
    (hdb : (x == ("__debug__" : Str)) = false := by decide) : PE X (.Call (.Name x p) [] [] pos) (tMake C sp dvs E tNil) := by
  intro pins s σ H Q I h
  refine wpAny_Call_Name_kw (ld_glob I hg hm ?_ hdb)
  exact PySem.W.callWith_K0 I.kIn M.kp (run_make (us := []) M F hr hb hd hx I .nil h)
end

/-! ### keywords -/
/-- the values of the keywords, from the left -/
def PK (X : Cx) (kws : List Keyword) (t : TA) : Prop :=
  ∀ (pos : Pos) (pins : List (Addr × Obj)) (s : Shared) (σ : St) (H : Hp) (Q : List V → Hp → Prop), Inv X pins σ H s → t σ H Q → wpAny (model X.prog X.w) X.A (evalAll ((backToKw pos (keywordEach kws X.env)).map (·.2))) (AP X pins σ Q) X.xe s
section
variable {X : Cx} {CX : CXT} {k : Nat} {f C : Addr} {fd : FuncData} {ps ks : List Str} {sp : Sp} {E : XK} {x m : Str} {p pos apos kpos : Pos} {e o : Expr} {es : List Expr} {kws : List Keyword} {te ta : TE} {t tk : TA} {nm : Option Str}
theorem pk_nil : PK X [] tNil := fun _ _ _ _ H Q I h => wpAny_evalAll_nil ⟨[], H, I, .nil, h⟩
theorem pk_cons (ha : PE X e te) (hr : PK X kws t) : PK X (⟨nm, e, kpos⟩ :: kws) (tCons te t) := by
  intro pos pins s σ H Q I h
  show wpAny _ _ (evalAll ((do let v ← eval e X.env; standAt pos; pure v) :: (backToKw pos (keywordEach kws X.env)).map (·.2))) _ _ s
  refine wpAny_evalAll_cons (wpAny_bind (thn (ha pins s σ H _ I h) fun u s1 ⟨x, H1, I1, r1, q1⟩ => wpAny_bind (wpAny_standAt (wpAny_pure ?_))))
  exact thn (hr pos pins s1 σ H1 _ I1 q1) fun us s2 ⟨xs, H2, I2, r2, q2⟩ => ⟨x :: xs, H2, I2, .cons r1 r2, q2⟩

/-- how a call with keywords binds: g puts the positional values us and the keywords' values ws (names ks) in the parameters' order, defaults among them -/
structure KBinds (K : PySem.W.Frag) (fd : FuncData) (ps ks : List Str) (g : List Value → List Value → List Value) (gV : List V → List V → List V) : Prop where
  to : ∀ (s : Shared) (us ws : List Value), K.In s.heap → (g us ws).length = ps.length → BindsTo s fd ⟨us, ks.zip ws⟩ (ps.zip (g us ws))
  rel : ∀ {vs : List V} {us : List Value} {zs : List V} {ws : List Value}, Vals vs us → Vals zs ws → Vals (gV vs zs) (g us ws)
def tCallK (sp : Sp) (gV : List V → List V → List V) (E : XK) (t tk : TA) : TE := fun σ H Q => t σ H fun vs H1 => tk σ H1 fun zs H2 => sp (gV vs zs) H2 Q E
variable {g : List Value → List Value → List Value} {gV : List V → List V → List V}
end

/-! ### a def's body keeps its promise -/
/-- names: the parameters first -/
structure FnScope (N P : List Str) (sc : Scope) : Prop where
  kind : sc.kind = .function
  co : sc.isCoroutine = false
  gen : sc.isGenerator = false
  nd : N.Nodup
  pre : N.take P.length = P
  par : ∀ x ∈ P, sc.names.lookup x = some .local ∨ sc.names.lookup x = some .cell
  nofree : ∀ y ∈ sc.names, y.2 ≠ .free

theorem bindL_out {kindOf : Str → Option NameKind} {x : Str} : ∀ {binds : List (Str × Value)} {m : Str → Option Value}, (∀ v, (x, v) ∉ binds) → bindL kindOf binds m x = m x
  | [], _, _ => rfl
  | (n, v) :: r, m, h => by
    unfold bindL
    rw [bindL_out fun w hw => h w (List.mem_cons_of_mem _ hw)]
    split
    · have : x ≠ n := by rintro rfl; exact h v List.mem_cons_self
      simp [this]
    · rfl
theorem bindC_out {kindOf : Str → Option NameKind} {x : Str} : ∀ {binds : List (Str × Value)} {m : Str → Option Value}, (∀ v, (x, v) ∉ binds) → bindC kindOf binds m x = m x
  | [], _, _ => rfl
  | (n, v) :: r, m, h => by
    unfold bindC
    rw [bindC_out fun w hw => h w (List.mem_cons_of_mem _ hw)]
    split
    · rfl
    · have : x ≠ n := by rintro rfl; exact h v List.mem_cons_self
      simp [this]
theorem bindL_get {kindOf : Str → Option NameKind} {x : Str} {v : Value} : ∀ {P : List Str} {vs : List Value} {i : Nat} {m : Str → Option Value}, P.Nodup → P[i]? = some x → vs[i]? = some v → kindOf x = some .local →
    bindL kindOf (P.zip vs) m x = some v
  | [], _, _, _, _, h, _, _ => by simp at h
  | _ :: _, [], _, _, _, _, h, _ => by simp at h
  | p :: P, w :: vs, 0, m, nd, h1, h2, hk => by
    simp at h1 h2; subst h1; subst h2
    show bindL kindOf ((p, w) :: P.zip vs) m p = _
    unfold bindL
    rw [bindL_out fun v hv => (List.nodup_cons.mp nd).1 (List.of_mem_zip hv).1, if_pos hk]
    simp
  | p :: P, w :: vs, i + 1, m, nd, h1, h2, hk => by
    show bindL kindOf ((p, w) :: P.zip vs) m x = _
    unfold bindL
    exact bindL_get (i := i) (List.nodup_cons.mp nd).2 (by simpa using h1) (by simpa using h2) hk
theorem bindC_get {kindOf : Str → Option NameKind} {x : Str} {v : Value} : ∀ {P : List Str} {vs : List Value} {i : Nat} {m : Str → Option Value}, P.Nodup → P[i]? = some x → vs[i]? = some v → kindOf x ≠ some .local →
    bindC kindOf (P.zip vs) m x = some v
  | [], _, _, _, _, h, _, _ => by simp at h
  | _ :: _, [], _, _, _, _, h, _ => by simp at h
  | p :: P, w :: vs, 0, m, nd, h1, h2, hk => by
    simp at h1 h2; subst h1; subst h2
    show bindC kindOf ((p, w) :: P.zip vs) m p = _
    unfold bindC
    rw [bindC_out fun v hv => (List.nodup_cons.mp nd).1 (List.of_mem_zip hv).1, if_neg hk]
    simp
  | p :: P, w :: vs, i + 1, m, nd, h1, h2, hk => by
    show bindC kindOf ((p, w) :: P.zip vs) m x = _
    unfold bindC
    exact bindC_get (i := i) (List.nodup_cons.mp nd).2 (by simpa using h1) (by simpa using h2) hk

/-- the names' values at the entry -/
def start (N : List Str) (vs : List V) : St := vs.map some ++ List.replicate (N.length - vs.length) none

/-- the context of a def's body, at its entry; an exception leaves the frame, then lies as CX says -/
def cxOf (CX : CXT) (P : Program) (w : World) (K : PySem.W.Frag) (mg : Str → Option Value) (base : Heap) (N : List Str) (qual : Str) (scope : Scope) (f : Addr) (cd : Value) (A : Around) (outer : List Env) (s : Shared) (H : Hp) (E : XK) : Cx where
  prog := P
  w := w
  K := K
  mg := mg
  base := base
  A := A.deeper (envOfC qual scope s.heap.objs.size f cd)
  N := N
  s_0 := s
  H_0 := H
  env := envOfC qual scope s.heap.objs.size f cd
  outer := outer
  stack := envOfC qual scope s.heap.objs.size f cd :: outer
  ex := []
  calm := true
  fn := fun _ => true
  pn := []
  xe := fun e s' => wpAny (model P w) (A.deeper (envOfC qual scope s.heap.objs.size f cd)) (leaving (envOfC qual scope s.heap.objs.size f cd) e) (fun _ s'' => CX outer H s E e s'') (fun e' s'' => CX outer H s E e' s'') s'

theorem cell_has {sc : Scope} {n : Nat} {x : Str} (h : sc.names.lookup x = some .cell) : ∃ c, (cellsFrom n sc.names []).lookup x = some c := by
  have q := PySem.W.cellsFrom_some sc.names n [] (.inl h)
  exact Option.isSome_iff_exists.mp q

theorem inv_start {CX : CXT} {P : Program} {w : World} {K : PySem.W.Frag} {mg : Str → Option Value} {base : Heap} {N ps : List Str} {qual : Str} {scope : Scope} {f : Addr} {cd : Value} {A : Around} {outer : List Env} {s s1 : Shared} {H : Hp} {E : XK} {us : List Value} {vs : List V}
    (S : FnScope N ps scope) (hd : A.handled = none) (e0 : Env0 P w K mg base A outer s H) (hl : vs.length = ps.length) (r : Vals vs us)
    (x : InCallC s s.heap.objs.size (bindL (envOfC qual scope s.heap.objs.size f cd).kindOf (ps.zip us) fun _ => none) (cellsFrom (s.heap.objs.size + 1) scope.names []) (bindC (envOfC qual scope s.heap.objs.size f cd).kindOf (ps.zip us) fun _ => none) s1) :
    Inv (cxOf CX P w K mg base N qual scope f cd A outer s H E) [] (start N vs) H s1 := by
  have hpl : ps.length ≤ N.length := by have := congrArg List.length S.pre; rw [List.length_take] at this; omega
  obtain ⟨h1, tk, rfl, hk⟩ := x.done
  have noA : ∀ b : Addr, b ∉ (cxOf CX P w K mg base N qual scope f cd A outer s H E).ex := fun b z => absurd (show b ∈ ([] : List Addr) from z) (by simp)
  refine ⟨⟨e0.mod, S.kind, rfl, rfl, Nat.le_refl _, fun y z c h1 h2 => ?_, fun y hy => ?_, fun y c _ h => ?_, fun _ => hd, Around.frames_deeper e0.frames, .inr ⟨rfl, rfl⟩, fun b z => absurd z (noA b), e0.bs, e0.bsz, fun b _ _ => noA b, fun b z => absurd z (noA b), e0.funs, e0.frf⟩,
    rfl, e0.bare, Un.kept hk, ⟨_, x.toInCall.ns, fun i y v h1 h2 h3 => ?_⟩, fun y c h => ⟨_, x.cell y c h⟩, e0.hok.fresh (Nat.le_refl _), fun y c h => ?_, fun p hp => absurd (show p ∈ ([] : List (Addr × Obj)) from hp) (by simp), e0.hok.kept hk, ?_⟩
  · exact name_of_addr x.apart (PySem.mem_of_lookup h1) (PySem.mem_of_lookup h2)
  · have hy : scope.names.lookup y = some .cell ∨ scope.names.lookup y = some .free := hy
    rcases hy with hy | hy
    · exact cell_has hy
    · exact absurd rfl (S.nofree _ (PySem.mem_of_lookup hy))
  · exact Nat.le_of_lt (x.above y c (PySem.mem_of_lookup h))
  · have hi : i < vs.length := by
      unfold start at h2
      by_cases hi : i < vs.length
      · exact hi
      · rw [List.getElem?_append_right (by simpa using hi)] at h2
        rw [List.getElem?_replicate] at h2
        split at h2 <;> cases h2
    have ha : vs[i]? = some v := by
      unfold start at h2
      rw [List.getElem?_append_left (by simpa using hi), List.getElem?_map] at h2
      cases e : vs[i]? with
      | none => rw [e] at h2; cases h2
      | some a => rw [e] at h2; cases h2; rfl
    obtain ⟨u, hu, rv⟩ := r.get ha
    have hp : ps[i]? = some y := by
      rw [← S.pre, List.getElem?_take_of_lt (by omega)]; exact h1
    have ndP : ps.Nodup := by rw [← S.pre]; exact S.nd.sublist (List.take_sublist _ _)
    refine ⟨u, rv, ?_⟩
    rcases S.par y (List.mem_of_getElem? hp) with k | k
    · exact .inl ⟨k, bindL_get ndP hp hu k⟩
    · obtain ⟨c, e⟩ := cell_has (n := s.heap.objs.size + 1) k
      refine .inr ⟨.inl k, c, e, ?_⟩
      have q := x.cell y c e
      rw [bindC_get ndP hp hu (by show scope.names.lookup y ≠ _; rw [k]; decide)] at q
      exact q
  · exact e0.hok.fresh (Nat.le_of_lt (x.above y c (PySem.mem_of_lookup h)))
  · unfold start
    show _ = N.length
    rw [List.length_append, List.length_map, List.length_replicate]
    omega

/-- THE RULE: a def (or a method) of the text, by its body. The body's reading t is chosen for each entry; it is run at the parameters' values -/
theorem fn_of {CX : CXT} {P : Program} {w : World} {K : PySem.W.Frag} {mg : Str → Option Value} {base : Heap} {k : Nat} {f : Addr} {name qual : Str} {params : Arguments} {body : List Stmt} {scope : Scope} {dV kV doc pm cdv ct oc : Value} {an od : Option Addr}
    {osl : Array (Option Value)} {N ps : List Str} {sp : Sp} (lk : K.lookup f = some ⟨oc, od, .func (PySem.W.fnOf name qual params body scope dV kV doc pm an cdv ct), osl⟩) (hcd : PySem.W.codeIn K cdv qual = true) (S : FnScope N ps scope)
    (len : ∀ vs H Q E, sp vs H Q E → vs.length = ps.length)
    (hbody : ∀ (A : Around) (outer : List Env) (s : Shared) (H : Hp) (vs : List V) (Q : VK) (E : XK), Room k (A.deeper (envOfC qual scope s.heap.objs.size f cdv)) → sp vs H Q E →
      ∃ t, PSs (cxOf CX P w K mg base N qual scope f cdv A outer s H E) body t ∧ t { nx := fun _ H' => Q .non H', rt := Q } (start N vs) H) :
    FnOk P w K mg base CX (k + 1) f (PySem.W.fnOf name qual params body scope dV kV doc pm an cdv ct) ps sp := by
  refine ⟨len, fun A outer s H args us vs Q E hr e0 hb r hsp => ?_⟩
  have hl := len _ _ _ _ hsp
  have KX : K.In s.heap := e0.mod.kin.keeps fun b o e => (e0.bs b o e).1
  have lim : s.heap.NoLimit := e0.mod.nolimit.keeps fun b o e => (e0.bs b o e).1
  have hkind : ∀ y ∈ ps.zip us, scope.names.lookup y.1 = some .local ∨ (scope.names.lookup y.1 = some .cell ∧ ((cellsFrom (s.heap.objs.size + 1) scope.names []).lookup y.1).isSome = true) := fun ⟨n, v⟩ hy => by
    rcases S.par n (List.of_mem_zip hy).1 with q | q
    · exact .inl q
    · exact .inr ⟨q, PySem.W.cellsFrom_some _ _ _ (.inl q)⟩
  refine codeAny_call_function hr.depth (KX _ _ lk) rfl S.co S.gen rfl (PySem.W.codeRec_of KX hcd) (hb _ _ _ _ ?_)
  refine wpAny_newFunctionEnv_cells S.kind hkind fun env he s1 x => ?_
  subst he
  refine ⟨lim.keeps x.toInCall.keep, codeAny_func ?_⟩
  obtain ⟨t, ht, hq⟩ := hbody A outer s H vs Q E (hr.deeper _) hsp
  have I : Inv (cxOf CX P w K mg base N qual scope f cdv A outer s H E) [] (start N vs) H s1 := inv_start S hr.hd e0 hl r x
  refine wpAny_mono (ht [] s1 (start N vs) H _ I hq) (fun fl s' hs => ?_) fun e s' hs => hs
  have fin : ∀ {σ' : St} {H' : Hp} {v : V} {u : Value}, Inv (cxOf CX P w K mg base N qual scope f cdv A outer s H E) [] σ' H' s' → RelV v u → Q v H' → CE outer P w H s Q u s' :=
    fun {σ' H' v u} J rv q => ⟨v, H', J.os, J.bare, J.base, J.hok, rv, q⟩
  cases fl with
  | ret u =>
    obtain ⟨v, σ', H', J, rv, q⟩ := hs
    exact fin J rv q
  | next =>
    obtain ⟨σ', H', J, q⟩ := hs
    exact fin (v := V.non) (u := Value.none) J rfl q
  | brk =>
    obtain ⟨_, _, _, q⟩ := hs
    exact False.elim q
  | cont =>
    obtain ⟨_, _, _, q⟩ := hs
    exact False.elim q
end L2

namespace L2
open PySem PySem.Spec PyProof.Rows
section
variable {X : Cx} {x : Str} {p pos : Pos} {e : Expr} {es : List Expr} {t : TA} {id T : String} {r : List V → Hp → VK → Prop}

def tCB (r : List V → Hp → VK → Prop) (t : TA) : TE := fun σ H Q => t σ H fun vs H1 => r vs H1 Q
/-- f(e, ..), f a built-in function -/
theorem pe_callB (hc : CallR X (.builtin id) r) (hg : Gl X x) (hm : X.mg x = none) (hv : bootBuiltins x = some (.builtin id)) (ha : PA X (e :: es) t) (hn : x ≠ "__name__" := by decide) (hdb : (x == ("__debug__" : Str)) = false := by decide)
    (he : starEach (e :: es) X.env = (false, eval e X.env) :: starEach es X.env := by rfl) (hpl : (backTo pos (starEach es X.env)).any (·.1) = false := by rfl) : PE X (.Call (.Name x p) (e :: es) [] pos) (tCB r t) := by
  intro pins s σ H Q I h
  refine wpAny_Call_Name_kw (ld_blt I hg hm hv ?_ hn hdb)
  exact PyProof.Rows.callWith_builtin1 (thn (ha pos pins s σ H _ I h) fun us s1 ⟨vs, H1, I1, r1, q1⟩ => hc pins s1 σ H1 vs us Q I1 r1 q1) he hpl
/-- T(e, ..), T a built-in type -/
theorem pe_callTy (hc : CallR X (.type T) r) (hg : Gl X x) (hm : X.mg x = none) (hv : bootBuiltins x = some (.type T)) (ha : PA X (e :: es) t) (hn : x ≠ "__name__" := by decide) (hdb : (x == ("__debug__" : Str)) = false := by decide)
    (he : starEach (e :: es) X.env = (false, eval e X.env) :: starEach es X.env := by rfl) (hpl : (backTo pos (starEach es X.env)).any (·.1) = false := by rfl) : PE X (.Call (.Name x p) (e :: es) [] pos) (tCB r t) := by
  intro pins s σ H Q I h
  refine wpAny_Call_Name_kw (ld_blt I hg hm hv ?_ hn hdb)
  exact PyProof.Rows.callWith_type1 (thn (ha pos pins s σ H _ I h) fun us s1 ⟨vs, H1, I1, r1, q1⟩ => hc pins s1 σ H1 vs us Q I1 r1 q1) he hpl
end
end L2

namespace HT
open PySem PyProof.Rows

/-- t < u of tuples of ints -/
def lexLt : List Int → List Int → Bool
  | [], [] => false
  | [], _ :: _ => true
  | _ :: _, [] => false
  | x :: xs, y :: ys => if x = y then lexLt xs ys else decide (x < y)
section
open PySem.SeqAt
open PySem.AutoSeq1 (wpAny_loadPart')
open PySem.MeetsSeq PySem.MeetsSeq2 PySem.MeetsSeq3

end

section
variable {prog : Program} {w : World} {A : Around} {E : Value → Shared → Prop} {s : Shared}

/-! ### t[a:b], not the whole -/
/-- a slice's bound as a place among n (d where it is left out) -/
def sIx (n d : Nat) : Option Int → Nat
  | none => d
  | some v => if v < 0 then (v + (n : Int)).toNat else min v.toNat n
theorem sIx_none (n d : Nat) : sIx n d none = d := rfl
theorem sIx_nat (n d k : Nat) : sIx n d (some (k : Int)) = min k n := by
  show (if (k : Int) < 0 then ((k : Int) + (n : Int)).toNat else min (k : Int).toNat n) = min k n
  rw [if_neg (by omega), Int.toNat_natCast]
end
end HT

namespace L2
open PySem PySem.Spec PyProof.Rows

/-! ### the parts of a slice -/
abbrev TO := St → Hp → (Option Int → Hp → Prop) → Prop
/-- a slice's part (left out, or an int) -/
def PO (X : Cx) (e : Option Expr) (t : TO) : Prop :=
  ∀ (pins : List (Addr × Obj)) (s : Shared) (σ : St) (H : Hp) (Q : Option Int → Hp → Prop), Inv X pins σ H s → t σ H Q →
    wpAny (model X.prog X.w) X.A (evalPart e X.env) (fun u s' => ∃ o H', Inv X pins σ H' s' ∧ IsPart u o ∧ Q o H') X.xe s
def tNoPart : TO := fun _ H Q => Q none H
def tPart (t : TE) : TO := fun σ H Q => t σ H fun x H1 => ∃ i, x = .int i ∧ Q (some i) H1

section
variable {X : Cx} {e : Expr} {te : TE} {lo hi : Option Expr} {tl th : TO} {pos p2 : Pos}

theorem po_none : PO X none tNoPart := by
  intro pins s σ H Q I h
  rw [evalPart_none]
  exact wpAny_pure ⟨none, H, I, .none, h⟩
theorem po_some (h : PE X e te) : PO X (some e) (tPart te) := by
  intro pins s σ H Q I hw
  rw [evalPart_some]
  refine thn (h pins s σ H _ I hw) fun u s1 ⟨x, H1, I1, r1, q1⟩ => ?_
  obtain ⟨i, rfl, q⟩ := q1
  obtain ⟨t, rfl⟩ := r1
  exact ⟨some i, H1, I1, .int i t, q⟩

/-- what a slice of a value is, by values: the slice object stands at sl -/
def SlR (X : Cx) (r : V → Option Int → Option Int → Hp → VK → Prop) : Prop :=
  ∀ (pins : List (Addr × Obj)) (s : Shared) (σ : St) (H : Hp) (x : V) (v vl vu : Value) (lo hi : Option Int) (sl : Addr) (Q : VK), Inv X pins σ H s → RelV x v → s.heap.IsSliceOf sl vl vu .none → IsPart vl lo → IsPart vu hi → r x lo hi H Q →
    ∃ T id, typeLookup (.type T) "__getitem__" = pure (some (.builtin id)) ∧ s.TypeIs v T ∧ wpAny (model X.prog X.w) X.A (getItem v (.ref sl)) (EP X pins σ Q) X.xe s
theorem SlR.or {r r' : V → Option Int → Option Int → Hp → VK → Prop} (h : SlR X r) (h' : SlR X r') : SlR X (fun x lo hi H Q => r x lo hi H Q ∨ r' x lo hi H Q) := by
  intro pins s σ H x v vl vu lo hi sl Q I rx hs pl pu q
  rcases q with q | q
  · exact h pins s σ H x v vl vu lo hi sl Q I rx hs pl pu q
  · exact h' pins s σ H x v vl vu lo hi sl Q I rx hs pl pu q
def tSl (r : V → Option Int → Option Int → Hp → VK → Prop) (te : TE) (tl th : TO) : TE := fun σ H Q => te σ H fun x H1 => tl σ H1 fun l H2 => th σ H2 fun u H3 => r x l u H3 Q
/-- a[lo:hi], any a -/
theorem pe_slice {r : V → Option Int → Option Int → Hp → VK → Prop} (hr : SlR X r) (he : PE X e te) (hl : PO X lo tl) (hu : PO X hi th) : PE X (.Subscript e (.Slice lo hi none p2) pos) (tSl r te tl th) := by
  intro pins s σ H Q I h
  refine Subscript_ (thn (he pins s σ H _ I h) fun v s1 ⟨x, H1, I1, r1, q1⟩ => ?_)
  refine wpAny_Slice (thn (hl pins s1 σ H1 _ I1 q1) fun vl s2 ⟨l, H2, I2, pl, q2⟩ => thn (hu pins s2 σ H2 _ I2 q2) fun vu s3 ⟨u, H3, I3, pu, q3⟩ => ?_)
  rw [evalPart_none]
  refine wpAny_pure ?_
  have I4 : Inv X pins σ H3 { s3 with heap := s3.heap.push { cls := .type "slice", data := .fields #[vl, vu, .none] } } := I3.kept (t' := s3.toks) fun b ob q => Heap.get?_push_of_some _ q
  obtain ⟨T, id, hT, ht, hg⟩ := hr pins { s3 with heap := s3.heap.push { cls := .type "slice", data := .fields #[vl, vu, .none] } } σ H3 x v vl vu l u s3.heap.objs.size Q I4 r1 (Heap.IsSliceOf.new ..) pl pu q3
  show wpAny (model X.prog X.w) X.A (subscriptTail e (.Slice lo hi none p2) v (.ref s3.heap.objs.size)) (EP X pins σ Q) X.xe { s3 with heap := s3.heap.push { cls := .type "slice", data := .fields #[vl, vu, .none] } }
  exact tail_any (ops := [.ref s3.heap.objs.size, v]) ht hT hg (by with_unfolding_all rfl)

/-- the items of xs[lo:hi] -/
def cutV (xs : List V) (lo hi : Option Int) : List V := (xs.drop (HT.sIx xs.length 0 lo)).take (HT.sIx xs.length xs.length hi - HT.sIx xs.length 0 lo)
theorem cutV_length (xs : List V) (lo hi : Option Int) : (cutV xs lo hi).length ≤ xs.length := by
  unfold cutV
  rw [List.length_take, List.length_drop]
  omega
/-- t[lo:hi], not the whole of it (the whole would be t itself) -/
def rSlT (K : PySem.W.Frag) : V → Option Int → Option Int → Hp → VK → Prop := fun x lo hi H Q => ∃ a xs, x = .ref a ∧ SqT K H a xs ∧
  ¬ (HT.sIx xs.length 0 lo = 0 ∧ HT.sIx xs.length xs.length hi = xs.length) ∧ ∀ p, H p = none → Q (.ref p) (upd H p (.tup (cutV xs lo hi)))
/-! ### t < u, t + u -/
def rLtT (K : PySem.W.Frag) : R2 := fun x y H Q => ∃ a b ns ms, x = .ref a ∧ y = .ref b ∧ SqT K H a (ns.map V.int) ∧ SqT K H b (ms.map V.int) ∧ Q (.bl (HT.lexLt ns ms)) H
/-- t + u, t not empty: u empty gives t itself -/
def rCatT (K : PySem.W.Frag) : R2 := fun x y H Q => ∃ a b xs ys, x = .ref a ∧ y = .ref b ∧ SqT K H a xs ∧ SqT K H b ys ∧ xs ≠ [] ∧ xs.length + ys.length ≤ sizeLine ∧
  (ys = [] → Q (.ref a) H) ∧ (ys ≠ [] → ∀ p, H p = none → Q (.ref p) (upd H p (.tup (xs ++ ys))))
end
end L2

namespace L2
open PySem PySem.Spec PyProof.Rows

/-! ### places -/
/-- the place that an index of any sign means -/
def ixN (n : Nat) (i : Int) : Option Nat := if 0 ≤ i then (if i < n then some i.toNat else none) else if -(n : Int) ≤ i then some (i + n).toNat else none
def atI {α : Type} (xs : List α) (i : Int) : Option α := (ixN xs.length i).bind fun j => xs[j]?
theorem ixN_seq {n : Nat} {i : Int} {j : Nat} (h : ixN n i = some j) : seqIndex? i n = some j ∧ j < n ∧ -(n : Int) ≤ i ∧ i < n := by
  unfold ixN at h
  by_cases h0 : 0 ≤ i
  · rw [if_pos h0] at h
    by_cases h1 : i < n
    · rw [if_pos h1] at h
      have e : i.toNat = j := Option.some.inj h
      exact ⟨by rw [seqIndex_of h0 h1, e], by omega, by omega, h1⟩
    · rw [if_neg h1] at h; cases h
  · rw [if_neg h0] at h
    by_cases h1 : -(n : Int) ≤ i
    · rw [if_pos h1] at h
      have e : (i + n).toNat = j := Option.some.inj h
      exact ⟨by rw [seqIndex_neg (by omega) h1, e], by omega, h1, by omega⟩
    · rw [if_neg h1] at h; cases h
theorem atI_get {α : Type} {xs : List α} {i : Int} {v : α} (h : atI xs i = some v) : ∃ j, seqIndex? i xs.length = some j ∧ xs[j]? = some v ∧ j < xs.length ∧ -(xs.length : Int) ≤ i ∧ i < xs.length := by
  unfold atI at h
  cases e : ixN xs.length i with
  | none => rw [e] at h; cases h
  | some j =>
    rw [e] at h
    obtain ⟨h1, h2, h3, h4⟩ := ixN_seq e
    exact ⟨j, h1, h, h2, h3, h4⟩
theorem atI_nat {α : Type} {xs : List α} {j : Nat} {v : α} (h : xs[j]? = some v) : atI xs (j : Int) = some v := by
  have hj : j < xs.length := (List.getElem?_eq_some_iff.mp h).1
  have e : ixN xs.length (j : Int) = some j := by
    unfold ixN
    rw [if_pos (by omega), if_pos (by omega)]; simp
  unfold atI; rw [e]; exact h
theorem atI_last {α : Type} (xs : List α) (v : α) : atI (xs ++ [v]) (-1) = some v := by
  have hl : (xs ++ [v]).length = xs.length + 1 := by simp
  have e : ixN (xs ++ [v]).length (-1) = some xs.length := by
    unfold ixN
    rw [hl, if_neg (by decide), if_pos (by omega)]
    congr 1
    omega
  unfold atI
  rw [e]
  show (xs ++ [v])[xs.length]? = some v
  simp

/-! ### what may be subscripted -/
/-- what stands as an index of a plain subscript -/
def PlainIx (b : Expr) : Prop := ∀ o i, subscripted b false o i = operate [o, i] (getItem o i)
/-- a subscript by values -/
def IxR (X : Cx) (r : R2) : Prop :=
  ∀ (value slice : Expr) (pins : List (Addr × Obj)) (s : Shared) (σ : St) (H : Hp) (x y : V) (v u : Value) (Q : VK), Inv X pins σ H s → RelV x v → RelV y u → r x y H Q →
    subscripted slice false v u = operate [v, u] (getItem v u) → wpAny (model X.prog X.w) X.A (subscriptTail value slice v u) (EP X pins σ Q) X.xe s
/-- a call of a builtin's method by values: the receiver, the arguments -/
def MtR (X : Cx) (id : String) (r : V → List V → Hp → VK → Prop) : Prop :=
  ∀ (pins : List (Addr × Obj)) (s : Shared) (σ : St) (H : Hp) (x : V) (xs : List V) (v : Value) (us : List Value) (Q : VK), Inv X pins σ H s → RelV x v → Vals xs us → r x xs H Q →
    wpAny (model X.prog X.w) X.A (call (.builtin id) (v :: us)) (EP X pins σ Q) X.xe s
section
variable {X : Cx} {a b : Expr} {ta tb : TE} {pos : Pos}
theorem IxR.or {r r' : R2} (h : IxR X r) (h' : IxR X r') : IxR X (fun x y H Q => r x y H Q ∨ r' x y H Q) := by
  intro value slice pins s σ H x y v u Q I rx ry q hs
  rcases q with q | q
  · exact h value slice pins s σ H x y v u Q I rx ry q hs
  · exact h' value slice pins s σ H x y v u Q I rx ry q hs
theorem MtR.or {id : String} {r r' : V → List V → Hp → VK → Prop} (h : MtR X id r) (h' : MtR X id r') : MtR X id (fun x xs H Q => r x xs H Q ∨ r' x xs H Q) := by
  intro pins s σ H x xs v us Q I rx rs q
  rcases q with q | q
  · exact h pins s σ H x xs v us Q I rx rs q
  · exact h' pins s σ H x xs v us Q I rx rs q
/-- a[b] -/
theorem pe_ix {r : R2} (hr : IxR X r) (ha : PE X a ta) (hb : PE X b tb) (hs : PlainIx b) : PE X (.Subscript a b pos) (tOp r ta tb) := by
  intro pins s σ H Q I h
  exact Subscript_ (binT ha hb I h fun v u s2 x y H2 I2 rx ry q => hr a b pins s2 σ H2 x y v u Q I2 rx ry q (hs _ _))

def rIxL (K : PySem.W.Frag) : R2 := fun x y H Q => ∃ p xs i v, x = .ref p ∧ y = .int i ∧ SqL K H p xs ∧ atI xs i = some v ∧ Q v H
def rIxT (K : PySem.W.Frag) : R2 := fun x y H Q => ∃ p xs i v, x = .ref p ∧ y = .int i ∧ SqT K H p xs ∧ atI xs i = some v ∧ Q v H
def rIxS : R2 := fun x y H Q => ∃ z i c, x = .str z ∧ y = .int i ∧ z.length ≤ sizeLine ∧ atI z.cps.toList i = some c ∧ Q (.str ⟨#[c]⟩) H
theorem ix_list : IxR X (rIxL X.K) := by
  intro value slice pins s σ H x y v u Q I rx ry h hs
  obtain ⟨p, xs, i, z, rfl, rfl, hq, he, q⟩ := h
  cases rx
  obtain ⟨t, rfl⟩ := ry
  obtain ⟨its, r, pl, hz⟩ := I.list hq
  obtain ⟨j, h1, h2, h3, h4, h5⟩ := atI_get he
  obtain ⟨w, ew, rw'⟩ := r.get h2
  have hl := r.length
  have hn := line63
  have fin : EP X pins σ Q w s := ⟨z, H, I, rw', q⟩
  by_cases h0 : 0 ≤ i
  · have hj : i.toNat = j := by
      rw [seqIndex_of h0 h5] at h1
      exact Option.some.inj h1
    exact item_listR pl.isList h0 (by omega) (by rw [hj]; simpa using ew) fin hs
  · have hj : (i + (its.toArray.size : Int)).toNat = j := by
      rw [seqIndex_neg (by omega) h4] at h1
      rw [List.size_toArray, ← hl]
      exact Option.some.inj h1
    exact subscriptTail_builtinR (x := w) pl.isList.typeIs slot_list_getitem.lookup
      (wpAny_getItem_list_neg (Q := fun r s' => r = w ∧ EP X pins σ Q r s') pl.isList (by omega) (by rw [List.size_toArray] <;> omega) (by omega) (by rw [hj]; simpa using ew) ⟨rfl, fin⟩) hs
/-- list, tuple or str -/
def rIx (K : PySem.W.Frag) : R2 := fun x y H Q => rIxL K x y H Q ∨ rIxT K x y H Q ∨ rIxS x y H Q
/-! ### xs[i] = v, any sign -/
theorem Inv.lst {pins : List (Addr × Obj)} {σ : St} {H : Hp} {s : Shared} {p : Addr} {xs : List V} (I : Inv X pins σ H s) (h : H p = some (.lst xs)) :
    ∃ (its : List Value) (n : Nat), Vals xs its ∧ s.heap.get? p = some { cls := .type "list", data := .seq its.toArray n } ∧ xs.length ≤ sizeLine := by
  obtain ⟨z, its, n, r, e⟩ := I.hok p _ h
  exact ⟨its, n, r, e, z⟩
def rSetL : V → V → V → Hp → (Hp → Prop) → Prop := fun o i v H Q => ∃ p xs k j, o = .ref p ∧ i = .int k ∧ H p = some (.lst xs) ∧ ixN xs.length k = some j ∧ Q (upd H p (.lst (xs.set j v)))
/-! ### slices -/
theorem slice_bounds (lo hi : Option Int) (n : Nat) : (sliceBounds lo hi none n).1 = ((HT.sIx n 0 lo : Nat) : Int) ∧ (sliceBounds lo hi none n).2.1 = ((HT.sIx n n hi : Nat) : Int) ∧ (sliceBounds lo hi none n).2.2 = 1 := by
  refine ⟨?_, ?_, rfl⟩
  · cases lo with
    | none => simp [sliceBounds, HT.sIx]
    | some i =>
      simp only [sliceBounds, HT.sIx, Option.getD_none, show (1 : Int) > 0 by decide, if_true]
      by_cases h : i < 0
      · simp only [h, if_true] <;> omega
      · simp only [h, if_false] <;> omega
  · cases hi with
    | none => simp [sliceBounds, HT.sIx]
    | some i =>
      simp only [sliceBounds, HT.sIx, Option.getD_none, show (1 : Int) > 0 by decide, if_true]
      by_cases h : i < 0
      · simp only [h, if_true] <;> omega
      · simp only [h, if_false] <;> omega
theorem slicePick_cut (its : List Value) (lo hi : Option Int) : slicePick its.toArray lo hi none = ((its.drop (HT.sIx its.length 0 lo)).take (HT.sIx its.length its.length hi - HT.sIx its.length 0 lo)).toArray := by
  obtain ⟨h1, h2, h3⟩ := slice_bounds lo hi its.toArray.size
  unfold slicePick
  rw [h1, h2, h3]
  simp only [sliceRange_one, pick_run, List.size_toArray] <;> rfl
/-- xs[lo:hi] of a list: a new list -/
def rSlL (K : PySem.W.Frag) : V → Option Int → Option Int → Hp → VK → Prop := fun x lo hi H Q => ∃ a xs, x = .ref a ∧ SqL K H a xs ∧ ∀ p, H p = none → Q (.ref p) (upd H p (.lst (cutV xs lo hi)))
theorem sl_list : SlR X (rSlL X.K) := by
  intro pins s σ H x v vl vu lo hi sl Q I rx hs pl pu h
  obtain ⟨a, xs, rfl, hx, q⟩ := h
  cases rx
  obtain ⟨its, r, ht, hz⟩ := I.list hx
  have hlen := r.length
  refine ⟨"list", _, slot_list_getitem.lookup, ht.isList.typeIs, ?_⟩
  refine wpAny_getItem_list_slice ht.isList hs pl pu .none (by simp) ?_ (by rw [List.size_toArray] <;> omega)
  rw [slicePick_cut, ← hlen]
  refine ⟨.ref s.heap.objs.size, _, I.laid (t' := s.toks) (o := .lst (cutV xs lo hi)) (fun b ob q => Heap.get?_push_of_some _ q) (Nat.le_refl _) ?_, rfl, q _ (I.hok.fresh (Nat.le_refl _))⟩
  exact ⟨Nat.le_trans (cutV_length xs lo hi) hz, _, 0, (r.drop (HT.sIx xs.length 0 lo)).take (HT.sIx xs.length xs.length hi - HT.sIx xs.length 0 lo), Heap.get?_push_size _ rfl⟩

/-! ### in, not in: flat items -/
def flatV : V → Bool
  | .non => true
  | .bl _ => true
  | .int _ => true
  | .str _ => true
  | _ => false
/-- == of flat values -/
def eqV : V → V → Bool
  | .non, .non => true
  | .bl a, .bl b => a == b
  | .bl a, .int b => (if a then 1 else 0) == b
  | .int a, .bl b => a == (if b then 1 else 0)
  | .int a, .int b => a == b
  | .str a, .str b => a == b
  | _, _ => false
/-- the items' answers, read off the values (a value's own answer does not lean on its token) -/
def eqU (x : V) (u : Value) : Bool := match u with
  | .none => eqV .non x
  | .bool b => eqV (.bl b) x
  | .int i _ => eqV (.int i) x
  | .str z _ => eqV (.str z) x
  | _ => false
def inV (x : V) (xs : List V) : Bool := xs.any fun y => eqV y x
/-- x in a list or tuple of flat items -/
def rIn (K : PySem.W.Frag) (neg : Bool) : R2 := fun x y H Q => ∃ p xs, y = .ref p ∧ (SqL K H p xs ∨ SqT K H p xs) ∧ flatV x = true ∧ xs.all flatV = true ∧ Q (.bl (if neg then !inV x xs else inV x xs)) H
/-! ### len, list(x), tuple(x) of any list or tuple that is read -/
theorem call_len_seq : CallR X (.builtin "len") (fun xs H Q => ∃ p ys, xs = [.ref p] ∧ (SqL X.K H p ys ∨ SqT X.K H p ys) ∧ Q (.int ys.length) H) := by
  intro pins s σ H xs us Q I r h
  obtain ⟨p, ys, rfl, hq, q⟩ := h
  obtain ⟨u, rfl, rx⟩ := vals1 r
  cases rx
  have hn := line63
  rcases hq with hq | hq
  · obtain ⟨its, r', pl, hz⟩ := I.list hq
    have hlen := r'.length
    exact Calls.call_len_list pl.isList (by simp only [List.size_toArray] <;> omega) ⟨.int ys.length, H, I.tok _, ⟨s.toks + 1, by rw [List.size_toArray, hlen]⟩, q⟩
  · obtain ⟨its, r', pl, hz⟩ := I.tuple hq
    have hlen := r'.length
    exact len_tuple pl (by simp only [List.size_toArray] <;> omega) ⟨.int ys.length, H, I.tok _, ⟨s.toks + 1, by rw [List.size_toArray, hlen]⟩, q⟩
theorem CallR.or {f : Value} {r r' : List V → Hp → VK → Prop} (h : CallR X f r) (h' : CallR X f r') : CallR X f (fun xs H Q => r xs H Q ∨ r' xs H Q) := by
  intro pins s σ H xs us Q I rs q
  rcases q with q | q
  · exact h pins s σ H xs us Q I rs q
  · exact h' pins s σ H xs us Q I rs q
/-! ### the call of a builtin's method: o.m(..) -/
/-- the value is of that builtin type -/
def tyV (K : PySem.W.Frag) (T : String) (x : V) (H : Hp) : Prop := match x with
  | .str _ => T = "str"
  | .int _ => T = "int"
  | .ref p => (T = "list" ∧ ∃ xs, SqL K H p xs) ∨ (T = "tuple" ∧ ∃ o, K.lookup p = some o ∧ o.cls = .type "tuple" ∧ o.dict = none) ∨
      (T = "dict" ∧ ((∃ kvs, H p = some (.dK kvs)) ∨ ∃ kvs, H p = some (.dT kvs))) ∨ (T = "set" ∧ ∃ S n, H p = some (.set S n))
  | _ => False
theorem tyV_is {pins : List (Addr × Obj)} {σ : St} {H : Hp} {s : Shared} {T : String} {x : V} {v : Value} (I : Inv X pins σ H s) (r : RelV x v) (ty : tyV X.K T x H) :
    s.TypeIs v T ∧ ∀ a, v = .ref a → ∃ ob, s.heap.get? a = some ob ∧ ob.dict = none := by
  cases x with
  | str z =>
    obtain ⟨t, rfl⟩ := r
    cases (show T = "str" from ty)
    exact ⟨typeIs_str s z t, fun _ e => nomatch e⟩
  | int i =>
    obtain ⟨t, rfl⟩ := r
    cases (show T = "int" from ty)
    exact ⟨typeIs_int s i t, fun _ e => nomatch e⟩
  | ref p =>
    cases r
    rcases ty with ⟨rfl, xs, hq⟩ | ⟨rfl, o, hk, hc, hd⟩ | ⟨rfl, hk⟩ | ⟨rfl, S, n, hk⟩
    · obtain ⟨its, _, pl, _⟩ := I.list hq
      refine ⟨pl.isList.typeIs, fun a e => ?_⟩
      cases e
      obtain ⟨o, n, e, c, hd, _⟩ := pl
      exact ⟨o, e, hd⟩
    · refine ⟨⟨o, I.kIn p o hk, hc⟩, fun a e => ?_⟩
      cases e
      exact ⟨o, I.kIn _ o hk, hd⟩
    · have z : ∃ o, s.heap.get? p = some o ∧ o.ExactDict := by
        rcases hk with ⟨kvs, hk⟩ | ⟨kvs, hk⟩
        · obtain ⟨_, _, _, _, o, _, _, e, ex, _⟩ := I.hok p _ hk
          exact ⟨o, e, ex⟩
        · obtain ⟨_, _, _, _, o, _, _, e, ex, _⟩ := I.hok p _ hk
          exact ⟨o, e, ex⟩
      obtain ⟨o, e, ex⟩ := z
      refine ⟨⟨o, e, ex.1⟩, fun a e2 => ?_⟩
      cases e2
      exact ⟨o, e, ex.2.1⟩
    · obtain ⟨o, _, _, _, e, ex, _⟩ := I.hok p _ hk
      refine ⟨⟨o, e, ex.1⟩, fun a e2 => ?_⟩
      cases e2
      exact ⟨o, e, ex.2.1⟩
  | _ => exact False.elim ty
def tBM0 (K : PySem.W.Frag) (T : String) (r : V → List V → Hp → VK → Prop) (to : TE) : TE := fun σ H Q => to σ H fun x H1 => tyV K T x H1 ∧ r x [] H1 Q
def tBM (K : PySem.W.Frag) (T : String) (r : V → List V → Hp → VK → Prop) (to : TE) (t : TA) : TE := fun σ H Q => to σ H fun x H1 => tyV K T x H1 ∧ t σ H1 fun xs H2 => r x xs H2 Q
variable {o e : Expr} {es : List Expr} {to : TE} {t : TA} {name : Str} {apos cpos : Pos} {T id : String} {r : V → List V → Hp → VK → Prop}
theorem pe_bm (pa : PlainAttrs T) (slot : Slot T name id) (hty : typeOf (.builtin id) = pure (.type "method_descriptor")) (hm : MtR X id r) (ho : PE X o to) (ha : PA X (e :: es) t)
    (hbase : attributeBase o name X.env (eval o X.env) = eval o X.env := by rfl)
    (hfew : ((backTo cpos (starEach (e :: es) X.env)).all (fun x => !x.1) && (backToKw cpos (keywordEach [] X.env)).all (fun x => x.1.isSome)
      && decide ((e :: es).length + ([] : List Keyword).length + (if ([] : List Keyword).isEmpty then 0 else 1) < 30)) = true := by rfl)
    (hline : (apos.endLine == cpos.line) = true := by rfl) (hs : starEach (e :: es) X.env = (false, eval e X.env) :: starEach es X.env := by rfl) (hplain : (backTo cpos (starEach es X.env)).any (·.1) = false := by rfl) :
    PE X (.Call (.Attribute o name apos) (e :: es) [] cpos) (tBM X.K T r to t) := by
  intro pins s σ H Q I h
  refine wpAny_Call_method_late hbase hfew hline rfl (thn (ho pins s σ H _ I h) fun v s1 ⟨x, H1, I1, r1, ty, q1⟩ => ?_)
  obtain ⟨h1, h2⟩ := tyV_is I1 r1 ty
  refine ⟨T, id, pa, slot, hty, h1, h2, ?_⟩
  have hA := ha cpos pins s1 σ H1 _ I1 q1
  rw [hs] at hA ⊢
  refine Calls.callWith_builtin (by show (false || (backTo cpos (starEach es X.env)).any (·.1)) = false; rw [hplain] <;> rfl) (Calls.evalArgs_plain ?_)
  exact thn hA fun us s2 ⟨vs, H2, I2, r2, q2⟩ => hm pins s2 σ H2 x vs v us Q I2 r1 r2 q2
/- xs.append(e), list.index on a module's tuple .. are MtR facts of 06m -/
end
end L2

namespace L2
open PySem PySem.Spec PyProof.Rows

def MtM (X : Cx) (id : String) (r : V → List V → Hp → VK → Prop) : Prop :=
  ∀ (pins : List (Addr × Obj)) (s : Shared) (σ : St) (H : Hp) (x : V) (xs : List V) (v : Value) (us : List Value) (Q : VK), Inv X pins σ H s → RelV x v → Vals xs us → r x xs H Q →
    wpAny (model X.prog X.w) X.A (call (.builtin id) (v :: us)) (EP X pins σ Q) X.xe s

/-! ### lists of values -/
theorem Vals.one : ∀ {x : V} {us : List Value}, Vals [x] us → ∃ u, us = [u] ∧ RelV x u
  | _, _, .cons r .nil => ⟨_, rfl, r⟩
theorem Vals.two : ∀ {x y : V} {us : List Value}, Vals [x, y] us → ∃ u v, us = [u, v] ∧ RelV x u ∧ RelV y v
  | _, _, _, .cons r (.cons q .nil) => ⟨_, _, rfl, r, q⟩
theorem Vals.zero : ∀ {us : List Value}, Vals [] us → us = []
  | _, .nil => rfl
theorem Vals.dropLast {xs : List V} {us : List Value} (h : Vals xs us) : Vals xs.dropLast us.dropLast := by
  induction h with
  | nil => exact .nil
  | cons r t ih =>
    cases t with
    | nil => exact .nil
    | cons q t' => exact .cons r ih
theorem Vals.eraseIdx : ∀ {xs : List V} {us : List Value} (i : Nat), Vals xs us → Vals (xs.eraseIdx i) (us.eraseIdx i)
  | _, _, _, .nil => .nil
  | _, _, 0, .cons _ t => t
  | _, _, i + 1, .cons r t => .cons r (Vals.eraseIdx i t)
theorem Vals.reverse {xs : List V} {us : List Value} (h : Vals xs us) : Vals xs.reverse us.reverse := by
  induction h with
  | nil => exact .nil
  | cons r t ih => rw [List.reverse_cons, List.reverse_cons]; exact Vals.append ih (.cons r .nil)
section
variable {X : Cx} {pins : List (Addr × Obj)} {σ : St} {H : Hp} {s : Shared} {l b : Addr} {xs ys zs : List V}

/-! ### the two steps: a tracked list is rewritten, a new list is laid -/
theorem Inv.lset {its its' : List Value} {n : Nat} {f : Array Value → Array Value} {t' : Nat} (I : Inv X pins σ H s) (hH : H l = some (.lst xs))
    (e : s.heap.get? l = some { cls := .type "list", data := .seq its.toArray n }) (hf : f its.toArray = its'.toArray) (hv : Vals ys its') (hz : ys.length ≤ sizeLine) :
    Inv X pins σ (upd H l (.lst ys)) { s with heap := s.heap.update l (Obj.mapSeq f), toks := t' } := by
  have q := PySem.IsL.update e f
  rw [hf] at q
  refine I.write (x := l) (e := l) (by rw [hH]; exact trivial) (.inl rfl) (fun b' u hb hu => (Heap.get?_update_other s.heap (Obj.mapSeq f) (Ne.symm hb)).trans hu) ⟨_, q⟩ ?_
  exact ⟨hz, its', _, hv, q⟩
theorem Inv.lnew {its : List Value} {t' : Nat} (I : Inv X pins σ H s) (hv : Vals ys its) (hz : ys.length ≤ sizeLine) :
    Inv X pins σ (upd H s.heap.objs.size (.lst ys)) { s with heap := s.heap.push { cls := .type "list", data := .seq its.toArray }, toks := t' } :=
  I.laid (fun _ _ q => Heap.get?_push_of_some _ q) (Nat.le_refl _) ⟨hz, its, 0, hv, Heap.get?_push_size _ rfl⟩
theorem Inv.fresh (I : Inv X pins σ H s) : H s.heap.objs.size = none := I.hok.fresh (Nat.le_refl _)
theorem Inv.lstM (I : Inv X pins σ H s) (hH : H l = some (.lst xs)) : xs.length ≤ sizeLine ∧ ∃ (its : List Value) (n : Nat), Vals xs its ∧ xs.length = its.length ∧ s.heap.get? l = some { cls := .type "list", data := .seq its.toArray n } := by
  obtain ⟨z, its, n, r, e⟩ := I.hok l _ hH
  exact ⟨z, its, n, r, r.length, e⟩

theorem notLongL {n : Nat} (h : n ≤ sizeLine) : Builtin.List.listTooLong n = false := by
  unfold Builtin.List.listTooLong
  exact decide_eq_false (by omega)
end

section
variable {X : Cx}

/-! ### methods -/
def rAppend : V → List V → Hp → VK → Prop := fun x vs H Q => ∃ l xs y, x = .ref l ∧ vs = [y] ∧ H l = some (.lst xs) ∧ xs.length < sizeLine ∧ Q .non (upd H l (.lst (xs ++ [y])))
theorem mt_append : MtM X "list.append" rAppend := by
  intro pins s σ H x vs v us Q I rx rv h
  obtain ⟨l, xs, y, rfl, rfl, hH, hz, q⟩ := h
  cases rx
  obtain ⟨u, rfl, ru⟩ := rv.one
  obtain ⟨z, its, n, r, hl, e⟩ := I.lstM hH
  refine call_meets F.slot_list_append ⟨_, e, rfl⟩ F.entry_list_append (F.args_list_append_2 _ _) (PySem.list_append l its.toArray n u (by rw [List.size_toArray]; omega)) ⟨e, ?_⟩
  refine ⟨.non, _, I.lset (its' := its ++ [u]) hH e (by simp) (r.append (.cons ru .nil)) ?_, rfl, q⟩
  rw [List.length_append, List.length_singleton]
  omega

def rExtend : V → List V → Hp → VK → Prop := fun x vs H Q => ∃ l b xs zs, x = .ref l ∧ vs = [.ref b] ∧ H l = some (.lst xs) ∧ H b = some (.lst zs) ∧ xs.length + zs.length ≤ sizeLine ∧ Q .non (upd H l (.lst (xs ++ zs)))
theorem mt_extend : MtM X "list.extend" rExtend := by
  intro pins s σ H x vs v us Q I rx rv h
  obtain ⟨l, b, xs, zs, rfl, rfl, hH, hB, hz, q⟩ := h
  cases rx
  obtain ⟨u, rfl, ru⟩ := rv.one
  cases ru
  obtain ⟨z, its, n, r, hl, e⟩ := I.lstM hH
  obtain ⟨z2, its2, n2, r2, hl2, e2⟩ := I.lstM hB
  have hsz : its.toArray.size + its2.toArray.size ≤ sizeLine := by rw [List.size_toArray, List.size_toArray]; omega
  have hlong : ¬ (!its.toArray.isEmpty && Builtin.List.listTooLong (its.toArray.size + its2.toArray.size)) = true := by
    rw [notLongL hsz, Bool.and_false]
    exact Bool.false_ne_true
  refine call_meets F.slot_list_extend ⟨_, e, rfl⟩ F.entry_list_extend (F.args_list_extend_2 _ _)
    (AutoSeq1.list_extend_list_list_0 l its.toArray n b its2.toArray n2 hlong (by rw [List.size_toArray]; omega) (by omega)) ⟨e, e2, ?_⟩
  refine ⟨.non, _, I.lset (its' := its ++ its2) hH e (by simp) (r.append r2) ?_, rfl, q⟩
  rw [List.length_append]
  omega

def rPop : V → List V → Hp → VK → Prop := fun x vs H Q => ∃ l xs y, x = .ref l ∧ vs = [] ∧ H l = some (.lst xs) ∧ xs[xs.length - 1]? = some y ∧ Q y (upd H l (.lst xs.dropLast))
def rPopAt : V → List V → Hp → VK → Prop := fun x vs H Q => ∃ l xs i k y, x = .ref l ∧ vs = [.int i] ∧ H l = some (.lst xs) ∧ -(2 ^ 63) ≤ i ∧ i < 2 ^ 63 ∧ seqIndex? i xs.length = some k ∧ xs[k]? = some y ∧ Q y (upd H l (.lst (xs.eraseIdx k)))
def rReverse : V → List V → Hp → VK → Prop := fun x vs H Q => ∃ l xs, x = .ref l ∧ vs = [] ∧ H l = some (.lst xs) ∧ Q .non (upd H l (.lst xs.reverse))
def rClear : V → List V → Hp → VK → Prop := fun x vs H Q => ∃ l xs, x = .ref l ∧ vs = [] ∧ H l = some (.lst xs) ∧ Q .non (upd H l (.lst []))
/-! ### list + list, list += list, list * int -/
def rCat : R2 := fun x y H Q => ∃ l b xs zs, x = .ref l ∧ y = .ref b ∧ H l = some (.lst xs) ∧ H b = some (.lst zs) ∧ xs.length + zs.length ≤ sizeLine ∧ ∀ p, H p = none → Q (.ref p) (upd H p (.lst (xs ++ zs)))
theorem op_cat : OpR X (binaryOp .Add) rCat := by
  intro pins s σ H x y v u Q I rx ry h
  obtain ⟨l, b, xs, zs, rfl, rfl, hH, hB, hz, q⟩ := h
  cases rx
  cases ry
  obtain ⟨z, its, n, r, hl, e⟩ := I.lstM hH
  obtain ⟨z2, its2, n2, r2, hl2, e2⟩ := I.lstM hB
  refine PySem.P.add_list e e2 ?_ (by rw [List.size_toArray, List.size_toArray]; omega)
  have ea : its.toArray ++ its2.toArray = (its ++ its2).toArray := by simp
  rw [ea]
  exact ⟨.ref _, _, I.lnew (t' := s.toks) (r.append r2) (by rw [List.length_append]; omega), rfl, q _ I.fresh⟩
/-- a list times an int (a negative one is nothing) -/
def rRep : R2 := fun x y H Q => ∃ l k xs, x = .ref l ∧ y = .int k ∧ H l = some (.lst xs) ∧ -(2 ^ 63) ≤ k ∧ k < 2 ^ 63 ∧ xs.length * k.toNat ≤ sizeLine ∧
  ∀ p, H p = none → Q (.ref p) (upd H p (.lst (List.replicate k.toNat xs).flatten))
/-! ### del xs[i] -/
end

/-! ### xs[a:b] = ys -/
section
variable {prog : Program} {w : World} {A : Around} {E : Value → Shared → Prop} {s : Shared}
end

section
variable {X : Cx}
end
end L2

namespace L2
open PySem PySem.Spec PyProof.Rows

theorem Vals.ints : ∀ {ns : List Int} {us : List Value}, Vals (ns.map V.int) us → IntsAre us ns
  | [], us, h => by
    rw [List.map_nil] at h
    cases h
    exact IntsAre.nil
  | n :: ns, us, h => by
    rw [List.map_cons] at h
    cases h with
    | cons r t =>
      obtain ⟨k, rfl⟩ := r
      exact IntsAre.cons n k (Vals.ints t)
theorem vals_of_ints : ∀ {us : List Value} {ns : List Int}, IntsAre us ns → Vals (ns.map V.int) us
  | _, _, .nil => by rw [List.map_nil]; exact Paired.nil
  | _, _, .cons n t h => by rw [List.map_cons]; exact Paired.cons (show RelV (V.int n) (Value.int n t) from ⟨t, rfl⟩) (vals_of_ints h)
theorem Vals.strs : ∀ {xs : List Str} {us : List Value}, Vals (xs.map V.str) us → StrsAre us xs
  | [], us, h => by
    rw [List.map_nil] at h
    cases h
    exact StrsAre.nil
  | x :: xs, us, h => by
    rw [List.map_cons] at h
    cases h with
    | cons r t =>
      obtain ⟨k, rfl⟩ := r
      exact StrsAre.cons x k (Vals.strs t)
theorem Vals.bls : ∀ {bs : List Bool} {us : List Value}, Vals (bs.map V.bl) us → us = bs.map Value.bool
  | [], us, h => by
    rw [List.map_nil] at h
    cases h
    rfl
  | b :: bs, us, h => by
    rw [List.map_cons] at h
    cases h with
    | cons r t =>
      cases r
      rw [Vals.bls t, List.map_cons]
theorem Vals.ref1 {a : Addr} {us : List Value} (r : Vals [V.ref a] us) : us = [Value.ref a] := by
  cases r with
  | cons r t =>
    cases t
    cases r
    rfl
/-! ### the library's walks over a list of ints, kept objects alone -/
section
variable {prog : Program} {w : World} {A : Around} {E : Value → Shared → Prop} {s : Shared} {l : Addr} {its : List Value} {ns : List Int} {Q : Value → Shared → Prop}
theorem sum_raw (hh : A.handled = none) (hl : s.heap.IsList l its.toArray) (hi : IntsAre its ns)
    (h : ∀ h' tk t', (∀ b o, s.heap.get? b = some o → h'.get? b = some o) → Q (.int ns.sum t') { s with heap := h', toks := tk }) : wpAny (model prog w) A (call (.builtin "sum") [.ref l]) Q E s := by
  obtain ⟨xs, e⟩ := hi.allInts.items
  have hn : numsOf (intItems xs).toList = ns := by rw [← e]; exact hi.numsOf
  rw [nums_intItems] at hn
  rw [e] at hl
  refine PySem.sum_intListG hh hl fun h' tk t' hk => ?_
  have := h h' tk t' hk
  rw [preSum_eq, List.take_of_length_le (by simp), hn]; exact this
end

/-! ### the calls, by values (CallR of 03t; MtR of 06l) -/
section
variable {X : Cx}
/-- sum(xs) of a list of ints -/
def rSum (K : PySem.W.Frag) : List V → Hp → VK → Prop := fun vs H Q => ∃ (a : Addr) (ns : List Int), vs = [V.ref a] ∧ SqL K H a (ns.map V.int) ∧ Q (.int ns.sum) H
/-- max(xs), min(xs) of a list of ints -/
def rMax (K : PySem.W.Frag) : List V → Hp → VK → Prop := fun vs H Q => ∃ (a : Addr) (ns : List Int), vs = [V.ref a] ∧ SqL K H a (ns.map V.int) ∧ 0 < ns.length ∧ ∀ m, m ∈ ns → (∀ y, y ∈ ns → y ≤ m) → Q (.int m) H
def rMin (K : PySem.W.Frag) : List V → Hp → VK → Prop := fun vs H Q => ∃ (a : Addr) (ns : List Int), vs = [V.ref a] ∧ SqL K H a (ns.map V.int) ∧ 0 < ns.length ∧ ∀ m, m ∈ ns → (∀ y, y ∈ ns → m ≤ y) → Q (.int m) H
theorem cr_sum (hc : X.calm = true) : CallR X (.builtin "sum") (rSum X.K) := by
  intro pins s σ H vs us Q I r h
  obtain ⟨a, ns, rfl, hs, q⟩ := h
  obtain ⟨its, rv, hl, _⟩ := I.list hs
  rw [Vals.ref1 r]
  exact sum_raw (I.ok.hd hc) hl.isList rv.ints fun h' tk t' hk => ⟨.int _, H, I.kept hk, ⟨_, rfl⟩, q⟩
/-! sorted, sort (fewer than 64 items: the library's own bound) -/
def rSorted (K : PySem.W.Frag) : List V → Hp → VK → Prop := fun vs H Q => ∃ (a : Addr) (ns : List Int), vs = [V.ref a] ∧ SqL K H a (ns.map V.int) ∧ ns.length < 64 ∧
  ∀ (ns' : List Int) (p : Addr), ns'.Perm ns → ns'.Pairwise (· ≤ ·) → H p = none → Q (.ref p) (upd H p (.lst (ns'.map V.int)))
def rSortedS (K : PySem.W.Frag) : List V → Hp → VK → Prop := fun vs H Q => ∃ (a : Addr) (xs : List Str), vs = [V.ref a] ∧ SqL K H a (xs.map V.str) ∧ xs.length < 64 ∧
  ∀ (ys : List Str) (p : Addr), ys.Perm xs → sortedS ys = true → H p = none → Q (.ref p) (upd H p (.lst (ys.map V.str)))
/-- xs.sort(), ints -/
def rSort : V → List V → Hp → VK → Prop := fun x xs H Q => ∃ (a : Addr) (ns : List Int), x = V.ref a ∧ xs = [] ∧ H a = some (.lst (ns.map V.int)) ∧ ns.length < 64 ∧
  ∀ ns' : List Int, ns'.Perm ns → ns'.Pairwise (· ≤ ·) → Q .non (upd H a (.lst (ns'.map V.int)))
end

/-! ### list.index, flat items -/
section
variable {X : Cx}
def rIndex (K : PySem.W.Frag) : V → List V → Hp → VK → Prop := fun x xs H Q => ∃ (a : Addr) (ys : List V) (y : V) (j : Nat) (z : V), x = V.ref a ∧ xs = [y] ∧ SqL K H a ys ∧ flatV y = true ∧ ys.all flatV = true ∧ ys[j]? = some z ∧ eqV z y = true ∧
  (∀ (m : Nat) (z' : V), m < j → ys[m]? = some z' → eqV z' y = false) ∧ Q (.int (j : Nat)) H
end

/-! ### type(x) of an own instance; is, is not of a module's class -/
section
variable {X : Cx}
end

/-! ### any(xs), all(xs) of a list of bools -/
theorem iter_any {prog : Program} {w : World} {A : Around} {E : Value → Shared → Prop} {s : Shared} {l : Addr} {items : Array Value} {Q : Value → Shared → Prop} (hl : s.heap.IsList l items)
    (h : ∀ s₂ : Shared, s₂ = { s with heap := s.heap.push { cls := .type "list_iterator", data := .fields #[.ref l, .int 0 0] } } →
      (s₂.heap.IsListIter s.heap.objs.size l 0 ∧ s₂.heap.IsList l items) → l ≠ s.heap.objs.size → Q (.ref s.heap.objs.size) s₂) : wpAny (model prog w) A (pyIter (.ref l)) Q E s := by
  have hlt : l < s.heap.objs.size := by obtain ⟨_, e, _⟩ := hl; exact Heap.lt_size e
  exact wpAny_pyIter_list hl (h _ rfl ⟨⟨_, Heap.get?_push_size _ rfl, rfl, rfl⟩, hl.push _⟩ (Nat.ne_of_lt hlt))
theorem truth_bools {prog : Program} {w : World} {A : Around} {bs : List Bool} {its : List Value} (e : its = bs.map Value.bool) :
    TruthOf prog w A (fun i v => its.toArray[i]? = some v) (fun i => bs.getD i false) := fun i v s Q E hv hq => by
  have hv' : its[i]? = some v := by simpa using hv
  rw [e, List.getElem?_map] at hv'
  obtain ⟨b, hb, rfl⟩ := Option.map_eq_some_iff.mp hv'
  have hg : bs.getD i false = b := by rw [List.getD_eq_getElem?_getD, hb] <;> rfl
  have hq' : Q (bs.getD i false) s := hq
  rw [hg] at hq'
  exact wpAny_truthy_bool hq'
theorem all_range : ∀ bs : List Bool, (List.range bs.length).all (fun i => bs.getD i false) = bs.all id
  | [] => rfl
  | b :: bs => by
    rw [List.length_cons, List.range_succ_eq_map, List.all_cons, List.all_map, List.all_cons, ← all_range bs]
    all_goals rfl
section
variable {X : Cx}
def rAny (K : PySem.W.Frag) : List V → Hp → VK → Prop := fun vs H Q => ∃ (a : Addr) (bs : List Bool), vs = [V.ref a] ∧ SqL K H a (bs.map V.bl) ∧ Q (.bl (bs.any id)) H
def rAll (K : PySem.W.Frag) : List V → Hp → VK → Prop := fun vs H Q => ∃ (a : Addr) (bs : List Bool), vs = [V.ref a] ∧ SqL K H a (bs.map V.bl) ∧ Q (.bl (bs.all id)) H
theorem cr_all (hc : X.calm = true) : CallR X (.builtin "all") (rAll X.K) := by
  intro pins s σ H vs us Q I r h
  obtain ⟨a, bs, rfl, hs, q⟩ := h
  obtain ⟨its, rv, hl, _⟩ := I.list hs
  rw [Vals.ref1 r]
  have hb := rv.bls
  refine call_all_walk (iter_any hl.isList fun s₂ e2 st hne => ?_)
  subst e2
  refine ⟨_, _, _, _, _, _, _, rfl, Walks.list (A := X.A.in1) (I.ok.hd hc) _ a hne its.toArray, st, truth_bools hb, fun h' tk hk => ?_⟩
  refine ⟨.bl _, H, I.kept fun b o eo => hk b o (fun hmem => ?_) (Heap.get?_push_of_some _ eo), ?_, q⟩
  · rcases List.mem_cons.mp hmem with e1 | hmem
    · exact absurd (e1 ▸ Heap.lt_size eo) (Nat.lt_irrefl _)
    · cases hmem
  · show Value.bool _ = Value.bool _
    rw [← all_range, hb, List.size_toArray, List.length_map]
end

/-! ### == and != of data at any depth: none, bools, ints, texts, lists, tuples -/
mutual
inductive Dp (K : PySem.W.Frag) (H : Hp) : V → PyData → Prop
  | non : Dp K H .non .none
  | bl (b : Bool) : Dp K H (.bl b) (.bool b)
  | int (i : Int) : Dp K H (.int i) (.int i)
  | str (x : Str) : Dp K H (.str x) (.str x)
  | lst {a : Addr} {xs : List V} {ds : List PyData} : SqL K H a xs → DpAll K H xs ds → Dp K H (.ref a) (.list ds)
  | tup {a : Addr} {xs : List V} {ds : List PyData} : SqT K H a xs → DpAll K H xs ds → Dp K H (.ref a) (.tuple ds)
inductive DpAll (K : PySem.W.Frag) (H : Hp) : List V → List PyData → Prop
  | nil : DpAll K H [] []
  | cons {v : V} {vs : List V} {d : PyData} {ds : List PyData} : Dp K H v d → DpAll K H vs ds → DpAll K H (v :: vs) (d :: ds)
end
section
variable {X : Cx} {pins : List (Addr × Obj)} {σ : St} {H : Hp} {s : Shared}
mutual
theorem Dp.reads (I : Inv X pins σ H s) : ∀ (d : PyData) (v : V) (u : Value), Dp X.K H v d → RelV v u → ∃ as, Reads s.heap u d as
  | .none, _, _, h, r => by
    cases h
    cases r
    exact ⟨_, Reads.none⟩
  | .bool b, _, _, h, r => by
    cases h
    cases r
    exact ⟨_, Reads.bool b⟩
  | .int i, _, _, h, r => by
    cases h
    obtain ⟨t, rfl⟩ := r
    exact ⟨_, Reads.int i t⟩
  | .str x, _, _, h, r => by
    cases h
    obtain ⟨t, rfl⟩ := r
    exact ⟨_, Reads.str x t⟩
  | .list ds, _, _, h, r => by
    cases h with
    | lst hs ha =>
      cases r
      obtain ⟨its, rv, ⟨o, n, ho, hc, _, hd⟩, _⟩ := I.list hs
      obtain ⟨as, hr⟩ := Dp.readsAll I ds _ its ha rv
      exact ⟨_, Reads.list ho hc hd hr⟩
  | .tuple ds, _, _, h, r => by
    cases h with
    | tup hs ha =>
      cases r
      obtain ⟨its, rv, ⟨o, ho, hc, n, hd⟩, _⟩ := I.tuple hs
      obtain ⟨as, hr⟩ := Dp.readsAll I ds _ its ha rv
      exact ⟨_, Reads.tuple ho hc hd hr⟩
  | .dict _, _, _, h, _ => by cases h
theorem Dp.readsAll (I : Inv X pins σ H s) : ∀ (ds : List PyData) (vs : List V) (us : List Value), DpAll X.K H vs ds → Vals vs us → ∃ as, ReadsAll s.heap us ds as
  | [], _, _, h, r => by
    cases h
    cases r
    exact ⟨_, ReadsAll.nil⟩
  | d :: ds, _, _, h, r => by
    cases h with
    | cons h1 h2 =>
      cases r with
      | cons r1 r2 =>
        obtain ⟨as, q1⟩ := Dp.reads I d _ _ h1 r1
        obtain ⟨bs, q2⟩ := Dp.readsAll I ds _ _ h2 r2
        exact ⟨_, ReadsAll.cons q1 q2⟩
end
end
section
variable {X : Cx}
def rEqD (K : PySem.W.Frag) : R2 := fun x y H Q => ∃ d e, Dp K H x d ∧ Dp K H y e ∧ SeqAt.shaped d = true ∧ SeqAt.shaped e = true ∧ Q (.bl (PyData.eqv d e)) H
def rNeD (K : PySem.W.Frag) : R2 := fun x y H Q => ∃ d e, Dp K H x d ∧ Dp K H y e ∧ SeqAt.shaped d = true ∧ SeqAt.shaped e = true ∧ Q (.bl (!PyData.eqv d e)) H
theorem op_eqD (hu : X.A.units + 64 < cLine) : OpR X (compareOp .Eq) (rEqD X.K) := by
  intro pins s σ H x y v u Q I rx ry h
  obtain ⟨d, e, hd, he, sd, se, q⟩ := h
  obtain ⟨as, r1⟩ := Dp.reads I d x v hd rx
  obtain ⟨bs, r2⟩ := Dp.reads I e y u he ry
  exact SeqAt.compareEq_shaped r1 r2 sd se hu ⟨.bl _, H, I, rfl, q⟩
theorem op_neD (hu : X.A.units + 64 < cLine) : OpR X (compareOp .NotEq) (rNeD X.K) := by
  intro pins s σ H x y v u Q I rx ry h
  obtain ⟨d, e, hd, he, sd, se, q⟩ := h
  obtain ⟨as, r1⟩ := Dp.reads I d x v hd rx
  obtain ⟨bs, r2⟩ := Dp.reads I e y u he ry
  exact SeqAt.compareNe_shaped r1 r2 sd se hu ⟨.bl _, H, I, rfl, q⟩
end
end L2

namespace L2
open PySem PySem.Spec PyProof.Rows
abbrev CellAt (h : Heap) (c : Addr) (v : Option Value) : Prop := h.IsCell c v
def relS (scope sc : Scope) : Scope :=
  { scope with names := scope.names.map fun (n, k) => if (k == .free && sc.kind == .function && sc.names.lookup n == some .cell) then (n, .cell) else (n, k) }

def cloFrom (cells : List (Str × Addr)) : List (Str × NameKind) → List (Str × Addr) → List (Str × Addr)
  | [], acc => acc
  | (n, k) :: r, acc => if k == .free then cloFrom cells r ((n, (cells.lookup n).getD 0) :: acc) else cloFrom cells r acc

theorem closure_loop (env : Env) (f : Str × NameKind → List (Str × Addr) → Sem (ForInStep (List (Str × Addr))))
    (hf : ∀ n k c, f (n, k) c = if k == .free then (do let a ← cellOf env n; pure (.yield ((n, a) :: c))) else pure (.yield c)) :
    ∀ (names : List (Str × NameKind)) (acc : List (Str × Addr)), (∀ y ∈ names, y.2 = .free → ∃ c, env.cells.lookup y.1 = some c) → forIn names acc f = pure (cloFrom env.cells names acc)
  | [], acc, _ => by rw [List.forIn_nil]; rfl
  | (n, k) :: r, acc, h => by
    rw [List.forIn_cons, hf]
    have ih := fun acc => closure_loop env f hf r acc fun y hy => h y (List.mem_cons_of_mem _ hy)
    unfold cloFrom
    by_cases hk : (k == NameKind.free) = true
    · rw [if_pos hk, if_pos hk]
      obtain ⟨c, hc⟩ := h (n, k) List.mem_cons_self (by simpa using hk)
      have e : cellOf env n = pure c := by unfold cellOf; rw [hc]
      rw [e]
      have e2 : (env.cells.lookup n).getD 0 = c := by rw [hc]; rfl
      rw [e2]
      exact ih _
    · rw [if_neg hk, if_neg hk]
      exact ih _
theorem closure_ok {scope : Scope} {env : Env} (h : ∀ y ∈ scope.names, y.2 = .free → ∃ c, env.cells.lookup y.1 = some c) : closureFor scope env = pure (cloFrom env.cells scope.names []) := by
  simp only [closureFor]
  rw [closure_loop env _ (fun n k c => rfl) scope.names [] h]
  rfl

theorem mem_lookup {α : Type} : ∀ {l : List (Str × α)} {n : Str} {c : α}, (n, c) ∈ l → ∃ c', l.lookup n = some c'
  | (k, v) :: r, n, c, h => by
    rw [List.lookup_cons]
    cases hb : n == k with
    | true => exact ⟨_, rfl⟩
    | false =>
      rcases List.mem_cons.mp h with e | h
      · cases e; simp at hb
      · exact mem_lookup h

theorem cloFrom_mem {cells : List (Str × Addr)} : ∀ {names : List (Str × NameKind)} {acc : List (Str × Addr)} {n : Str} {c : Addr}, (n, c) ∈ cloFrom cells names acc → (n, c) ∈ acc ∨ ((n, .free) ∈ names ∧ c = (cells.lookup n).getD 0)
  | [], _, _, _, h => .inl h
  | (m, k) :: r, acc, n, c, h => by
    unfold cloFrom at h
    split at h
    · rename_i hk
      have hk : k = .free := by simpa using hk
      rcases cloFrom_mem h with h | ⟨h1, h2⟩
      · rcases List.mem_cons.mp h with e | h
        · cases e; exact .inr ⟨hk ▸ List.mem_cons_self, rfl⟩
        · exact .inl h
      · exact .inr ⟨List.mem_cons_of_mem _ h1, h2⟩
    · rcases cloFrom_mem h with h | ⟨h1, h2⟩
      · exact .inl h
      · exact .inr ⟨List.mem_cons_of_mem _ h1, h2⟩
theorem cloFrom_acc {cells : List (Str × Addr)} : ∀ {names : List (Str × NameKind)} {acc : List (Str × Addr)} {p : Str × Addr}, p ∈ acc → p ∈ cloFrom cells names acc
  | [], _, _, h => h
  | (m, k) :: r, acc, p, h => by
    unfold cloFrom
    split
    · exact cloFrom_acc (List.mem_cons_of_mem _ h)
    · exact cloFrom_acc h
theorem cloFrom_has {cells : List (Str × Addr)} : ∀ {names : List (Str × NameKind)} {acc : List (Str × Addr)} {n : Str}, (n, .free) ∈ names → (n, (cells.lookup n).getD 0) ∈ cloFrom cells names acc
  | (m, k) :: r, acc, n, h => by
    unfold cloFrom
    rcases List.mem_cons.mp h with e | h
    · cases e
      exact cloFrom_acc List.mem_cons_self
    · split
      · exact cloFrom_has h
      · exact cloFrom_has h

theorem cells_mem : ∀ {names : List (Str × NameKind)} {h : Heap} {acc : List (Str × Addr)} {x : Str} {c : Addr}, (x, c) ∈ cellsFrom h.objs.size names acc →
    (x, c) ∈ acc ∨ ((x, .cell) ∈ names ∧ h.objs.size ≤ c ∧ CellAt (pushCells h names) c none)
  | [], _, _, _, _, h => .inl h
  | (n, k) :: r, h, acc, x, c, hm => by
    unfold cellsFrom at hm
    unfold pushCells
    split at hm
    · rename_i hk
      rw [if_pos hk]
      have hk : k = .cell := by simpa using hk
      rw [← Heap.size_push h { cls := .type "cell", data := .cell none }] at hm
      rcases cells_mem hm with hm | ⟨h1, h2, h3⟩
      · rcases List.mem_cons.mp hm with e | hm
        · cases e
          exact .inr ⟨hk ▸ List.mem_cons_self, Nat.le_refl _, _, pushCells_keeps r _ _ _ (Heap.get?_push_size _ rfl), rfl⟩
        · exact .inl hm
      · rw [Heap.size_push] at h2
        exact .inr ⟨List.mem_cons_of_mem _ h1, Nat.le_of_succ_le h2, h3⟩
    · rename_i hk
      rw [if_neg hk]
      rcases cells_mem hm with hm | ⟨h1, h2, h3⟩
      · exact .inl hm
      · exact .inr ⟨List.mem_cons_of_mem _ h1, h2, h3⟩
theorem cells_acc : ∀ {names : List (Str × NameKind)} {n : Nat} {acc : List (Str × Addr)} {p : Str × Addr}, p ∈ acc → p ∈ cellsFrom n names acc
  | [], _, _, _, h => h
  | (m, k) :: r, n, acc, p, h => by
    unfold cellsFrom
    split
    · exact cells_acc (List.mem_cons_of_mem _ h)
    · exact cells_acc h
theorem cells_has : ∀ {names : List (Str × NameKind)} {n : Nat} {acc : List (Str × Addr)} {x : Str}, (x, .cell) ∈ names → ∃ c, (x, c) ∈ cellsFrom n names acc
  | (m, k) :: r, n, acc, x, h => by
    unfold cellsFrom
    rcases List.mem_cons.mp h with e | h
    · cases e
      exact ⟨n, cells_acc List.mem_cons_self⟩
    · split
      · exact cells_has h
      · exact cells_has h
theorem cells_inj : ∀ {names : List (Str × NameKind)} {h : Heap} {acc : List (Str × Addr)} {x y : Str} {c : Addr}, (∀ p ∈ acc, p.2 < h.objs.size) → (∀ x y c, (x, c) ∈ acc → (y, c) ∈ acc → x = y) →
    (x, c) ∈ cellsFrom h.objs.size names acc → (y, c) ∈ cellsFrom h.objs.size names acc → x = y
  | [], _, _, _, _, _, _, hi, h1, h2 => hi _ _ _ h1 h2
  | (n, k) :: r, h, acc, x, y, c, hl, hi, h1, h2 => by
    unfold cellsFrom at h1 h2
    split at h1
    · rename_i hk
      rw [if_pos hk] at h2
      rw [← Heap.size_push h { cls := .type "cell", data := .cell none }] at h1 h2
      refine cells_inj (h := h.push _) (fun p hp => ?_) (fun x y c a b => ?_) h1 h2
      · rw [Heap.size_push]
        rcases List.mem_cons.mp hp with rfl | hp
        · exact Nat.lt_succ_self _
        · exact Nat.lt_succ_of_lt (hl p hp)
      · rcases List.mem_cons.mp a with e | a <;> rcases List.mem_cons.mp b with e' | b
        · cases e; cases e'; rfl
        · cases e; exact absurd (hl _ b) (Nat.lt_irrefl _)
        · cases e'; exact absurd (hl _ a) (Nat.lt_irrefl _)
        · exact hi _ _ _ a b
    · rename_i hk
      rw [if_neg hk] at h2
      exact cells_inj hl hi h1 h2

theorem newEnv_comp {M : Model} {A : Around} {E : Value → Shared → Prop} {s : Shared} {scope : Scope} {globals : Addr} {closure : List (Str × Addr)} {qual : Str} {func : Option Addr} {code : Value} {around : Env} {builtins : Addr} {Q : Env → Shared → Prop}
    (h : Q (newEnv scope s.heap.objs.size globals (cellsFrom (s.heap.objs.size + 1) scope.names closure) qual func code (some around) builtins)
      { s with heap := pushCells (s.heap.push { cls := .type "dict", data := .dict #[] }) scope.names }) :
    wpAny M A (newFunctionEnv scope globals closure [] qual func code (some around) builtins) Q E s := by
  simp only [newFunctionEnv, Option.isSome_some, if_true]
  refine wpAny_bind (wpAny_alloc ?_)
  refine wpAny_bind (wpAny_layCells _ (fun n k c => rfl) scope.names closure _ _ ?_)
  rw [show ({ s with heap := s.heap.push { cls := .type "dict", data := .dict #[] } } : Shared).heap.objs.size = s.heap.objs.size + 1 from Heap.size_push ..]
  rw [List.forIn_nil]
  exact wpAny_bind (wpAny_pure (wpAny_pure h))

/-- every name of the written scope, in the scope that runs -/
theorem lookup_relS {sc : Scope} : ∀ {names : List (Str × NameKind)} {x : Str} {k : NameKind},
    (names.map fun (n, k) => if (k == NameKind.free && sc.kind == .function && sc.names.lookup n == some .cell) then (n, NameKind.cell) else (n, k)).lookup x = some k →
    ∃ k', names.lookup x = some k' ∧ (k = k' ∨ (k' = .free ∧ k = .cell))
  | [], _, _, h => by simp at h
  | (n, k₀) :: r, x, k, h => by
    have ih := @lookup_relS sc r x k
    have h' : List.lookup x ((if (k₀ == NameKind.free && sc.kind == .function && sc.names.lookup n == some .cell) = true then (n, NameKind.cell) else (n, k₀)) :: (r.map _)) = some k := h
    cases hx : x == n with
    | true =>
      simp only [List.lookup_cons, hx]
      by_cases hc : (k₀ == NameKind.free && sc.kind == .function && sc.names.lookup n == some .cell) = true
      · rw [if_pos hc] at h'
        simp only [List.lookup_cons, hx] at h'
        cases h'
        simp only [Bool.and_eq_true, beq_iff_eq] at hc
        exact ⟨k₀, rfl, .inr ⟨hc.1.1, rfl⟩⟩
      · rw [if_neg hc] at h'
        simp only [List.lookup_cons, hx] at h'
        cases h'
        exact ⟨_, rfl, .inl rfl⟩
    | false =>
      simp only [List.lookup_cons, hx]
      by_cases hc : (k₀ == NameKind.free && sc.kind == .function && sc.names.lookup n == some .cell) = true
      · rw [if_pos hc] at h'
        simp only [List.lookup_cons, hx] at h'
        exact ih h'
      · rw [if_neg hc] at h'
        simp only [List.lookup_cons, hx] at h'
        exact ih h'
/-- the names of a comprehension's block: its own (with their places in N), or captured -/
structure BlkOk (N : List Str) (sc scope : Scope) (own : List (Str × Nat)) : Prop where
  kind : scope.kind = .function
  uniq : ∀ y ∈ scope.names, scope.names.lookup y.1 = some y.2
  ix : ∀ p ∈ own, N[p.2]? = some p.1
  free : ∀ y ∈ scope.names, y.2 = .free → sc.names.lookup y.1 = some .cell ∨ sc.names.lookup y.1 = some .free
  own : ∀ y ∈ scope.names, y.2 = .local ∨ y.2 = .cell → y.1 ∈ own.map (·.1) ∨ y.1 ∉ N
/-- the slots of the block's own names forgotten -/
def wipe (σ : St) : List Nat → St
  | [] => σ
  | v :: vs => (wipe σ vs).set v none
theorem wipe_length (σ : St) : ∀ vs : List Nat, (wipe σ vs).length = σ.length
  | [] => rfl
  | v :: vs => by unfold wipe; rw [List.length_set, wipe_length σ vs]
theorem wipe_some {σ : St} {i : Nat} {x : V} : ∀ {vs : List Nat}, (wipe σ vs)[i]? = some (some x) → σ[i]? = some (some x) ∧ i ∉ vs
  | [], h => ⟨h, by simp⟩
  | v :: vs, h => by
    unfold wipe at h
    by_cases hi : v = i
    · subst hi
      by_cases hv : v < (wipe σ vs).length
      · rw [List.getElem?_set_self hv] at h; cases h
      · rw [List.getElem?_eq_none (by simpa using hv)] at h; cases h
    · rw [List.getElem?_set_ne hi] at h
      obtain ⟨h1, h2⟩ := wipe_some h
      exact ⟨h1, by simp only [List.mem_cons, not_or]; exact ⟨fun e => hi e.symm, h2⟩⟩

/-- the context of a block that starts at s, its iterator's objects at fp -/
abbrev Cx.blk (X : Cx) (s : Shared) (H : Hp) (scope : Scope) (cenv : Env) (fp : List Addr) : Cx := { X with s_0 := s, H_0 := H, env := cenv, outer := X.stack, ex := fp, fn := fun x => scope.names.lookup x == some .cell, pn := [], xe := fun _ _ => False }
section
variable {X : Cx} {pins : List (Addr × Obj)} {σ : St} {H : Hp} {s : Shared}
theorem block_start {scope : Scope} {own : List (Str × Nat)} {fp : List Addr} (I : Inv X pins σ H s) (ok : BlkOk X.N X.env.scope scope own) (hN : X.N.Nodup) (hfp : ∀ b ∈ fp, FpOk X pins H b ∧ b < s.heap.objs.size) :
    Inv (X.blk s H scope (compEnvC scope (cellsFrom (s.heap.objs.size + 1) scope.names (cloFrom X.env.cells scope.names [])) s.heap.objs.size X.env) fp) [] (wipe σ (own.map (·.2))) H { s with heap := pushCells (s.heap.push { cls := .type "dict", data := .dict #[] }) scope.names } := by
  have hfree : ∀ y ∈ scope.names, y.2 = .free → ∃ c, X.env.cells.lookup y.1 = some c := fun y hy e => by
    rcases ok.free y hy e with k | k
    · exact I.ok.has _ (.inl k)
    · exact I.ok.has _ (.inr k)
  generalize hcenv : compEnvC scope (cellsFrom (s.heap.objs.size + 1) scope.names (cloFrom X.env.cells scope.names [])) s.heap.objs.size X.env = cenv
  have kp : ∀ b o, s.heap.get? b = some o → (pushCells (s.heap.push { cls := .type "dict", data := .dict #[] }) scope.names).get? b = some o := fun b o e => pushCells_keeps _ _ _ _ (Heap.get?_push_of_some _ e)
  have hL : cenv.locals = s.heap.objs.size := by rw [← hcenv]; rfl
  have hcl : cenv.cells = cellsFrom (s.heap.objs.size + 1) scope.names (cloFrom X.env.cells scope.names []) := by rw [← hcenv]; rfl
  have hsc : cenv.scope = relS scope X.env.scope := by rw [← hcenv]; rfl
  rw [← Heap.size_push s.heap { cls := .type "dict", data := .dict #[] }] at hcl
  have cm : ∀ {y c}, (y, c) ∈ cloFrom X.env.cells scope.names [] → X.env.cells.lookup y = some c ∧ c < s.heap.objs.size := fun {y c} hm => by
    rcases cloFrom_mem hm with hm | ⟨h1, rfl⟩
    · cases hm
    · obtain ⟨c, hc⟩ := hfree _ h1 rfl
      rw [hc]
      obtain ⟨w, z⟩ := I.cell _ _ hc
      exact ⟨rfl, z.lt⟩
  have mem : ∀ {y c}, cenv.cells.lookup y = some c → (X.env.cells.lookup y = some c ∧ c < s.heap.objs.size) ∨ (s.heap.objs.size + 1 ≤ c ∧ CellAt (pushCells (s.heap.push { cls := .type "dict", data := .dict #[] }) scope.names) c none) := fun {y c} e => by
    rw [hcl] at e
    rcases cells_mem (PySem.mem_of_lookup e) with hm | ⟨_, h2, h3⟩
    · exact .inl (cm hm)
    · rw [Heap.size_push] at h2; exact .inr ⟨h2, h3⟩
  have look : ∀ {y}, scope.names.lookup y = some .free → ∃ c, cenv.cells.lookup y = some c ∧ X.env.cells.lookup y = some c := fun {y} hl => by
    have hy : (y, NameKind.free) ∈ scope.names := PySem.mem_of_lookup hl
    obtain ⟨c', e'⟩ := mem_lookup (cells_acc (names := scope.names) (n := (s.heap.push { cls := .type "dict", data := .dict #[] }).objs.size) (cloFrom_has (cells := X.env.cells) (acc := []) hy))
    rw [← hcl] at e'
    refine ⟨c', e', ?_⟩
    rw [hcl] at e'
    rcases cells_mem (PySem.mem_of_lookup e') with hm | ⟨h1, _, _⟩
    · exact (cm hm).1
    · have := ok.uniq _ h1
      rw [hl] at this; cases this
  have okB : (X.blk s H scope cenv fp).Ok := by
    refine ⟨I.ok.mod, by show cenv.scope.kind = _; rw [hsc]; exact ok.kind, by show cenv.globals = _; rw [← hcenv]; exact I.ok.glob, by show cenv.builtins = _; rw [← hcenv]; exact I.ok.blt, by show s.heap.objs.size ≤ cenv.locals; rw [hL]; exact Nat.le_refl _,
      fun y z c e1 e2 => ?_, fun y hy => ?_, fun y c z e => ?_, I.ok.hd, I.ok.frames, .inl rfl, fun b hb => ⟨?_, fun y c e z => ?_⟩, I.bs, Nat.le_trans I.ok.bsz I.sz, fun b o e hb => ?_, fun b hb z => ?_, I.stack, I.stkFree⟩
    · have e1 : cenv.cells.lookup y = some c := e1
      have e2 : cenv.cells.lookup z = some c := e2
      rw [hcl] at e1 e2
      refine cells_inj (fun p hp => ?_) (fun y z c a b => I.ok.inj y z c (cm a).1 (cm b).1) (PySem.mem_of_lookup e1) (PySem.mem_of_lookup e2)
      rw [Heap.size_push]
      exact Nat.lt_succ_of_lt (cm (y := p.1) (c := p.2) hp).2
    · show ∃ c, cenv.cells.lookup y = some c
      have key : ∀ k, cenv.kindOf y = some k → (k = .cell ∨ k = .free) → ∃ c, cenv.cells.lookup y = some c := fun k hk hk' => by
        unfold Env.kindOf at hk
        rw [hsc] at hk
        obtain ⟨k', e, r⟩ := lookup_relS hk
        have : k' = .cell ∨ k' = .free := by
          rcases r with rfl | ⟨rfl, _⟩
          · exact hk'
          · exact .inr rfl
        rcases this with rfl | rfl
        · obtain ⟨c, hm⟩ := cells_has (n := (s.heap.push { cls := .type "dict", data := .dict #[] }).objs.size) (acc := cloFrom X.env.cells scope.names []) (PySem.mem_of_lookup e)
          obtain ⟨c', e'⟩ := mem_lookup hm
          exact ⟨c', by rw [hcl]; exact e'⟩
        · obtain ⟨c, h1, _⟩ := look e
          exact ⟨c, h1⟩
      rcases hy with hy | hy
      · exact key _ hy (.inl rfl)
      · exact key _ hy (.inr rfl)
    · have z : (scope.names.lookup y == some NameKind.cell) = true := z
      have z : scope.names.lookup y = some .cell := by simpa using z
      have e : cenv.cells.lookup y = some c := e
      rw [hcl] at e
      rcases cells_mem (PySem.mem_of_lookup e) with hm | ⟨_, h2, _⟩
      · rcases cloFrom_mem hm with hm | ⟨h1, _⟩
        · cases hm
        · have q := ok.uniq _ h1
          rw [z] at q; cases q
      · rw [Heap.size_push] at h2
        exact Nat.le_of_succ_le h2
    · show b ≠ cenv.locals
      rw [hL]; exact Nat.ne_of_lt (hfp b hb).2
    · have e : cenv.cells.lookup y = some c := e
      rcases mem e with ⟨h1, _⟩ | ⟨h1, _⟩
      · exact (hfp b hb).1.2.2.2.2.1 y c h1 z
      · have h2 : s.heap.objs.size + 1 ≤ b := by rw [← z]; exact h1
        exact absurd (Nat.lt_of_lt_of_le (hfp b hb).2 (Nat.le_of_succ_le h2)) (Nat.lt_irrefl _)
    · rcases (hfp b hb).1.2.2.2.1 with z | z
      · exact I.ok.noex b o e z
      · exact absurd (Nat.lt_of_lt_of_le (Heap.lt_size e) (Nat.le_trans I.ok.bsz z)) (Nat.lt_irrefl _)
    · rcases List.mem_cons.mp (I.stkSub b z) with z | z
      · exact (hfp b hb).1.2.1 z
      · exact (hfp b hb).1.2.2.1 z
  refine ⟨okB, rfl, I.bare, Un.kept kp, ⟨fun _ => none, ?_, fun i y av e1 e2 e3 => ?_⟩, fun y c e => ?_, ?_, fun y c e => ?_, fun p hp => ?_, I.hok.kept kp, by rw [wipe_length]; exact I.len⟩
  · show Heap.Ns _ cenv.locals _
    rw [hL]
    exact Heap.Ns.keeps (Heap.Ns.new ..) fun b o e => pushCells_keeps _ _ _ _ e
  · obtain ⟨e2, hne⟩ := wipe_some e2
    have hfr : scope.names.lookup y = some .free ∧ (cenv.kindOf y = some .cell ∨ cenv.kindOf y = some .free) := by
      have key : ∀ k, cenv.scope.names.lookup y = some k → k = .local ∨ k = .cell ∨ k = .free → scope.names.lookup y = some .free ∧ (cenv.kindOf y = some .cell ∨ cenv.kindOf y = some .free) := fun k hk hk' => by
        have hk0 := hk
        rw [hsc] at hk
        obtain ⟨k', e, r⟩ := lookup_relS hk
        have no : ¬ (k' = .local ∨ k' = .cell) := fun hh => by
          rcases ok.own _ (PySem.mem_of_lookup e) hh with e' | e'
          · obtain ⟨p, hp, hpy⟩ := List.mem_map.mp e'
            have e3 := ok.ix p hp
            have : p.1 = y := hpy
            rw [this] at e3
            exact hne (List.mem_map.mpr ⟨p, hp, nodup_ix hN e3 e1⟩)
          · exact e' (List.mem_of_getElem? e1)
        rcases r with rfl | ⟨rfl, rfl⟩
        · rcases hk' with rfl | rfl | rfl
          · exact absurd (.inl rfl) no
          · exact absurd (.inr rfl) no
          · exact ⟨e, .inr hk0⟩
        · exact ⟨e, .inl hk0⟩
      have e3 : Vis cenv.scope y := e3
      rcases e3 with e3 | e3 | e3
      · exact key _ e3 (.inl rfl)
      · exact key _ e3 (.inr (.inl rfl))
      · exact key _ e3 (.inr (.inr rfl))
    obtain ⟨m, hn, hl⟩ := I.loc
    have hvis : Vis X.env.scope y := (ok.free _ (PySem.mem_of_lookup hfr.1) rfl).elim (fun k => .inr (.inl k)) (fun k => .inr (.inr k))
    obtain ⟨w, r, q⟩ := hl i y av e1 e2 hvis
    refine ⟨w, r, .inr ⟨hfr.2, ?_⟩⟩
    obtain ⟨c, h1, h2⟩ := look hfr.1
    rcases q with ⟨k, _⟩ | ⟨_, c', e', z⟩
    · have k : X.env.scope.names.lookup y = some .local := k
      rcases ok.free _ (PySem.mem_of_lookup hfr.1) rfl with k' | k' <;> rw [show X.env.scope.names.lookup y = _ from k'] at k <;> cases k
    · rw [h2] at e'; cases e'
      exact ⟨c, h1, z.keeps kp⟩
  · have e : cenv.cells.lookup y = some c := e
    rcases mem e with ⟨h1, _⟩ | ⟨_, z⟩
    · obtain ⟨w, z⟩ := I.cell y c h1
      exact ⟨w, z.keeps kp⟩
    · exact ⟨_, z⟩
  · show H cenv.locals = none
    rw [hL]; exact I.hok.fresh (Nat.le_refl _)
  · have e : cenv.cells.lookup y = some c := e
    rcases mem e with ⟨h1, _⟩ | ⟨h1, _⟩
    · exact I.freeC y c h1
    · exact I.hok.fresh (Nat.le_of_succ_le h1)
  · exact absurd (show p ∈ ([] : List (Addr × Obj)) ++ [] from hp) (by simp)

/-- an item appended to a tracked list -/
theorem app_ok {E : Value → Shared → Prop} {D : Addr} {xs : List V} {y : V} {v : Value} {Q : Value → Shared → Prop} (I : Inv X pins σ H s) (hD : H D = some (.lst xs)) (hz : xs.length < sizeLine) (r : RelV y v)
    (h : ∀ s', Inv X pins σ (upd H D (.lst (xs ++ [y]))) s' → Q .none s') : wpAny (model X.prog X.w) X.A (call (.builtin "list.append") [.ref D, v]) Q E s := by
  obtain ⟨hz', its, n, ri, e⟩ := I.hok D _ hD
  have hl := ri.length
  refine append_at (hsz := by rw [List.size_toArray]; omega) e fun h' sb ho' => ?_
  refine h { s with heap := h' } (I.write (t' := s.toks) (by rw [hD]; trivial) (.inl rfl) (fun b u hb q => (sb.2 b hb).trans q) ⟨_, ho'⟩ ⟨by rw [List.length_append]; exact hz, its ++ [v], n + 1, ri.append (.cons r .nil), ?_⟩)
  rw [ho']
  simp

/-- a clause's tests -/
def PTs (X : Cx) (ifs : List Expr) (t : TT) : Prop :=
  ∀ (pins : List (Addr × Obj)) (s : Shared) (σ : St) (H : Hp) (Q : Bool → Hp → Prop), Inv X pins σ H s → t σ H Q →
    wpAny (model X.prog X.w) X.A (forIn ifs true fun c r => if r = true then do let ok ← isTrue c X.env (eval c X.env); pure (ForInStep.yield ok) else pure (ForInStep.yield r)) (TP X pins σ Q) X.xe s
def tYes : TT := fun _ H Q => Q true H
theorem pts_nil : PTs X [] tYes := fun _ _ _ H _ I h => wpAny_tests_nil ⟨H, I, h⟩
end

theorem thnF {α : Type} {t : Sem α} {Q Q' : α → Shared → Prop} {M : Model} {A : Around} {E : Value → Shared → Prop} {s : Shared} (h : wpAny M A t Q (fun _ _ => False) s) (hQ : ∀ a s, Q a s → Q' a s) : wpAny M A t Q' E s := wpAny_mono h hQ fun _ _ z => False.elim z

/-- the loop of a list comprehension's block, the target of any form (codeAny_compLoop_tests asks a target that no tuple goes to; statement and proof follow it, PyProof/CompMap.lean:41-61, with the step letOwnedTupleGo kept) -/
theorem compLoop_any {prog : Program} {w : World} {A : Around} {R : Result → Shared → Prop} {s : Shared} {elt target iter : Expr} {ifs : List Expr} {scope : Scope} {pos : Pos} {it acc : Value} {env : Env} (I : Nat → Shared → Prop)
    (turn : ∀ n s, I n s → wpAny (model prog w) A (pyNext it) (fun r s₁ => match r with
      | none => R (.ok .next) s₁
      | some v => wpAny (model prog w) A (letOwnedTupleGo target it v) (fun _ s₁' => wpAny (model prog w) A (assign target env v) (fun _ s₂ =>
          wpAny (model prog w) A (forIn ifs true fun c r => if r = true then do let ok ← isTrue c env (eval c env); pure (ForInStep.yield ok) else pure (ForInStep.yield r)) (fun ok s₃ =>
            if ok = true then wpAny (model prog w) A (eval elt env) (fun x s₄ =>
              wpAny (model prog w) A (call (.builtin "list.append") [acc, x]) (fun _ s₅ => ∃ m, m < n ∧ I m s₅) (notedBy (model prog w) A env fun e s' => R (.error e) s') s₄) (notedBy (model prog w) A env fun e s' => R (.error e) s') s₃
            else ∃ m, m < n ∧ I m s₃) (notedBy (model prog w) A env fun e s' => R (.error e) s') s₂) (notedBy (model prog w) A env fun e s' => R (.error e) s') s₁') (notedBy (model prog w) A env fun e s' => R (.error e) s') s₁) (notedBy (model prog w) A env fun e s' => R (.error e) s') s)
    (n : Nat) (h : I n s) :
    codeAny (model prog w) A (.compLoop (.ListComp elt [⟨target, iter, ifs, 0⟩] scope pos) 0 it acc env) R s := by
  refine codeAny_loop rfl I (fun n s hI => ?_) n h
  show wpAny _ A ((compTurn (.ListComp elt [⟨target, iter, ifs, 0⟩] scope pos) 0 it acc env).onRaise (fun x => do noteFrame x env; theTreesLotGoes x)) _ _ s
  refine wpAny_noted ?_
  rw [compTurn_list]
  refine wpAny_bind (wpAny_standAt (wpAny_bind (wpAny_mono (turn n s hI) (fun r s₁ h₁ => ?_) fun _ _ h' => h')))
  cases r with
  | none => exact wpAny_pure h₁
  | some v =>
    refine wpAny_bind (wpAny_mono h₁ (fun _ s₁' h₁' => ?_) fun _ _ h' => h')
    refine wpAny_bind (wpAny_mono h₁' (fun _ s₂ h₂ => wpAny_bind (wpAny_mono h₂ (fun ok s₃ h₃ => ?_) fun _ _ h' => h')) fun _ _ h' => h')
    cases ok with
    | false => exact wpAny_pure ⟨rfl, h₃⟩
    | true =>
      exact wpAny_bind (wpAny_bind (wpAny_mono h₃ (fun x s₄ h₄ => wpAny_bind (wpAny_mono h₄ (fun _ s₅ h₅ => wpAny_pure (wpAny_pure ⟨rfl, h₅⟩)) fun _ _ h' => h')) fun _ _ h' => h'))

section
variable {X : Cx}
/-- [elt for target in iter if ..]: D the new list; W by the turn and a measure, Nx what a turn is to reach -/
def tLc (wi : TI) (g : TG) (tt : TT) (te : TE) (vs : List Nat) : TE := fun σ H Q => wi σ H fun J H1 => ∀ D, H1 D = none → ∃ W : Nat → Nat → Hp → Prop, (∃ m, W 0 m (upd H1 D (.lst []))) ∧ ∀ i m H, W i m H →
  (J.stop i H ∧ Q (.ref D) H) ∨ (J.go i H ∧ ∃ Nx : Hp → Prop, (∀ H', Nx H' → ∃ m', m' < m ∧ W (i + 1) m' H') ∧ ∀ x H', J.yld i H x H' → g x (wipe σ vs) H' fun σ2 H2 => wipe σ2 vs = wipe σ vs ∧ tt σ2 H2 fun b H3 =>
    if b = true then te σ2 H3 fun y H4 => ∃ acc, H4 D = some (.lst acc) ∧ acc.length < sizeLine ∧ Nx (upd H4 D (.lst (acc ++ [y]))) else Nx H3)
theorem lc_core {pins : List (Addr × Obj)} {s : Shared} {σ : St} {H : Hp} {Q : VK} {elt tg iter : Expr} {ifs : List Expr} {scope : Scope} {own : List (Str × Nat)} {pos pos' : Pos} {wi : TI} {g : TG} {tt : TT} {te : TE} {use : Option (Value → Sem Unit)} {Qf : Value → Shared → Prop}
    (hc : X.calm = true) (hN : X.N.Nodup) (I : Inv X pins σ H s) (hi : PI X tg iter wi) (ok : BlkOk X.N X.env.scope scope own)
    (hg : ∀ (s : Shared) (H : Hp) (C : Addr) (cl : List (Str × Addr)) (fp : List Addr), PG (X.blk s H scope (compEnvC scope cl C X.env) fp) tg g) (ht : ∀ (s : Shared) (H : Hp) (C : Addr) (cl : List (Str × Addr)) (fp : List Addr), PTs (X.blk s H scope (compEnvC scope cl C X.env) fp) ifs tt)
    (he : ∀ (s : Shared) (H : Hp) (C : Addr) (cl : List (Str × Addr)) (fp : List Addr), PE (X.blk s H scope (compEnvC scope cl C X.env) fp) elt te) (hs : ∀ x, foldedSetIterable iter X.env x = pure x)
    (h : tLc wi g tt te (own.map (·.2)) σ H Q)
    (hRR : ∀ D C s' m H', Inv X pins σ H' s' → Q (.ref D) H' → s'.heap.Ns C m → FpOk X pins H' C → compPost (model X.prog X.w) X.A X.xe use Qf (.ref D) C (.ok .next) s') :
    wpAny (model X.prog X.w) X.A (comprehension (.ListComp elt [⟨tg, iter, ifs, 0⟩] scope pos) scope X.env pos' (newList []) false (eval iter X.env) use) Qf X.xe s := by
  have hfree : ∀ y ∈ scope.names, y.2 = .free → ∃ c, X.env.cells.lookup y.1 = some c := fun y hy e => by
    rcases ok.free y hy e with k | k
    · exact I.ok.has _ (.inl k)
    · exact I.ok.has _ (.inr k)
  refine wpAny_comprehension_free (use := use) rfl hs (closure_ok hfree) ok.kind (fun y hy e => by rw [ok.uniq y hy, e])
    (thn (hi pins s σ H _ I h) fun xv s1 hx => thn hx fun itv s2 h2 => ?_)
  obtain ⟨it, fp, tn, J, H2, e, I2, T, st2, f2, q⟩ := h2
  subst e
  refine wpAny_newObj_type (newEnv_comp ?_) (by show 0 ≤ sizeLine; decide)
  generalize hD : s2.heap.objs.size = D
  have hDn : H2 D = none := I2.hok.fresh (Nat.le_of_eq hD)
  obtain ⟨W, ⟨m0, w0⟩, turn⟩ := q D hDn
  -- the new list
  generalize hs3 : ({ s2 with heap := s2.heap.push { cls := .type "list", data := .seq ([] : List Value).toArray } } : Shared) = s3
  have I3 : Inv X pins σ (upd H2 D (.lst [])) s3 := by
    rw [← hs3]
    refine I2.laid (t' := s2.toks) (fun b o e => Heap.get?_push_of_some _ e) (Nat.le_of_eq hD) ⟨Nat.zero_le _, [], 0, .nil, ?_⟩
    rw [← hD]
    exact Heap.get?_push_size _ rfl
  have h3 : s3.heap = s2.heap.push { cls := .type "list", data := .seq ([] : List Value).toArray } := by rw [← hs3]
  have sz : ∀ b ∈ fp, b < s2.heap.objs.size := fun b hb => by
    obtain ⟨o, e, _⟩ := T.obj _ _ st2 b hb
    exact Heap.lt_size e
  have f3 : ∀ b ∈ fp, FpOk X pins (upd H2 D (.lst [])) b ∧ b < s3.heap.objs.size := fun b hb => by
    have hlt := sz b hb
    refine ⟨⟨?_, (f2 b hb).2⟩, by rw [h3, Heap.size_push]; exact Nat.lt_succ_of_lt hlt⟩
    rw [upd_ne (by rw [← hD]; exact Nat.ne_of_lt hlt)]
    exact (f2 b hb).1
  have st3 : tn 0 s3.heap := T.keep _ _ _ st2 fun b _ o e => by rw [h3]; exact Heap.get?_push_of_some _ e
  have I4 := block_start I3 ok hN f3
  have pg := hg s3 (upd H2 D (.lst [])) s3.heap.objs.size (cellsFrom (s3.heap.objs.size + 1) scope.names (cloFrom X.env.cells scope.names [])) fp
  have pt := ht s3 (upd H2 D (.lst [])) s3.heap.objs.size (cellsFrom (s3.heap.objs.size + 1) scope.names (cloFrom X.env.cells scope.names [])) fp
  have pe := he s3 (upd H2 D (.lst [])) s3.heap.objs.size (cellsFrom (s3.heap.objs.size + 1) scope.names (cloFrom X.env.cells scope.names [])) fp
  show codeAny _ _ (.compStart (.ListComp elt [⟨tg, iter, ifs, 0⟩] scope pos) 0 (.ref it) (.ref D) (compEnvC scope (cellsFrom (s3.heap.objs.size + 1) scope.names (cloFrom X.env.cells scope.names [])) s3.heap.objs.size X.env)) (compPost (model X.prog X.w) X.A X.xe use Qf (.ref D) s3.heap.objs.size) { s3 with heap := pushCells (s3.heap.push { cls := .type "dict", data := .dict #[] }) scope.names }
  have nfp : ∀ b ∈ fp, (upd H2 D (.lst [])) b = none := fun b hb => (f3 b hb).1.1
  generalize hce : compEnvC scope (cellsFrom (s3.heap.objs.size + 1) scope.names (cloFrom X.env.cells scope.names [])) s3.heap.objs.size X.env = ce at I4 pg pt pe ⊢
  have cL : ce.locals = s3.heap.objs.size := by subst hce; rfl
  generalize hH3 : upd H2 D (.lst []) = H3 at I3 I4 pg pt pe w0 nfp f3
  generalize hs4 : ({ s3 with heap := pushCells (s3.heap.push { cls := .type "dict", data := .dict #[] }) scope.names } : Shared) = s4 at I4 ⊢
  have st4 : tn 0 s4.heap := T.keep _ _ _ st3 fun b _ o e => by rw [← hs4]; exact pushCells_keeps _ _ _ _ (Heap.get?_push_of_some _ e)
  have stat : ∀ {σ' : St} {H' : Hp} {s' : Shared}, Inv (X.blk s3 H3 scope ce fp) [] σ' H' s' → (∀ b ∈ fp, H' b = none) → ∀ b ∈ fp, FpOk (X.blk s3 H3 scope ce fp) [] H' b := fun {σ' H' s'} I' hn b hb =>
    ⟨hn b hb, (I'.ok.exf b hb).1, I'.ok.exfs b hb, .inl hb, fun x c e => (I'.ok.exf b hb).2 x c e, fun p hp => absurd (show p ∈ ([] : List (Addr × Obj)) ++ [] from hp) (by simp)⟩
  have loop : codeAny (model X.prog X.w) X.A (.compLoop (.ListComp elt [⟨tg, iter, ifs, 0⟩] scope pos) 0 (.ref it) (.ref D) ce) (compPost (model X.prog X.w) X.A X.xe use Qf (.ref D) s3.heap.objs.size) s4 := by
    refine compLoop_any (fun n s' => ∃ i H', Inv (X.blk s3 H3 scope ce fp) [] (wipe σ (own.map (·.2))) H' s' ∧ tn i s'.heap ∧ (∀ b ∈ fp, H' b = none) ∧ W i n H') ?_ m0 ⟨0, H3, I4, st4, nfp, w0⟩
    rintro n s5 ⟨i, H5, I5, st5, n5, w5⟩
    rcases turn i n H5 w5 with ⟨stop, qq⟩ | ⟨go, Nx, hNx, step⟩
    · have td := T.done (X.blk s3 H3 scope ce fp) rfl rfl rfl hc i [] s5 _ H5 (fun _ _ => False) I5 (stat I5 n5) st5 stop
      refine thnF td fun r s6 ⟨hr, I6⟩ => ?_
      subst hr
      -- back in the def's context
      have I7 : Inv X pins σ H5 s6 := I3.call' (ch := fp) I6.os I6.base I6.hok I6.bare fun b hb => ⟨(f3 b hb).1.2.2.2.1, (f3 b hb).1.2.1, (f3 b hb).1.2.2.2.2.1, (f3 b hb).1.2.2.2.2.2⟩
      have nC : H5 s3.heap.objs.size = none := by
        have z : H5 ce.locals = none := I6.free
        rw [cL] at z
        exact z
      obtain ⟨m, hn, _⟩ := I6.loc
      have hn : s6.heap.Ns ce.locals m := hn
      rw [cL] at hn
      exact hRR D s3.heap.objs.size s6 m H5 I7 qq hn (I3.fpOk (Nat.le_refl _) nC)
    · have ti := T.item (X.blk s3 H3 scope ce fp) rfl rfl rfl hc i [] s5 _ H5 (fun _ _ => False) I5 (stat I5 n5) st5 go
      refine thnF ti fun r s6 ⟨u, hr, h6⟩ => ?_
      subst hr
      refine thnF h6 fun _ s7 ⟨x, H7, I7, r7, y7, st7, n7⟩ => ?_
      have I7' := I7.pinned (stat I7 n7) (T.obj _ _ st7)
      refine thnF (pg _ s7 _ H7 x u _ I7' r7 (step x H7 y7)) fun _ s8 ⟨σ8, H8, I8, hw8, q8⟩ => ?_
      refine thnF (pt _ s8 σ8 H8 _ I8 q8) fun b s9 ⟨H9, I9, q9⟩ => ?_
      -- the turn's end
      have fin : ∀ {s' : Shared} {H' : Hp}, Inv (X.blk s3 H3 scope ce fp) ([] ++ pinsAt fp s7.heap) σ8 H' s' → Nx H' → ∃ m, m < n ∧ ∃ i H', Inv (X.blk s3 H3 scope ce fp) [] (wipe σ (own.map (·.2))) H' s' ∧ tn i s'.heap ∧ (∀ b ∈ fp, H' b = none) ∧ W i m H' := fun {s' H'} I' nx => by
        obtain ⟨m', hm, w'⟩ := hNx H' nx
        have pin' : ∀ b ∈ fp, ∀ o, s7.heap.get? b = some o → s'.heap.get? b = some o ∧ H' b = none := fun b hb o e =>
          let z := I'.pin (b, o) (List.mem_append_right _ (List.mem_append_right _ (mem_pinsAt hb e)))
          ⟨z.1, z.2.1⟩
        have hl : (wipe σ (own.map (·.2))).length = σ8.length := by rw [← hw8, wipe_length]
        refine ⟨m', hm, i + 1, H', (I'.unpinned (pins := [])).weak hl (fun j v e => ?_), T.keep _ _ _ st7 fun b hb o e => (pin' b hb o e).1, fun b hb => ?_, w'⟩
        · rw [← hw8] at e
          exact (wipe_some e).1
        · obtain ⟨o, e, _⟩ := T.obj _ _ st7 b hb
          exact (pin' b hb o e).2
      cases b with
      | false =>
        simp only [Bool.false_eq_true, if_false] at q9 ⊢
        exact fin I9 q9
      | true =>
        simp only [if_true] at q9 ⊢
        refine thnF (pe _ s9 σ8 H9 _ I9 q9) fun z s10 ⟨yv, H10, I10, r10, acc, hD10, hz10, nx⟩ => ?_
        exact app_ok (X := X.blk s3 H3 scope ce fp) I10 hD10 hz10 r10 fun s11 I11 => fin I11 nx
  exact codeAny_compStart_list loop (T.self X.A 0 _ _ _ st4 loop)
/-- as a value -/
theorem pe_lc {elt tg iter : Expr} {ifs : List Expr} {scope : Scope} {own : List (Str × Nat)} {pos : Pos} {wi : TI} {g : TG} {tt : TT} {te : TE} (hc : X.calm = true) (hN : X.N.Nodup) (hi : PI X tg iter wi) (ok : BlkOk X.N X.env.scope scope own)
    (hg : ∀ (s : Shared) (H : Hp) (C : Addr) (cl : List (Str × Addr)) (fp : List Addr), PG (X.blk s H scope (compEnvC scope cl C X.env) fp) tg g) (ht : ∀ (s : Shared) (H : Hp) (C : Addr) (cl : List (Str × Addr)) (fp : List Addr), PTs (X.blk s H scope (compEnvC scope cl C X.env) fp) ifs tt)
    (he : ∀ (s : Shared) (H : Hp) (C : Addr) (cl : List (Str × Addr)) (fp : List Addr), PE (X.blk s H scope (compEnvC scope cl C X.env) fp) elt te) (hs : ∀ x, foldedSetIterable iter X.env x = pure x := by intro _; rfl) :
    PE X (.ListComp elt [⟨tg, iter, ifs, 0⟩] scope pos) (tLc wi g tt te (own.map (·.2))) := by
  intro pins s σ H Q I h
  rw [eval_ListComp]
  refine lc_core hc hN I hi ok hg ht he hs h fun D C s' m H' I' q hn f => ⟨m, hn, fun h'' sb => ?_⟩
  obtain ⟨f0, f1, f2, f3, f4, f5⟩ := f
  exact ⟨.ref D, H', I'.turned (t' := s'.toks) (fun b o hb e => (sb.2 b hb).trans e) f0 f1 f3 f4 f5, rfl, q⟩
/-- name = [..] on one line, the name a local -/
theorem ps_setLc {i : Nat} {y : Str} {py : Pos} {elt tg iter : Expr} {ifs : List Expr} {scope : Scope} {own : List (Str × Nat)} {pos spos : Pos} {wi : TI} {g : TG} {tt : TT} {te : TE} (hc : X.calm = true) (hN : X.N.Nodup) (hy : X.N[i]? = some y) (hyl : X.env.scope.names.lookup y = some .local)
    (hsw : swapsWith (.ListComp elt [⟨tg, iter, ifs, 0⟩] scope pos) (some (.Name y py)) spos.line X.env = pure true) (hi : PI X tg iter wi) (ok : BlkOk X.N X.env.scope scope own)
    (hg : ∀ (s : Shared) (H : Hp) (C : Addr) (cl : List (Str × Addr)) (fp : List Addr), PG (X.blk s H scope (compEnvC scope cl C X.env) fp) tg g) (ht : ∀ (s : Shared) (H : Hp) (C : Addr) (cl : List (Str × Addr)) (fp : List Addr), PTs (X.blk s H scope (compEnvC scope cl C X.env) fp) ifs tt)
    (he : ∀ (s : Shared) (H : Hp) (C : Addr) (cl : List (Str × Addr)) (fp : List Addr), PE (X.blk s H scope (compEnvC scope cl C X.env) fp) elt te) (hs : ∀ x, foldedSetIterable iter X.env x = pure x := by intro _; rfl) :
    PS X (.Assign [.Name y py] (.ListComp elt [⟨tg, iter, ifs, 0⟩] scope pos) spos) (tAsg (tLc wi g tt te (own.map (·.2))) (gName i)) := by
  intro pins s σ H D I h
  rw [exec_Assign_Name_used _ _ _ _ hsw]
  refine wpAny_bind (wpAny_standAt (wpAny_bind ?_))
  show wpAny _ X.A (do let _ ← comprehension (.ListComp elt [⟨tg, iter, ifs, 0⟩] scope pos) scope X.env (firstIterPos [⟨tg, iter, ifs, 0⟩] pos) (newList []) false (eval iter X.env) (some (assign (.Name y py) X.env))) _ _ s
  have h : tLc wi g tt te (own.map (·.2)) σ H (fun x H1 => gName i x σ H1 D.nx) := h
  refine wpAny_bind (thn (lc_core (Qf := fun _ s' => SP X pins D .next s') hc hN I hi ok hg ht he hs h fun L C s' m H' I' q hn f => ?_) fun _ s' hq => wpAny_pure (wpAny_pure hq))
  show wpAny _ _ (assign (.Name y py) X.env (.ref L)) _ _ _
  refine wpAny_assign_Name (store_ok2 (v := V.ref L) I' hN hy (.inl hyl) rfl (fun s2 I2 ⟨a, sb, ha⟩ => ?_) (.inr hyl))
  obtain ⟨f0, f1, f2, f3, f4, f5⟩ := f
  have haC : C ≠ a := by
    rcases ha with z | z
    · rw [z]; exact f1
    · exact fun e => f4 y a z e.symm
  refine ⟨m, hn.sameBut sb haC, fun h3 sb3 => ?_⟩
  exact ⟨_, H', I2.turned (t' := s2.toks) (fun b o hb e => (sb3.2 b hb).trans e) f0 f1 f3 f4 f5, q⟩
theorem sw_true {elt : Expr} {gs : List Comprehension} {scope : Scope} {pos py : Pos} {y : Str} {l : Nat} {env : Env} (hk : env.scope.kind = .function) (hy : env.scope.names.lookup y = some .local) (hl : (py.line == pos.line) = true)
    (ha : (scope.names.any fun (n, k) => n == y && (k == .local || k == .cell)) = false) : swapsWith (.ListComp elt gs scope pos) (some (.Name y py)) l env = pure true := by
  have ky : env.kindOf y = some .local := hy
  have hb : env.blockKind = .function := by unfold Env.blockKind; rw [hk]; rfl
  unfold swapsWith
  simp only [hb, ky, ha, Expr.pos, hl]
  rfl
end

/-! ### the forms one uses -/
/-- over a list that the block leaves as it is -/
theorem lc_list {K : PySem.W.Frag} {a : Addr} {xs : List V} {g : TG} {tt : TT} {te : TE} {vs : List Nat} {σ : St} {H1 : Hp} {D : Addr} {Qd : Hp → Prop} (Pv : Nat → Hp → Prop) (h0 : Pv 0 (upd H1 D (.lst []))) (hl : ∀ i H, i ≤ xs.length → Pv i H → SqL K H a xs)
    (hs : ∀ i x H, xs[i]? = some x → Pv i H → g x (wipe σ vs) H fun σ2 H2 => wipe σ2 vs = wipe σ vs ∧ tt σ2 H2 fun b H3 =>
      if b = true then te σ2 H3 fun y H4 => ∃ acc, H4 D = some (.lst acc) ∧ acc.length < sizeLine ∧ Pv (i + 1) (upd H4 D (.lst (acc ++ [y]))) else Pv (i + 1) H3) (hd : ∀ H, Pv xs.length H → Qd H) :
    ∃ W : Nat → Nat → Hp → Prop, (∃ m, W 0 m (upd H1 D (.lst []))) ∧ ∀ i m H, W i m H →
      ((Itl K a).stop i H ∧ Qd H) ∨ ((Itl K a).go i H ∧ ∃ Nx : Hp → Prop, (∀ H', Nx H' → ∃ m', m' < m ∧ W (i + 1) m' H') ∧ ∀ x H', (Itl K a).yld i H x H' → g x (wipe σ vs) H' fun σ2 H2 => wipe σ2 vs = wipe σ vs ∧ tt σ2 H2 fun b H3 =>
        if b = true then te σ2 H3 fun y H4 => ∃ acc, H4 D = some (.lst acc) ∧ acc.length < sizeLine ∧ Nx (upd H4 D (.lst (acc ++ [y]))) else Nx H3) := by
  refine ⟨fun i m H => m = xs.length - i ∧ i ≤ xs.length ∧ Pv i H, ⟨xs.length, by simp, Nat.zero_le _, h0⟩, ?_⟩
  rintro i m H ⟨rfl, hi, p⟩
  have q := hl i H hi p
  by_cases hlt : i < xs.length
  · refine .inr ⟨⟨xs, xs[i], q, by simp [hlt]⟩, Pv (i + 1), fun H' p' => ⟨xs.length - (i + 1), by omega, rfl, hlt, p'⟩, fun x H' y => ?_⟩
    obtain ⟨e, y⟩ := y
    subst e
    exact hs i x _ (y xs q) p
  · have e : i = xs.length := by omega
    subst e
    exact .inl ⟨⟨xs, q, Nat.le_refl _⟩, hd H p⟩
def blkC (N : List Str) (sc scope : Scope) (own : List (Str × Nat)) : Bool :=
  (match scope.kind with | .function => true | _ => false) && (scope.names.all fun y => decide (scope.names.lookup y.1 = some y.2)) && (own.all fun p => decide (N[p.2]? = some p.1)) &&
    (scope.names.all fun y => match y.2 with
      | .free => (match sc.names.lookup y.1 with | some .cell => true | some .free => true | _ => false)
      | .local => decide (y.1 ∈ own.map (·.1)) || decide (y.1 ∉ N)
      | .cell => decide (y.1 ∈ own.map (·.1)) || decide (y.1 ∉ N)
      | _ => true)
theorem blkOk_by {N : List Str} {sc scope : Scope} {own : List (Str × Nat)} (h : blkC N sc scope own = true) : BlkOk N sc scope own := by
  unfold blkC at h
  simp only [Bool.and_eq_true, List.all_eq_true, decide_eq_true_eq] at h
  obtain ⟨⟨⟨h1, h2⟩, h3⟩, h4⟩ := h
  refine ⟨?_, h2, h3, fun y hy e => ?_, fun y hy e => ?_⟩
  · split at h1
    · assumption
    · cases h1
  · have q := h4 y hy
    simp only [e] at q
    split at q <;> first | exact .inl (by assumption) | exact .inr (by assumption) | cases q
  · have q := h4 y hy
    rcases e with e | e <;> (simp only [e, Bool.or_eq_true, decide_eq_true_eq] at q; exact q)
end L2

namespace L2
open PySem PySem.Spec PyProof.Rows

section
variable {prog : Program} {w : World} {A : Around} {R : Result → Shared → Prop} {s : Shared} {elt t0 i0 t1 i1 : Expr} {ifs0 ifs1 : List Expr} {scope : Scope} {pos : Pos} {it acc : Value} {env : Env}
end

section
variable {X : Cx}
/-- [elt for tg in iter if .. for tg1 in iter1 if ..]: behind the first clause's store and tests the second source's own loop, from which Nx is reached. vs: the block's names; vs1: those of the second target -/
def tLc2 (wi : TI) (g : TG) (tt : TT) (wi1 : TI) (g1 : TG) (tt1 : TT) (te : TE) (vs vs1 : List Nat) : TE := fun σ H Q => wi σ H fun J H1 => ∀ D, H1 D = none → ∃ W : Nat → Nat → Hp → Prop, (∃ m, W 0 m (upd H1 D (.lst []))) ∧ ∀ i m H, W i m H →
  (J.stop i H ∧ Q (.ref D) H) ∨ (J.go i H ∧ ∃ Nx : Hp → Prop, (∀ H', Nx H' → ∃ m', m' < m ∧ W (i + 1) m' H') ∧ ∀ x H', J.yld i H x H' → g x (wipe σ vs) H' fun σ2 H2 => wipe σ2 vs = wipe σ vs ∧ tt σ2 H2 fun b H3 =>
    if b = true then wi1 σ2 H3 fun J1 H4 => ∃ W1 : Nat → Nat → Hp → Prop, (∃ m, W1 0 m H4) ∧ ∀ j k H, W1 j k H →
      (J1.stop j H ∧ Nx H) ∨ (J1.go j H ∧ ∃ Nx1 : Hp → Prop, (∀ H', Nx1 H' → ∃ k', k' < k ∧ W1 (j + 1) k' H') ∧ ∀ x H', J1.yld j H x H' → g1 x (wipe σ2 vs1) H' fun σ3 H5 => wipe σ3 vs1 = wipe σ2 vs1 ∧ tt1 σ3 H5 fun b H6 =>
        if b = true then te σ3 H6 fun y H7 => ∃ acc, H7 D = some (.lst acc) ∧ acc.length < sizeLine ∧ Nx1 (upd H7 D (.lst (acc ++ [y]))) else Nx1 H6)
    else Nx H3)
end
end L2

namespace L2
open PySem PySem.Spec PyProof.Rows

/-! ### lists of pairs as tables -/
section
variable {κ : Type} [DecidableEq κ]
def valV (kvs : List (κ × V)) (k : κ) : Option V := (kvs.find? fun kv => decide (kv.1 = k)).map (·.2)
/-- in its place, or at the end -/
def putK (kvs : List (κ × V)) (k : κ) (v : V) : List (κ × V) :=
  if (kvs.any fun kv => decide (kv.1 = k)) = true then kvs.map (fun kv => if kv.1 = k then (kv.1, v) else kv) else kvs ++ [(k, v)]
def dropK (kvs : List (κ × V)) (k : κ) : List (κ × V) := kvs.filter fun kv => decide (kv.1 ≠ k)

theorem valV_pos {p : κ × V} {r : List (κ × V)} {k : κ} (e : p.1 = k) : valV (p :: r) k = some p.2 := by simp [valV, List.find?_cons, e]
theorem valV_neg {p : κ × V} {r : List (κ × V)} {k : κ} (e : ¬ p.1 = k) : valV (p :: r) k = valV r k := by simp [valV, List.find?_cons, e]
theorem valV_any (k : κ) : ∀ kvs : List (κ × V), (kvs.any fun kv => decide (kv.1 = k)) = (valV kvs k).isSome
  | [] => rfl
  | p :: r => by
    rw [List.any_cons]
    by_cases e : p.1 = k
    · simp only [valV_pos e, decide_eq_true e, Bool.true_or, Option.isSome_some]
    · rw [valV_neg e, decide_eq_false e, Bool.false_or]; exact valV_any k r
theorem RelO.isSome_eq {o : Option V} {u : Option Value} (r : RelO o u) : o.isSome = u.isSome := by
  cases o with
  | none => cases u with
    | none => rfl
    | some _ => exact (show False from r).elim
  | some _ => cases u with
    | none => exact (show False from r).elim
    | some _ => rfl
theorem RelO.getD {o : Option V} {u : Option Value} {d : V} {d' : Value} (r : RelO o u) (rd : RelV d d') : RelV (o.getD d) (u.getD d') := by
  cases o with
  | none => cases u with
    | none => exact rd
    | some _ => exact (show False from r).elim
  | some _ => cases u with
    | none => exact (show False from r).elim
    | some _ => exact r

/-- raw tables of the same keys -/
theorem KV.val {kvs : List (κ × V)} {vs : List (κ × Value)} (r : KV kvs vs) (k : κ) : RelO (valV kvs k) (valueAt vs k) := by
  unfold KV at r
  induction r with
  | nil => exact True.intro
  | @cons p q ps qs h t ih =>
    obtain ⟨h1, h2⟩ := h
    by_cases e : p.1 = k
    · have e' : q.1 = k := h1.symm.trans e
      have b : valueAt (q :: qs) k = some q.2 := by simp [valueAt, List.find?_cons, e']
      rw [valV_pos e, b]; exact h2
    · have e' : ¬ q.1 = k := fun z => e (h1.trans z)
      have b : valueAt (q :: qs) k = valueAt qs k := by simp [valueAt, List.find?_cons, e']
      rw [valV_neg e, b]; exact ih
theorem KV.any {kvs : List (κ × V)} {vs : List (κ × Value)} (r : KV kvs vs) (k : κ) : (kvs.any fun kv => decide (kv.1 = k)) = vs.any fun kv => decide (kv.1 = k) := by
  unfold KV at r
  induction r with
  | nil => rfl
  | cons h t ih => rw [List.any_cons, List.any_cons, ih, h.1]
theorem KV.repl {kvs : List (κ × V)} {vs : List (κ × Value)} (r : KV kvs vs) (k : κ) {y : V} {u : Value} (ry : RelV y u) :
    KV (kvs.map fun kv => if kv.1 = k then (kv.1, y) else kv) (vs.map fun kv => if kv.1 = k then (kv.1, u) else kv) := by
  unfold KV at r ⊢
  induction r with
  | nil => exact .nil
  | @cons p q ps qs h t ih =>
    rw [List.map_cons, List.map_cons]
    refine .cons ?_ ih
    obtain ⟨h1, h2⟩ := h
    by_cases e : p.1 = k
    · rw [if_pos e, if_pos (h1.symm.trans e)]; exact ⟨h1, ry⟩
    · rw [if_neg e, if_neg (fun z => e (h1.trans z))]; exact ⟨h1, h2⟩
theorem KV.put {kvs : List (κ × V)} {vs : List (κ × Value)} (r : KV kvs vs) (k : κ) {y : V} {u : Value} (ry : RelV y u) : KV (putK kvs k y) (stored vs k u) := by
  unfold putK stored
  rw [r.any k]
  by_cases e : (vs.any fun kv => decide (kv.1 = k)) = true
  · rw [if_pos e, if_pos e]; exact r.repl k ry
  · rw [if_neg e, if_neg e]; exact Paired.snoc r ⟨rfl, ry⟩
theorem KV.drop {kvs : List (κ × V)} {vs : List (κ × Value)} (r : KV kvs vs) (k : κ) : KV (dropK kvs k) (without vs k) := by
  unfold KV at r ⊢
  unfold dropK without
  induction r with
  | nil => exact .nil
  | @cons p q ps qs h t ih =>
    obtain ⟨h1, h2⟩ := h
    rw [List.filter_cons, List.filter_cons]
    by_cases e : p.1 = k
    · have a : ¬ decide (p.1 ≠ k) = true := by simp [e]
      have b : ¬ decide (q.1 ≠ k) = true := by simp [h1.symm.trans e]
      rw [if_neg a, if_neg b]; exact ih
    · have e' : ¬ q.1 = k := fun z => e (h1.trans z)
      have a : decide (p.1 ≠ k) = true := by simp [e]
      have b : decide (q.1 ≠ k) = true := by simp [e']
      rw [if_pos a, if_pos b]; exact .cons ⟨h1, h2⟩ ih
theorem KV.keys {kvs : List (κ × V)} {vs : List (κ × Value)} (r : KV kvs vs) : kvs.map (·.1) = vs.map (·.1) := by
  unfold KV at r
  induction r with
  | nil => rfl
  | cons h t ih => rw [List.map_cons, List.map_cons, ih, h.1]
theorem KV.length {kvs : List (κ × V)} {vs : List (κ × Value)} (r : KV kvs vs) : kvs.length = vs.length := Paired.length r
end

/-! ### a tracked dict, its keys ints and texts or tuples of these -/
/-- raw entries of a dict with tuple keys -/
abbrev KT (H : Hp) : List (List Key × V) → List (List Key × Addr × Value) → Prop := Paired fun p q => p.1 = q.1 ∧ H q.2.1 = some (.tup (p.1.map kV)) ∧ RelV p.2 q.2.2
theorem KT.val {H : Hp} {kvs : List (List Key × V)} {xs : List (List Key × Addr × Value)} (r : KT H kvs xs) (k : List Key) : RelO (valV kvs k) ((atKey xs k).map (·.2)) := by
  induction r with
  | nil => exact True.intro
  | @cons p q ps qs h t ih =>
    obtain ⟨h1, _, h2⟩ := h
    by_cases e : p.1 = k
    · have e' : q.1 = k := h1.symm.trans e
      have b : atKey (q :: qs) k = some q.2 := by simp [atKey, List.find?_cons, e']
      rw [valV_pos e, b]; exact h2
    · have e' : ¬ q.1 = k := fun z => e (h1.trans z)
      have b : atKey (q :: qs) k = atKey qs k := by simp [atKey, List.find?_cons, e']
      rw [valV_neg e, b]; exact ih
theorem KT.repl {H : Hp} {kvs : List (List Key × V)} {xs : List (List Key × Addr × Value)} (r : KT H kvs xs) (k : List Key) {y : V} {u : Value} (ry : RelV y u) :
    KT H (kvs.map fun kv => if kv.1 = k then (kv.1, y) else kv) (xs.map (putAt k u)) := by
  induction r with
  | nil => exact .nil
  | @cons p q ps qs h t ih =>
    rw [List.map_cons, List.map_cons]
    refine .cons ?_ ih
    obtain ⟨h1, h2, h3⟩ := h
    unfold putAt
    by_cases e : p.1 = k
    · rw [if_pos e, if_pos (h1.symm.trans e)]; exact ⟨h1, h2, ry⟩
    · rw [if_neg e, if_neg (fun z => e (h1.trans z))]; exact ⟨h1, h2, h3⟩
theorem KT.put {H : Hp} {kvs : List (List Key × V)} {xs : List (List Key × Addr × Value)} (r : KT H kvs xs) (k : List Key) {b : Addr} {y : V} {u : Value} (hb : H b = some (.tup (k.map kV))) (ry : RelV y u) :
    KT H (putK kvs k y) (storedH xs k b u) := by
  have e : (kvs.any fun kv => decide (kv.1 = k)) = (atKey xs k).isSome := by
    rw [valV_any, (r.val k).isSome_eq, Option.isSome_map]
  unfold putK storedH
  rw [e]
  by_cases q : (atKey xs k).isSome = true
  · rw [if_pos q, if_pos q]; exact r.repl k ry
  · rw [if_neg q, if_neg q]; exact Paired.snoc r ⟨rfl, hb, ry⟩
theorem KT.keeps {H H' : Hp} {kvs : List (List Key × V)} {xs : List (List Key × Addr × Value)} (r : KT H kvs xs) (ht : ∀ b ys, H b = some (.tup ys) → H' b = some (.tup ys)) : KT H' kvs xs :=
  Paired.mapP r fun _ _ z => ⟨z.1, ht _ _ z.2.1, z.2.2⟩

section
variable {P : Program} {w : World} {H : Hp} {h : Heap} {a : Addr}
end

/-- what the dict at a holds at the key y -/
def DGet (H : Hp) (a : Addr) (y : V) (r : Option V) : Prop :=
  (∃ kvs k, Rd H a (.dK kvs) ∧ y = kV k ∧ r = valV kvs k) ∨ ∃ kvs k b, Rd H a (.dT kvs) ∧ y = .ref b ∧ H b = some (.tup (k.map kV)) ∧ r = valV kvs k
/-- the heap behind a[y] = v -/
def DPut (H : Hp) (a : Addr) (y v : V) (H' : Hp) : Prop :=
  (∃ kvs k, H a = some (.dK kvs) ∧ y = kV k ∧ kvs.length < sizeLine ∧ H' = upd H a (.dK (putK kvs k v))) ∨
  ∃ kvs k b, H a = some (.dT kvs) ∧ y = .ref b ∧ H b = some (.tup (k.map kV)) ∧ kvs.length < sizeLine ∧ H' = upd H a (.dT (putK kvs k v))
theorem DGet.k {H : Hp} {a : Addr} {kvs : List (Key × V)} {k : Key} (e : H a = some (.dK kvs)) : DGet H a (kV k) (valV kvs k) := .inl ⟨kvs, k, .inl e, rfl, rfl⟩
theorem DGet.t {H : Hp} {a b : Addr} {kvs : List (List Key × V)} {k : List Key} (e : H a = some (.dT kvs)) (eb : H b = some (.tup (k.map kV))) : DGet H a (.ref b) (valV kvs k) := .inr ⟨kvs, k, b, .inl e, rfl, eb, rfl⟩
theorem DPut.k {H : Hp} {a : Addr} {kvs : List (Key × V)} {k : Key} {v : V} (e : H a = some (.dK kvs)) (hl : kvs.length < sizeLine) : DPut H a (kV k) v (upd H a (.dK (putK kvs k v))) := .inl ⟨kvs, k, e, rfl, hl, rfl⟩
theorem DPut.t {H : Hp} {a b : Addr} {kvs : List (List Key × V)} {k : List Key} {v : V} (e : H a = some (.dT kvs)) (eb : H b = some (.tup (k.map kV))) (hl : kvs.length < sizeLine) :
    DPut H a (.ref b) v (upd H a (.dT (putK kvs k v))) := .inr ⟨kvs, k, b, e, rfl, eb, hl, rfl⟩

section
variable {X : Cx} {pins : List (Addr × Obj)} {σ : St} {H : Hp} {s : Shared} {a : Addr} {y v : V} {u r : Value} {o : Option V} {A : Around} {E : Value → Shared → Prop}

end

section
variable {X : Cx} {pins : List (Addr × Obj)} {σ : St} {H : Hp} {s : Shared} {a : Addr} {kvs : List (Key × V)} {k : Key} {u : Value} {A : Around} {E : Value → Shared → Prop}
end

/-! ### readings and rules -/
/-- the element of a subscription, not a slice -/
def NoSl (i : Expr) : Prop := ∀ ov iv, subscripted i false ov iv = operate [ov, iv] (getItem ov iv)
/-- d[y] -/
def tDGet (td ty : TE) : TE := fun σ H Q => td σ H fun x H1 => ty σ H1 fun y H2 => ∃ a v, x = .ref a ∧ DGet H2 a y (some v) ∧ Q v H2
/-- y in d, y not in d -/
def tDIn (ty td : TE) : TE := fun σ H Q => ty σ H fun y H1 => td σ H1 fun x H2 => ∃ a o, x = .ref a ∧ DGet H2 a y o ∧ Q (.bl o.isSome) H2
def tDNotIn (ty td : TE) : TE := fun σ H Q => ty σ H fun y H1 => td σ H1 fun x H2 => ∃ a o, x = .ref a ∧ DGet H2 a y o ∧ Q (.bl (!o.isSome)) H2
/-- d[y] = v -/
def sDPut (td ty tv : TE) : TS := fun D σ H => tv σ H fun v H1 => td σ H1 fun x H2 => ty σ H2 fun y H3 => ∃ a H4, x = .ref a ∧ DPut H3 a y v H4 ∧ D.nx σ H4
/-- d[y] op= v -/
def sDAug (td ty tv : TE) (rd : V → V → Hp → VK → Prop) : TS := fun D σ H => td σ H fun x H1 => ty σ H1 fun y H2 => ∃ a v, x = .ref a ∧ DGet H2 a y (some v) ∧
  tv σ H2 fun y2 H3 => rd v y2 H3 fun z H4 => ∃ H5, DPut H4 a y z H5 ∧ D.nx σ H5
/-- del d[y] -/
def sDDel (td ty : TE) : TS := fun D σ H => td σ H fun x H1 => ty σ H1 fun y H2 => ∃ a kvs k, x = .ref a ∧ H2 a = some (.dK kvs) ∧ y = kV k ∧ (valV kvs k).isSome = true ∧ D.nx σ (upd H2 a (.dK (dropK kvs k)))

section
variable {X : Cx} {o i e value : Expr} {pos pos' tpos : Pos} {td ty tv : TE}
end

/-! ### displays -/
/-- {}, to be a dict of the kind that is wanted -/
def tDNewK : TE := fun _ H Q => ∀ p, H p = none → Q (.ref p) (upd H p (.dK []))
def tDNewT : TE := fun _ H Q => ∀ p, H p = none → Q (.ref p) (upd H p (.dT []))
section
variable {X : Cx} {pos : Pos}
end

/-- the pairs of a display, from the left -/
def tPairs : List (TE × TE) → St → Hp → (List (V × V) → Hp → Prop) → Prop
  | [], _, H, Q => Q [] H
  | (tk, tv) :: r, σ, H, Q => tk σ H fun x H1 => tv σ H1 fun y H2 => tPairs r σ H2 fun ps H3 => Q ((x, y) :: ps) H3
abbrev VV : List (V × V) → List (Value × Value) → Prop := Paired fun p q => RelV p.1 q.1 ∧ RelV p.2 q.2
def PPs (X : Cx) (pos : Pos) (keys : List (Option Expr)) (values : List Expr) (trs : List (TE × TE)) : Prop :=
  ∀ (pins : List (Addr × Obj)) (s : Shared) (σ : St) (H : Hp) (Q : List (V × V) → Hp → Prop), Inv X pins σ H s → tPairs trs σ H Q →
    wpAny (model X.prog X.w) X.A (evalPairs (pairTrees keys values X.env pos)) (fun vs s' => ∃ ps H', Inv X pins σ H' s' ∧ VV ps vs ∧ Q ps H') X.xe s
def mergeK (kvs more : List (Key × V)) : List (Key × V) := more.foldl (fun acc kv => putK acc kv.1 kv.2) kvs
/-- {k: v, ..} with keys ints and texts; the new dict stands empty while the pairs are made -/
def tDisp (trs : List (TE × TE)) : TE := fun σ H Q => ∀ p, H p = none → tPairs trs σ (upd H p (.dK [])) fun ps H2 => H2 p = some (.dK []) ∧ ∃ kvs : List (Key × V), ps = kvs.map (fun kv => (kV kv.1, kv.2)) ∧ kvs.length ≤ 15 ∧ Q (.ref p) (upd H2 p (.dK (mergeK [] kvs)))
/-! ### methods -/
/-- a method call o.m(e) of a built-in, with one argument: what must be seen of the text -/
structure M1 (X : Cx) (o : Expr) (m : Str) (apos : Pos) (e : Expr) (cpos : Pos) : Prop where
  base : attributeBase o m X.env (eval o X.env) = eval o X.env
  few : ((backTo cpos (starEach [e] X.env)).all (fun x => !x.1) && (backToKw cpos (keywordEach [] X.env)).all (fun x => x.1.isSome)
    && decide (([e] : List Expr).length + ([] : List Keyword).length + (if ([] : List Keyword).isEmpty then 0 else 1) < 30)) = true
  line : (apos.endLine == cpos.line) = true
  trees : backTo cpos (starEach [e] X.env) = [(false, eval e X.env)]
structure M2 (X : Cx) (o : Expr) (m : Str) (apos : Pos) (e f : Expr) (cpos : Pos) : Prop where
  base : attributeBase o m X.env (eval o X.env) = eval o X.env
  few : ((backTo cpos (starEach [e, f] X.env)).all (fun x => !x.1) && (backToKw cpos (keywordEach [] X.env)).all (fun x => x.1.isSome)
    && decide (([e, f] : List Expr).length + ([] : List Keyword).length + (if ([] : List Keyword).isEmpty then 0 else 1) < 30)) = true
  line : (apos.endLine == cpos.line) = true
  trees : backTo cpos (starEach [e, f] X.env) = [(false, eval e X.env), (false, eval f X.env)]

/-- a is a dict, whatever its keys -/
def IsD (H : Hp) (a : Addr) : Prop := (∃ kvs, Rd H a (.dK kvs)) ∨ ∃ kvs, Rd H a (.dT kvs)
section
variable {X : Cx} {pins : List (Addr × Obj)} {σ : St} {H : Hp} {s : Shared} {a : Addr} {y d : V} {u r : Value} {o : Option V} {A : Around} {E : Value → Shared → Prop}
end

def tDGet1 (td ty : TE) : TE := fun σ H Q => td σ H fun x H1 => ∃ a, x = .ref a ∧ IsD H1 a ∧ ty σ H1 fun y H2 => ∃ o, DGet H2 a y o ∧ Q (o.getD .non) H2
def tDGet2 (td ty tx : TE) : TE := fun σ H Q => td σ H fun x H1 => ∃ a, x = .ref a ∧ IsD H1 a ∧ ty σ H1 fun y H2 => tx σ H2 fun z H3 => ∃ o, DGet H3 a y o ∧ Q (o.getD z) H3
/-- d.pop(k): there; d.pop(k, x): there or not -/
def tDPop1 (td ty : TE) : TE := fun σ H Q => td σ H fun x H1 => ∃ a, x = .ref a ∧ IsD H1 a ∧ ty σ H1 fun y H2 => ∃ kvs k v, H2 a = some (.dK kvs) ∧ y = kV k ∧ valV kvs k = some v ∧ Q v (upd H2 a (.dK (dropK kvs k)))
def tDPop2 (td ty tx : TE) : TE := fun σ H Q => td σ H fun x H1 => ∃ a, x = .ref a ∧ IsD H1 a ∧ ty σ H1 fun y H2 => tx σ H2 fun z H3 => ∃ kvs k, H3 a = some (.dK kvs) ∧ y = kV k ∧
  (∀ v, valV kvs k = some v → Q v (upd H3 a (.dK (dropK kvs k)))) ∧ (valV kvs k = none → Q z H3)
section
variable {X : Cx} {o e f : Expr} {apos cpos : Pos} {td ty tx : TE}
end

/-! ### dict(d): a copy -/
section
variable {X : Cx} {pins : List (Addr × Obj)} {σ : St} {H : Hp} {s : Shared} {a : Addr} {kvs : List (Key × V)} {A : Around} {E : Value → Shared → Prop}
end

section
variable {X : Cx} {pins : List (Addr × Obj)} {σ : St} {H : Hp} {s : Shared} {a : Addr} {y : V} {u : Value} {A : Around} {E : Value → Shared → Prop}
end
end L2

namespace L2
open PySem PySem.Spec PyProof.Rows

section
variable {prog : Program} {w : World} {A : Around} {E : Value → Shared → Prop}
end

section
variable {X : Cx}
theorem refs_at : ∀ {ps : List Addr} {us : List Value}, Vals (ps.map V.ref) us → us = ps.map Value.ref
  | [], us, r => by
    rw [List.map_nil] at r
    cases r
    rfl
  | p :: ps, us, r => by
    rw [List.map_cons] at r
    cases r with
    | cons h t =>
      cases h
      rw [List.map_cons, ← refs_at t]
end
end L2

namespace L2
open PySem PySem.Spec PyProof.Rows

section
variable {X : Cx} {pins : List (Addr × Obj)} {σ : St} {H : Hp} {s : Shared} {h' : Heap}
/-- .. and one new object is laid -/
theorem Inv.turnedNew {t' : Nat} {ch : List Addr} {T : Addr} {ob : HO} (I : Inv X pins σ H s) (k : ∀ b o, b ∉ ch → s.heap.get? b = some o → h'.get? b = some o) (hf : ∀ b ∈ ch, FpOk X pins H b) (hT : s.heap.objs.size ≤ T)
    (new : ObjOk X.prog X.w (upd H T ob) h' T ob) : Inv X pins σ (upd H T ob) { s with heap := h', toks := t' } := by
  have hn : H T = none := I.hok.fresh hT
  have nit : ∀ b u, H b = some u → b ∉ ch := fun b u e z => by
    have q := (hf b z).1
    rw [q] at e; cases e
  refine I.step (g' := s.gens) (d' := s.drawn) (ch := ch) (fun b hb => ⟨(hf b hb).2.2.2.1, (hf b hb).2.1, (hf b hb).2.2.2.2.1, (hf b hb).2.2.2.2.2⟩) (fun b o _ _ hc e _ => k b o hc e) (fun b o _ _ hc e _ => ⟨o.slots, k b o hc e⟩)
    (fun b o _ e n => ?_) (fun b o hc e => ⟨o, k b o hc e⟩) (fun b xs e => ?_) (fun b o u e => ?_) (fun b ps e => ⟨#[], ?_⟩) (fun m hm => ?_) (fun b u e => ?_) I.bare
  · rw [upd_ne (Nat.ne_of_lt (Nat.lt_of_lt_of_le (Heap.lt_size e) hT))]; exact n
  · rw [upd_ne (ne_of_none e hn)]; exact e
  · rw [upd_ne (ne_of_none e hn)]; exact e
  · rw [upd_ne (ne_of_none e hn), e]; simp
  · obtain ⟨o, es, ep, ho, r⟩ := hm
    exact ⟨o, es, ep, k _ o (fun z => (hf _ z).2.1 rfl) ho, r⟩
  · by_cases hb : b = T
    · subst hb
      rw [upd_same] at e
      cases e
      exact new
    · rw [upd_ne hb] at e
      refine (I.hok b u e).stay (fun c v hc q => k c v ?_ q) (fun c q => by rw [upd_ne (ne_of_none q hn)]; exact q) fun c xs q => by rw [upd_ne (ne_of_none q hn)]; exact q
      rcases hc with z | z
      · rw [z]; exact nit b u e
      · exact nit c _ z

/-! ### locking a thing while a statement runs -/
end
/-- the statement runs while the thing at d is locked (read, not written); d and what stands there are the reading's choice -/
def tLock (t : TS) : TS := fun D σ H => ∃ d u, H d = some u ∧ Mut (some u) ∧ ∀ od, t ⟨fun σ' H' => H' d = some (.frz od u) ∧ D.nx σ' (upd H' d u), fun v H' => H' d = some (.frz od u) ∧ D.rt v (upd H' d u), fun σ' H' => H' d = some (.frz od u) ∧ D.bk σ' (upd H' d u), fun σ' H' => H' d = some (.frz od u) ∧ D.ct σ' (upd H' d u)⟩ σ (upd H d (.frz od u))
def tLockE (t : TE) : TE := fun σ H Q => ∃ d u, H d = some u ∧ Mut (some u) ∧ ∀ od, t σ (upd H d (.frz od u)) fun v H' => H' d = some (.frz od u) ∧ Q v (upd H' d u)
section
variable {X : Cx}
/-! ### one iterator just laid -/
theorem pi_one {tg : Expr} {pins : List (Addr × Obj)} {σ : St} {H : Hp} {s : Shared} {R : It → Hp → Prop} {J : It} {tn : Nat → Heap → Prop} {tk : Nat} (I : Inv X pins σ H s) (o : Obj)
    (T : Turn X.prog X.w X.K tg J [s.heap.objs.size] s.heap.objs.size tn) (st : tn 0 (s.heap.push o)) (q : R J H) : PIE X pins σ tg R (.ref s.heap.objs.size) { s with heap := s.heap.push o, toks := tk } := by
  refine ⟨s.heap.objs.size, [s.heap.objs.size], tn, J, H, rfl, I.kept fun b ob e => Heap.get?_push_of_some _ e, T, st, fun b hb => ?_, q⟩
  have e : b = s.heap.objs.size := by simpa using hb
  subst e
  exact I.fpOk (Nat.le_refl _) (I.hok.fresh (Nat.le_refl _))
end

/-! ### range with a step -/
/-- lo, lo + c, .. (n of them) -/
def Itc (lo c : Int) (n : Nat) : It := ⟨fun i _ => i < n, fun i H x H' => H' = H ∧ x = .int (lo + (i : Nat) * c), fun i _ => n ≤ i⟩
/-- range(i, j, c): small bounds, n items -/
def RgC (i j c : Int) (n : Nat) : Prop := c ≠ 0 ∧ c.natAbs < 1073741824 ∧ Builtin.Range.small i j c = true ∧ Builtin.Range.rangeSize i j c = n
theorem RgC.neg {i j : Int} (ha : -(2 ^ 62) ≤ i) (ha' : i < 2 ^ 62) (hb : -(2 ^ 62) ≤ j) (hb' : j < 2 ^ 62) : RgC i j (-1) (i - j).toNat :=
  ⟨by decide, by decide, PySem.W.small_down ha ha' hb hb', PySem.W.rangeSize_downNat i j⟩
def iRng3 (ta : TA) : TI := fun σ H R => ta σ H fun vs H1 => ∃ (i j c : Int) (n : Nat), vs = [.int i, .int j, .int c] ∧ RgC i j c n ∧ R (Itc i c n) H1
section
variable {X : Cx} {tg : Expr}
end
/-! ### reversed(list) -/
/-- the list at a (n items at the start, which the loop leaves there), from its end -/
def Itv (K : PySem.W.Frag) (a : Addr) (n : Nat) : It :=
  ⟨fun i H => i < n ∧ ∃ (xs : List V) (x : V), SqL K H a xs ∧ xs[n - 1 - i]? = some x, fun i H x H' => H' = H ∧ ∀ xs, SqL K H a xs → xs[n - 1 - i]? = some x, fun i _ => n ≤ i⟩
def iRev (K : PySem.W.Frag) (ta : TA) : TI := fun σ H R => ta σ H fun vs H1 => ∃ (a : Addr) (xs : List V), vs = [.ref a] ∧ SqL K H1 a xs ∧ R (Itv K a xs.length) H1
section
variable {X : Cx} {tg : Expr}
end

/-! ### a str -/
def Its (x : Str) : It := ⟨fun i _ => i < x.cps.size, fun i H v H' => H' = H ∧ ∃ c, x.cps[i]? = some c ∧ v = .str ⟨#[c]⟩, fun i _ => x.cps.size ≤ i⟩
theorem turn_str {P : Program} {w : World} {K : PySem.W.Frag} {tg : Expr} (it : Addr) (x : Str) (t : Tok) (ty : String) (hty : ty = "str_ascii_iterator" ∨ ty = "str_iterator") :
    Turn P w K tg (Its x) [it] it (fun i h => h.IsStrIter it ty x t i) where
  mem := by simp
  obj := fun i h st b hb => by
    have e : b = it := by simpa using hb
    subst e
    obtain ⟨o, e, c, d⟩ := st
    exact ⟨o, e, fun v z => by rw [d] at z; cases z⟩
  keep := fun i h h' st k => let ⟨o, ho, r⟩ := st; ⟨o, k it (by simp) o ho, r⟩
  item := by
    intro X hP hw hK hc i pins s σ H E I hf st hg
    subst hP hw hK
    obtain ⟨f0, f1, f2, f3, f4, f5⟩ := hf it (by simp)
    have W : Walks X.prog X.w X.A it [it] [it] x.cps.size (SignAt x) (fun i h => h.IsStrIter it ty x t i) := by
      rcases hty with e | e
      · rw [e]; exact Walks.strAscii (I.ok.hd hc) it x t
      · rw [e]; exact Walks.strWide (I.ok.hd hc) it x t
    have hno : ["enumerate", "zip", "dict_itemiterator", "dict_reverseitemiterator", "odict_iterator", "itertools.zip_longest", "itertools.pairwise"].contains ty = false := by
      rcases hty with e | e
      · rw [e]; decide
      · rw [e]; decide
    refine W.item i s _ _ hg st fun v h' tk hv st' kk => ?_
    obtain ⟨c, u, hcx, rfl⟩ := hv
    have I1 : Inv X pins σ H { s with heap := h', toks := tk } := I.turned (fun b o hb e => kk b o (by simpa using hb) e) f0 f1 f3 f4 f5
    obtain ⟨oi, e, cc, dd⟩ := id st'
    exact ⟨_, rfl, go_of (s := { s with heap := h', toks := tk }) e cc dd hno ⟨.str ⟨#[c]⟩, H, I1, ⟨u, rfl⟩, ⟨rfl, c, hcx, rfl⟩, st', fun b hb => (hf b hb).1⟩⟩
  done := by
    intro X hP hw hK hc i pins s σ H E I hf st hg
    subst hP hw hK
    obtain ⟨f0, f1, f2, f3, f4, f5⟩ := hf it (by simp)
    have hx : x.cps[i]? = none := Array.getElem?_eq_none hg
    rcases hty with e | e
    · rw [e] at st
      exact wpAny_pyNext_ascii_end (I.ok.hd hc) st hx fun h' eb => ⟨rfl, I.turned (t' := s.toks) (fun b o hb e => eb b o hb e) f0 f1 f3 f4 f5⟩
    · rw [e] at st
      exact wpAny_pyNext_wide_end (I.ok.hd hc) st hx fun h' eb => ⟨rfl, I.turned (t' := s.toks) (fun b o hb e => eb b o hb e) f0 f1 f3 f4 f5⟩
  self := fun A i s Q E st h => by
    rcases hty with e | e
    · rw [e] at st; exact wpAny_pyIter_striter_ascii st h
    · rw [e] at st; exact wpAny_pyIter_striter_wide st h
def iStr (te : TE) : TI := fun σ H R => te σ H fun v H1 => ∃ x, v = .str x ∧ R (Its x) H1
theorem pi_str {X : Cx} {tg e : Expr} {te : TE} (he : PE X e te) : PI X tg e (iStr te) := by
  intro pins s σ H R I h
  refine thn (he pins s σ H _ I h) fun v s1 ⟨y, H1, I1, r1, x, ex, q⟩ => ?_
  subst ex
  obtain ⟨t, rfl⟩ := r1
  cases ha : x.cps.all (· < 128)
  · exact wpAny_pyIter_wide ha (pi_one (tk := s1.toks) I1 _ (turn_str _ x t "str_iterator" (.inr rfl)) ⟨_, Heap.get?_push_size _ rfl, rfl, rfl⟩ q)
  · exact wpAny_pyIter_ascii ha (pi_one (tk := s1.toks) I1 _ (turn_str _ x t "str_ascii_iterator" (.inl rfl)) ⟨_, Heap.get?_push_size _ rfl, rfl, rfl⟩ q)

/-! ### a dict's keys: any dict's entries -/
section
variable {prog : Program} {w : World} {A : Around} {E : Value → Shared → Prop} {s : Shared}
end

/-! ### a locked dict -/
theorem paired_get {α β : Type} {G : α → β → Prop} {l₁ : List α} {l₂ : List β} (h : Paired G l₁ l₂) : ∀ {i : Nat} {a : α}, l₁[i]? = some a → ∃ b, l₂[i]? = some b ∧ G a b := by
  induction h with
  | nil => intro i a e; simp at e
  | @cons a b l₁ l₂ r t ih =>
    intro i a' e
    cases i with
    | zero =>
      simp only [List.getElem?_cons_zero, Option.some.injEq] at e
      subst e
      exact ⟨b, rfl, r⟩
    | succ j =>
      simp only [List.getElem?_cons_succ] at e ⊢
      exact ih e
section
variable {X : Cx} {pins : List (Addr × Obj)} {σ : St} {H : Hp} {s : Shared} {d : Addr} {o : Obj}
end

/-- the keys of the locked dict at d, in their order -/
def Itk (d : Addr) (o : Obj) (kvs : List (Key × V)) : It :=
  ⟨fun i H => H d = some (.frz o (.dK kvs)) ∧ i < kvs.length, fun i H x H' => H' = H ∧ ∃ k v, kvs[i]? = some (k, v) ∧ x = kV k, fun i H => H d = some (.frz o (.dK kvs)) ∧ kvs.length ≤ i⟩
/-- .. of tuple keys: the key's own tuple -/
def Itkt (d : Addr) (o : Obj) (kvs : List (List Key × V)) : It :=
  ⟨fun i H => H d = some (.frz o (.dT kvs)) ∧ i < kvs.length, fun i H x H' => H' = H ∧ ∃ (k : List Key) (v : V) (q : Addr), kvs[i]? = some (k, v) ∧ x = .ref q ∧ H q = some (.tup (k.map kV)), fun i H => H d = some (.frz o (.dT kvs)) ∧ kvs.length ≤ i⟩
/-- the values -/
def Itd (d : Addr) (o : Obj) (kvs : List (Key × V)) : It :=
  ⟨fun i H => H d = some (.frz o (.dK kvs)) ∧ i < kvs.length, fun i H x H' => H' = H ∧ ∃ k, kvs[i]? = some (k, x), fun i H => H d = some (.frz o (.dK kvs)) ∧ kvs.length ≤ i⟩
/-- the pairs, each a new tuple -/
def Iti (d : Addr) (o : Obj) (kvs : List (Key × V)) : It :=
  ⟨fun i H => H d = some (.frz o (.dK kvs)) ∧ i < kvs.length, fun i H x H' => ∃ T k v, kvs[i]? = some (k, v) ∧ x = .ref T ∧ H T = none ∧ H' = upd H T (.tup [kV k, v]), fun i H => H d = some (.frz o (.dK kvs)) ∧ kvs.length ≤ i⟩
section
variable {P : Program} {w : World} {K : PySem.W.Frag} {tg : Expr} {d : Addr} {o : Obj} {es : Array DictEntry} {ep : Nat}
end

/-! ### for k in d, d.keys(), d.values(), d.items() -/
/-- the dict is locked (tLock, or by the caller) -/
def iKeys (td : TE) : TI := fun σ H R => td σ H fun x H1 => ∃ d o, x = .ref d ∧ ((∃ kvs, H1 d = some (.frz o (.dK kvs)) ∧ R (Itk d o kvs) H1) ∨ ∃ kvs, H1 d = some (.frz o (.dT kvs)) ∧ R (Itkt d o kvs) H1)
def iVals (td : TE) : TI := fun σ H R => td σ H fun x H1 => ∃ d o kvs, x = .ref d ∧ H1 d = some (.frz o (.dK kvs)) ∧ R (Itd d o kvs) H1
def iItems (td : TE) : TI := fun σ H R => td σ H fun x H1 => ∃ d o kvs, x = .ref d ∧ H1 d = some (.frz o (.dK kvs)) ∧ R (Iti d o kvs) H1
def iKeysM (td : TE) : TI := fun σ H R => td σ H fun x H1 => ∃ d o kvs, x = .ref d ∧ H1 d = some (.frz o (.dK kvs)) ∧ R (Itk d o kvs) H1
section
variable {X : Cx} {tg e : Expr} {td : TE} {apos cpos : Pos}
end

/-! ### enumerate(list) -/
/-- the list at a as it stands at each turn, each item in a new pair -/
def Ite (K : PySem.W.Frag) (a : Addr) : It :=
  ⟨fun i H => ∃ (xs : List V) (x : V), SqL K H a xs ∧ xs[i]? = some x, fun i H v H' => ∃ T x, v = .ref T ∧ H T = none ∧ H' = upd H T (.tup [.int (i : Nat), x]) ∧ ∀ xs, SqL K H a xs → xs[i]? = some x, fun i H => ∃ xs : List V, SqL K H a xs ∧ xs.length ≤ i⟩
theorem turn_enum {P : Program} {w : World} {K : PySem.W.Frag} {elts : List Expr} {kk : Nat} {tpos : Pos} (a e it : Addr) :
    Turn P w K (.Tuple elts kk tpos) (Ite K a) [e, it] e (fun i h => (∃ old, IsEnum h e it ((i : Nat) : Int) old) ∧ h.IsListIter it a i ∧ e ≠ it) where
  mem := by simp
  obj := fun i h st b hb => by
    obtain ⟨⟨old, he⟩, ⟨o, ho, hc, hd⟩, _⟩ := st
    have e' : b = e ∨ b = it := by simpa using hb
    rcases e' with z | z
    · rw [z]; exact ⟨_, he, fun v q => nomatch q⟩
    · rw [z]; exact ⟨o, ho, fun v q => by rw [hd] at q; cases q⟩
  keep := fun i h h' st k => let ⟨⟨old, he⟩, hi, hne⟩ := st; ⟨⟨old, k e (by simp) _ he⟩, hi.at fun o q => k it (by simp) o q, hne⟩
  item := by
    intro X hP hw hK hc i pins s σ H E I hf st hg
    subst hP hw hK
    obtain ⟨⟨old, he⟩, hit, hne⟩ := st
    obtain ⟨xs, x, hq, hx⟩ := hg
    obtain ⟨its, rv, p, hz⟩ := I.list hq
    obtain ⟨u, hu, ru⟩ := rv.get hx
    have hel : e < s.heap.objs.size := Heap.lt_size he
    have hil : it < s.heap.objs.size := by obtain ⟨_, q, _⟩ := hit; exact Heap.lt_size q
    refine wpAny_pyNext_enum_item he hit p.isList (x := u) (by simpa using hu) hne fun h' ho hit' hT hsz hk => ?_
    refine ⟨_, rfl, wpAny_letOwnedTupleGo_enum (s := { s with heap := h', toks := s.toks + 1 }) ho fun h'' he' sb => ?_⟩
    have hT2 : h''.get? s.heap.objs.size = some { cls := .type "tuple", data := .seq #[.int i s.toks, u] } := (sb.2 _ (Nat.ne_of_gt hel)).trans hT
    have new : ObjOk X.prog X.w (upd H s.heap.objs.size (.tup [.int (i : Nat), x])) h'' s.heap.objs.size (.tup [.int (i : Nat), x]) :=
      ⟨by show 2 ≤ sizeLine; decide, [.int i s.toks, u], .cons ⟨_, rfl⟩ (.cons ru .nil), ⟨_, hT2, rfl, _, rfl⟩⟩
    have I1 : Inv X pins σ (upd H s.heap.objs.size (.tup [.int (i : Nat), x])) { s with heap := h'', toks := s.toks + 1 } :=
      I.turnedNew (ch := [e, it]) (fun b ob hb q => (sb.2 b (fun z => hb (by simp [z]))).trans (hk b ob (fun z => hb (by simp [z])) (fun z => hb (by simp [z])) q)) hf (Nat.le_refl _) new
    refine ⟨.ref s.heap.objs.size, _, I1, rfl, ⟨_, x, rfl, I.hok.fresh (Nat.le_refl _), rfl, fun ys hy => by rw [I.list_inj hy hq]; exact hx⟩, ⟨⟨u, ?_⟩, hit'.at fun o q => (sb.2 it (Ne.symm hne)).trans q, hne⟩, fun b hb => ?_⟩
    · have e1 : ((i + 1 : Nat) : Int) = (i : Int) + 1 := by omega
      rw [e1]; exact he'
    · have hb' : b < s.heap.objs.size := by
        have e' : b = e ∨ b = it := by simpa using hb
        rcases e' with z | z
        · rw [z]; exact hel
        · rw [z]; exact hil
      rw [upd_ne (Nat.ne_of_lt hb')]
      exact (hf b hb).1
  done := by
    intro X hP hw hK hc i pins s σ H E I hf st hg
    subst hP hw hK
    obtain ⟨⟨old, he⟩, hit, hne⟩ := st
    obtain ⟨xs, hq, hx⟩ := hg
    obtain ⟨its, rv, p, hz⟩ := I.list hq
    obtain ⟨f0, f1, f2, f3, f4, f5⟩ := hf it (by simp)
    have hl := rv.length
    exact wpAny_pyNext_enum_end (I.ok.hd hc) he hit p.isList (by simp; omega) fun h' eb => ⟨rfl, I.turned (t' := s.toks) (fun b o hb q => eb b o hb q) f0 f1 f3 f4 f5⟩
  self := fun A i s Q E st h => let ⟨⟨_, he⟩, _⟩ := st; wpAny_pyIter_enum he h
def iEnum (K : PySem.W.Frag) (ta : TA) : TI := fun σ H R => ta σ H fun vs H1 => ∃ a xs, vs = [.ref a] ∧ SqL K H1 a xs ∧ R (Ite K a) H1
theorem pi_enum {X : Cx} {e : Expr} {ta : TA} {p pos tpos : Pos} {elts : List Expr} {kk : Nat} (hg : Gl X "enumerate") (hm : X.mg "enumerate" = none) (ha : PA X [e] ta) (hs : starEach [e] X.env = [(false, eval e X.env)] := by rfl) :
    PI X (.Tuple elts kk tpos) (.Call (.Name "enumerate" p) [e] [] pos) (iEnum X.K ta) := by
  intro pins s σ H R I h
  refine Call_ (ld_blt I hg hm boot_enumerate (PyProof.Rows.callWith_type1 (thn (ha pos pins s σ H _ I h) fun us s1 ⟨vs, H1, I1, r1, q1⟩ => ?_) hs rfl))
  obtain ⟨a, xs, ex, hq, q⟩ := q1
  subst ex
  cases r1 with
  | cons r rr =>
    cases rr
    cases r
    obtain ⟨its, rv, p', hz⟩ := I1.list hq
    refine call_enumerate_list p'.isList fun h' he hit hsz hk => wpAny_pyIter_enum he ?_
    have I2 : Inv X pins σ H1 { s1 with heap := h' } := I1.kept (t' := s1.toks) hk
    refine ⟨s1.heap.objs.size + 1, [s1.heap.objs.size + 1, s1.heap.objs.size], _, _, H1, rfl, I2, turn_enum a (s1.heap.objs.size + 1) s1.heap.objs.size, ⟨⟨.none, he⟩, hit, Nat.succ_ne_self _⟩, fun b hb => ?_, q⟩
    have e' : b = s1.heap.objs.size + 1 ∨ b = s1.heap.objs.size := by simpa using hb
    have hle : s1.heap.objs.size ≤ b := by
      rcases e' with z | z
      · rw [z]; exact Nat.le_add_right _ _
      · rw [z]; exact Nat.le_refl _
    exact I1.fpOk hle (I1.hok.fresh hle)
/-! ### zip(list, list) -/
/-- the lists at a and b as they stand at each turn, the items in new pairs -/
def Itz (K : PySem.W.Frag) (a b : Addr) : It :=
  ⟨fun i H => ∃ (xs ys : List V) (x y : V), SqL K H a xs ∧ SqL K H b ys ∧ xs[i]? = some x ∧ ys[i]? = some y,
    fun i H v H' => ∃ T x y, v = .ref T ∧ H T = none ∧ H' = upd H T (.tup [x, y]) ∧ (∀ xs, SqL K H a xs → xs[i]? = some x) ∧ ∀ ys, SqL K H b ys → ys[i]? = some y,
    fun i H => ∃ xs ys : List V, SqL K H a xs ∧ SqL K H b ys ∧ (xs.length ≤ i ∨ ys.length ≤ i)⟩
def iZip (K : PySem.W.Frag) (ta : TA) : TI := fun σ H R => ta σ H fun vs H1 => ∃ a b xs ys, vs = [.ref a, .ref b] ∧ SqL K H1 a xs ∧ SqL K H1 b ys ∧ R (Itz K a b) H1
end L2

section 
namespace Bits
open PySem PyProof.Rows

end Bits
end 

section 
namespace TL
open PySem PySem.Builtin PySem.Builtin.Str PySem.StrLaws

abbrev tl (x : Str) : List Nat := x.cps.toList
theorem len_tl (x : Str) : x.length = (tl x).length := by simp [tl, Str.length]
theorem tl_append (x y : Str) : tl (x ++ y) = tl x ++ tl y := by
  show (x ++ y).cps.toList = _
  rw [Str.cps_append, Array.toList_append]
/-! ### the list functions -/
/-- S stands at the head of l -/
def pre (S l : List Nat) : Bool := l.take S.length == S
/-- l cut at each S from the left; k signs are still to be passed over -/
def spl (S : List Nat) : Nat → List Nat → List Nat → List (List Nat)
  | _, acc, [] => [acc]
  | 0, acc, c :: r => if pre S (c :: r) = true then acc :: spl S (S.length - 1) [] r else spl S 0 (acc ++ [c]) r
  | k + 1, acc, _ :: r => spl S k acc r
/-- what stands before the first S, and behind it -/
def par (S : List Nat) : List Nat → List Nat → Option (List Nat × List Nat)
  | _, [] => none
  | acc, c :: r => if pre S (c :: r) = true then some (acc, (c :: r).drop S.length) else par S (acc ++ [c]) r

/-! ### the model's split and partition are these -/
/-! ### computing spl and par -/
/-- joined lists -/
def joinL (S : List Nat) : List (List Nat) → List Nat
  | [] => []
  | [p] => p
  | p :: q :: r => p ++ (S ++ joinL S (q :: r))
/-! ### digits -/
/-- the signs of a number -/
def numL (n : Nat) : List Nat := (Nat.toDigits 10 n).map Char.toNat
theorem tl_num (n : Nat) : tl (Str.ofString (toString ((n : Nat) : Int))) = numL n := PySem.W.KIN.signs_num n
theorem numL_len {n k : Nat} (hk : 0 < k) (h : n < 10 ^ k) : (numL n).length ≤ k := by
  have z := PyProof.Rows.toString_length_le (v := (n : Int)) (by omega) hk (by
    have e : ((10 : Int) ^ k) = ((10 ^ k : Nat) : Int) := by
      first
        | exact (Int.natCast_pow 10 k).symm
        | simp
    rw [e]
    first | exact Int.ofNat_lt.mpr h | omega)
  rw [len_tl, tl_num] at z
  exact z
/-! ### words: x.split() -/
def wstep (st : List (List Nat) × List Nat) (c : Nat) : List (List Nat) × List Nat :=
  if Unicode.isSpace c = true then (if st.2 = [] then st else (st.1 ++ [st.2], [])) else (st.1, st.2 ++ [c])
def wfin (st : List (List Nat) × List Nat) : List (List Nat) := if st.2 = [] then st.1 else st.1 ++ [st.2]
end TL
end 

namespace L2
open PySem PySem.Spec PyProof.Rows

/-- a new list of texts, tracked -/
def rNewStrs (ys : List Str) : Hp → VK → Prop := fun H Q => ∀ p, H p = none → Q (.ref p) (upd H p (.lst (ys.map V.str)))

section
variable {X : Cx} {pins : List (Addr × Obj)} {σ : St} {H : Hp} {s : Shared} {Q : VK}
end

section
variable {X : Cx}

/-! ### of a text alone -/
/-! ### of a text and a text -/
end

section
variable {X : Cx} {o e : Expr} {to te : TE}
def tM0 (r : V → List V → Hp → VK → Prop) (to : TE) : TE := fun σ H Q => to σ H fun x H1 => (∃ a, x = .str a) ∧ r x [] H1 Q
def tM1 (r : V → List V → Hp → VK → Prop) (to te : TE) : TE := fun σ H Q => to σ H fun x H1 => (∃ a, x = .str a) ∧ te σ H1 fun y H2 => r x [y] H2 Q
end
end L2

namespace L2
open PySem PySem.Spec PyProof.Rows

section
variable {X : Cx}
end

/-! ### slices of a text -/
theorem IsPart.raw {v : Value} {o : Option Int} (p : IsPart v o) : ∃ l : Option (Int × Tok), v = partValue l ∧ l.map (·.1) = o := by
  cases p with
  | none => exact ⟨none, rfl, rfl⟩
  | int i t => exact ⟨some (i, t), rfl, rfl⟩

/-- a part, clipped, as the text's slice reckons it -/
def clipS (n d : Nat) : Option Int → Int
  | none => (d : Int)
  | some i => max 0 (min (if i < 0 then i + (n : Int) else i) (n : Int))
/-- z[lo:hi] -/
def cutS (z : Str) (lo hi : Option Int) : Str :=
  ⟨((z.cps.toList.drop (HT.sIx z.length 0 lo)).take (HT.sIx z.length z.length hi - HT.sIx z.length 0 lo)).toArray⟩
def rSlS : V → Option Int → Option Int → Hp → VK → Prop := fun x lo hi H Q => ∃ z, x = .str z ∧ z.length ≤ sizeLine ∧ Q (.str (cutS z lo hi)) H
end L2

namespace Att
open PySem PySem.W PySem.Calls PyProof.Rows

/-! ### the script -/
theorem ints_of_wellAll {P : Params} {h : Heap} : ∀ (ns : List Int) (vs : List Value), WellAll P h vs (ns.map WData.int) → IntsAre vs ns := by
  intro ns
  induction ns with
  | nil =>
    intro vs w
    rw [List.map_nil] at w
    cases w
    exact .nil
  | cons n ns ih =>
    intro vs w
    rw [List.map_cons] at w
    cases w with
    | cons a b =>
      cases a
      exact .cons _ _ (ih _ b)

theorem script_of {l : OpenLaw} {n : Nat} (hn : l.most = some n) {P : Params} {h : Heap} {args : List WData} {vals : List Value}
    (hpre : l.row.toRowW.claim.pre args = true) (hwl : WellAll P h vals args) :
    ∃ a vs ns, vals = [Value.ref a] ∧ args = [WData.list (ns.map WData.int)] ∧ h.get? a = some { cls := .type "list", data := .seq vs.toArray } ∧ IntsAre vs ns ∧ ns.length ≤ n := by
  have hsh : WShape.hasAll [] args [.list .int] = true := (pre_splitW hpre).1
  have hc : l.pre.holds [] { args := args } = true := (pre_splitW hpre).2
  obtain ⟨d, r, rfl, h1, h2⟩ := hasAllW_cons hsh
  obtain rfl := hasAllW_nil h2
  obtain ⟨xs, rfl, h3⟩ := hasW_list h1
  obtain ⟨ns, rfl⟩ := items_int h3
  have hlen : ns.length ≤ n := by
    unfold OpenLaw.pre at hc
    have h4 : (WTm.not (.lt (.lit (.int (n : Int))) (.len (.arg 0)))).holds [] { args := [.list (ns.map .int)] } = true := by
      have h4 := (holds_andW hc).1
      rw [hn] at h4
      exact h4
    have h5 := condW_of h4 (w_not (w_lt w_lit (w_len_list (w_arg rfl))))
    rw [List.length_map] at h5
    refine Nat.le_of_not_lt fun q => ?_
    have q' : (n : Int) < ((ns.length : Nat) : Int) := by omega
    first
      | (rw [decide_eq_true q'] at h5; exact absurd h5 (by decide))
      | (simp at h5; omega)
  cases hwl with
  | cons w1 w2 =>
    cases w2
    cases w1 with
    | list ho hall => exact ⟨_, _, ns, rfl, rfl, ho, ints_of_wellAll ns _ hall, hlen⟩

theorem post_true (l : OpenLaw) (args : List WData) : l.row.toRowW.claim.post args (.bool true) args = true :=
  postW_of (r := l.row.toRowW) (X := (true == true))
    (show WShape.has [] (.bool true) .bool = true by first | rfl | decide | simp [WShape.has, WShape.arms, WShape.armsAll])
    (show (WTm.eq .res (.lit (.bool true))).value [] { args := args, res := some (.bool true), after := args } = some (.bool (true == true)) from w_eq_bool (w_res rfl) w_lit) rfl

/-! ### the attachment: holds_open's last premise (the goal 'hc' behind k_head) from a wpAny of the law's body -/
/-- the same from a codeAny of the CALL (for a layer whose function contracts speak of calls) -/
theorem attach_call {l : OpenLaw} {n : Nat} {q : Program} {loose : List Str} {XP : (Str → Option Value) → Heap → Prop} {YP : World → Heap → Prop} {d : DefRec}
    (hn : l.most = some n) (hdf : d.params.defaults = [])
    (call : ∀ (w : World) (s₀ s₁ : Shared) (mg mb : Str → Option Value) (fa : Addr) (o : Obj) (pm cd doc : Value) (a : Addr) (vs : List Value) (ns : List Int),
      Ground q loose [] XP w s₀ mg mb s₁.heap → YP w s₁.heap →
      s₁.heap.get? fa = some o → o.data = .func (docDef d.name d.params d.body d.scope pm cd doc) → s₁.heap.CodeRec cd d.name → mg d.name = some (.ref fa) →
      s₁.heap.get? a = some { cls := .type "list", data := .seq vs.toArray } → IntsAre vs ns → ns.length ≤ n → s₁.gens = #[] →
      codeAny (model l.prog w) callerA (.call (.ref fa) ⟨[.ref a], []⟩) (fun r s' => r = .ok (.ret (.bool true)) ∧ OldK s₁.heap s'.heap ∧ s'.os = s₁.os ∧ AllBare s'.gens) s₁) :
    WalkO q loose XP YP l.row.toRowW d [] (fun f vs => PySem.call f vs) := by
  intro w s₀ s₁ mg mb G Y fa o pm cd doc dV kV ho hd hcd hD hmg hg args vals as hpre hlay hrd hwl hlo
  obtain rfl : dV = .none := Dflts.none hD hdf
  obtain rfl : kV = .none := Dflts.noKw hD
  obtain ⟨a, vs, ns, rfl, rfl, hobj, hints, hlen⟩ := script_of hn hpre hwl
  refine enter_call (codeAny_mono (call w s₀ s₁ mg mb fa o pm cd doc a vs ns G Y ho (fd_plain hd) hcd hmg hobj hints hlen hg) fun r s' hq => ?_)
  obtain ⟨rfl, h2, h3, h4⟩ := hq
  exact ⟨.inl ⟨.bool true, .bool true, [], rfl, fun _ => rfl, .bool true, post_true l _, fun _ => ⟨List.Pairwise.nil, fun _ hm => (nomatch hm)⟩⟩, h2, h3, h4⟩

/-! ### rules over ANY heap (no ledger) from facts about the written part K: the library's own take a ledger (News) for what they write -/
section
variable {prog : Program} {w : World} {A : Around} {E : Value → Shared → Prop} {s : Shared} {K : Frag}

/-! the whole heap as the ledger: makes every rule that writes through a ledger a rule over any heap -/
def noObjs (h : Heap) : Heap := { h with objs := #[] }
def ledger (h : Heap) (L d : Addr) : List (Addr × Obj) := (List.range h.objs.size).filterMap fun a => if a = L ∨ a = d then none else (h.get? a).map fun o => (a, o)
end
end Att

namespace L2
open PySem PySem.Spec PyProof.Rows

theorem vals_ints : ∀ {vs : List Value} {ns : List Int}, IntsAre vs ns → Vals (ns.map V.int) vs
  | _, _, .nil => .nil
  | _, _, .cons n t h => .cons ⟨t, rfl⟩ (vals_ints h)

/-- nothing is tracked but the script, known to the object (or it is an object of the module) -/
def Only (H : Hp) : Prop := ∀ b, H b = none ∨ ∃ o xs, H b = some (.frz o (.lst xs))

/-- THE HEAD: the law's promise, at the heap behind the top. F, the promise of the law's def, may use that base is part of the heap (so K.In base, base.Ns mainGlobals mg stand in Mod) -/
theorem law_call {P : Program} {w : World} {K : PySem.W.Frag} {mg mb : Str → Option Value} {CX : CXT} {k : Nat} {fa a : Addr} {fd : FuncData} {x : Str} {sp : Sp} {s₁ : Shared} {vs : List Value} {ns : List Int}
    (KX : K.In s₁.heap) (hns : s₁.heap.Ns mainGlobals mg) (hb : s₁.heap.Ns builtinsNs mb) (hbb : ∀ x : Str, x ≠ "__name__" → mb x = bootBuiltins x) (hlim : s₁.heap.NoLimit) (hg : s₁.gens = #[])
    (ha : s₁.heap.get? a = some { cls := .type "list", data := .seq vs.toArray }) (hi : IntsAre vs ns) (hl : ns.length ≤ sizeLine) (hr : Room k callerA)
    (F : ∀ base : Heap, K.In base → base.Ns mainGlobals mg → FnOk P w K mg base CX k fa fd [x] sp) (hbind : ∀ (s : Shared) (u : Value), BindsTo s fd ⟨[u], []⟩ [(x, u)])
    (hsp : ∀ H : Hp, Only H → SqL K H a (ns.map V.int) → sp [.ref a] H (fun v _ => v = .bl true) fun _ _ _ => False)
    (hCX : ∀ H e s', CX [] H s₁ (fun _ _ _ => False) e s' → False) :
    codeAny (model P w) callerA (.call (.ref fa) ⟨[.ref a], []⟩) (fun r s' => r = .ok (.ret (.bool true)) ∧ OldK s₁.heap s'.heap ∧ s'.os = s₁.os ∧ AllBare s'.gens) s₁ := by
  have rv := vals_ints hi
  have lenV := hi.length
  -- from an abstract heap in which nothing but the script may be tracked
  have core : ∀ H : Hp, Only H → SqL K H a (ns.map V.int) → HOk P w H s₁.heap → (∀ b, H b ≠ none → b = a) → (H a ≠ none → K.lookup a = none) →
      codeAny (model P w) callerA (.call (.ref fa) ⟨[.ref a], []⟩) (fun r s' => r = .ok (.ret (.bool true)) ∧ OldK s₁.heap s'.heap ∧ s'.os = s₁.os ∧ AllBare s'.gens) s₁ := by
    intro H hO hS hok hA hK
    have base_of : ∀ {b : Addr} {o : Obj}, s₁.heap.get? b = some o → H b = none → (hidT s₁.heap H).get? b = some o := fun e n => hidT_get e n
    have noA : ∀ {b : Addr} {o : Obj} {es : Array DictEntry} {ep : Nat}, s₁.heap.get? b = some o → o.data = .dict es ep → H b = none := fun {b o es ep} e d => by
      cases q : H b with
      | none => rfl
      | some u =>
        have e' : b = a := hA b (by rw [q]; simp)
        subst e'
        rw [ha] at e; cases e
        have d' : Data.seq vs.toArray _ = Data.dict es ep := d
        cases d'
    have nsK : ∀ {b : Addr} {m : Str → Option Value}, s₁.heap.Ns b m → (hidT s₁.heap H).Ns b m := fun {b m} ⟨o, es, ep, e, d, r⟩ => ⟨o, es, ep, base_of e (noA e d), d, r⟩
    have hKb : K.In (hidT s₁.heap H) := fun b o e => base_of (KX b o e) (by
      cases q : H b with
      | none => rfl
      | some u =>
        have e' : b = a := hA b (by rw [q]; simp)
        subst e'
        rw [hK (by rw [q]; simp)] at e; cases e)
    have hM : Mod K mg (hidT s₁.heap H) := ⟨hKb, nsK hns, ⟨mb, nsK hb, hbb⟩, let ⟨mc, h1, h2⟩ := hlim; ⟨mc, nsK h1, h2⟩⟩
    have e0 : Env0 P w K mg (hidT s₁.heap H) callerA [] s₁ H := ⟨rfl, hM, fun b o e => of_hidT e, Nat.le_of_eq (hidT_size _ _), trivial, fun b hb => absurd (show b ∈ ([] : List Addr) from hb) (by simp), hok, .of_eq hg⟩
    refine codeAny_mono ((F _ hKb (nsK hns)).run callerA [] s₁ H ⟨[.ref a], []⟩ [.ref a] [.ref a] _ _ hr e0 (hbind s₁ (.ref a)) (.cons rfl .nil) (hsp H hO hS)) fun r s' h => ?_
    cases r with
    | error e => exact (hCX H e s' h).elim
    | ok fl =>
      cases fl with
      | next => exact False.elim h
      | brk => exact False.elim h
      | cont => exact False.elim h
      | ret u =>
        obtain ⟨v, H', os, bare, un, hok', r', q⟩ := h
        have q' : v = .bl true := q
        subst q'
        obtain rfl : u = Value.bool true := r'
        refine ⟨rfl, OldK.of_keep fun b o e => ?_, os, bare⟩
        cases q : H b with
        | none => exact un.keep b o e q (by intro z; exact absurd (show b ∈ ([] : List Addr) from z) (by simp)) (by simp)
        | some u =>
          rcases hO b with z | ⟨ob, xs, z⟩
          · rw [q] at z; cases z
          · have z2 := un.frzs b ob _ z
            obtain ⟨e1, _⟩ := hok b _ z
            obtain ⟨e2, _⟩ := hok' b _ z2
            rw [e] at e1; cases e1
            exact e2
  cases hk : K.lookup a with
  | some o =>
    -- the script is one of the module's own objects
    have e := KX a o hk
    rw [ha] at e
    cases e
    refine core (fun _ => none) (fun _ => .inl rfl) (.inr ⟨_, vs.toArray, _, hk, rfl, rfl, rfl, by rw [List.size_toArray, lenV]; exact hl, by simpa using rv⟩) (fun b u z => by have z' : (none : Option HO) = some u := z; cases z') (fun b z => absurd rfl z) fun z => absurd rfl z
  | none =>
    refine core (fun b => if b = a then some (.frz { cls := .type "list", data := .seq vs.toArray } (.lst (ns.map V.int))) else none) (fun b => ?_) (.inl (.inr ⟨{ cls := .type "list", data := .seq vs.toArray }, if_pos rfl⟩)) (fun b u z => ?_) (fun b z => ?_) fun _ => hk
    · by_cases hb : b = a
      · exact .inr ⟨_, _, if_pos hb⟩
      · exact .inl (if_neg hb)
    · by_cases hb : b = a
      · have z' := (if_pos hb).symm.trans z
        cases z'
        subst hb
        exact ⟨ha, by rw [List.length_map]; exact hl, vs, _, rv, ha⟩
      · have z' := (if_neg hb).symm.trans z
        cases z'
    · by_cases hb : b = a
      · exact hb
      · exact absurd (if_neg hb) z
end L2

namespace L2
open PySem PySem.Spec PyProof.Rows

abbrev KOf {K : PySem.W.Frag} {h : Heap} (_ : K.In h) : PySem.W.Frag := K

/-- the goal that k_head leaves (case hc), from the law's promise. F gives the function object fd (K's own) once, then the promise over every base -/
theorem walk_of {l : PySem.W.OpenLaw} {n k : Nat} {q : Program} {loose : List Str} {XP : (Str → Option Value) → Heap → Prop} {YP : World → Heap → Prop} {d : DefRec} {K : Params → PySem.W.Frag} {CX : World → CXT} {sp : World → Sp} {x : Str}
    (hn : l.most = some n) (hn2 : n ≤ sizeLine) (hdf : d.params.defaults = []) (hr : Room k callerA)
    (hY : ∀ (w : World) (h : Heap), YP w h → (K w.params).In h)
    (F : ∀ (w : World) (mg : Str → Option Value) (fa : Addr) (h : Heap), (K w.params).In h → h.Ns mainGlobals mg → mg d.name = some (.ref fa) →
      ∃ fd : FuncData, (∀ (s : Shared) (u : Value), BindsTo s fd ⟨[u], []⟩ [(x, u)]) ∧
        ∀ base : Heap, (K w.params).In base → base.Ns mainGlobals mg → FnOk l.prog w (K w.params) mg base (CX w) k fa fd [x] (sp w))
    (hsp : ∀ (w : World) (H : Hp) (a : Addr) (ns : List Int), ns.length ≤ n → Only H → SqL (K w.params) H a (ns.map V.int) → sp w [.ref a] H (fun v _ => v = .bl true) fun _ _ _ => False)
    (hCX : ∀ (w : World) (H : Hp) (s : Shared) (e : Value) (s' : Shared), CX w [] H s (fun _ _ _ => False) e s' → False) :
    PySem.W.WalkO q loose XP YP l.row.toRowW d [] (fun f vs => PySem.call f vs) := by
  refine Att.attach_call hn hdf fun w s₀ s₁ mg mb fa o pm cd doc a vs ns G Y ho hd hcd hmg hobj hints hlen hg => ?_
  have KX := hY w _ Y
  obtain ⟨fd, hb, hF⟩ := F w mg fa _ KX G.T.g hmg
  exact law_call KX G.T.g G.T.b G.T.builtins G.T.nolimit hg hobj hints (Nat.le_trans hlen hn2) hr hF hb (fun H hO hS => hsp w H a ns hlen hO hS) fun H e s' => hCX w H s₁ e s'
end L2

/- THE LAST THEOREM (shape; LID, My.* are yours):
   My.Adr: a structure of the addresses that your layer names (classes, functions); My.Txt K t: a structure (Prop) of the equations over K;
   My.txt_mk : {K} {implicit addresses ..} (e1 : nsIn K mainGlobals "law" = some (some (.ref f))) (e2 : K.lookup f = some ⟨oc, od, .func (fnOf "law" "law" params body scope dV kV doc pm an cdv ct), sl⟩) (e3 : codeIn K cdv "law" = true) .. : ∃ t, My.Txt K t

set_option maxRecDepth 100000 in
set_option maxHeartbeats 0 in
theorem PySem.Challenge.cw_LID_holds : PySem.Challenge.rw_LID.Holds := by
  w_on; o_law; k_head; (case hw => w_witness2)
  k_fill
  refine L2.walk_of (l := PySem.Challenge.rw_LID) (n := 63) (k := 40) (x := "script") (CX := fun w => ..) (sp := fun _ => My.sp_law) rfl (by decide) rfl ⟨rfl, by decide, by decide⟩ (fun w h Y => PySem.W.kIn_of Y) ?F ?S ?C
  case F =>
    intro w mg fa h KX G hmg
    have T : ∃ t, My.Txt (L2.KOf KX) t := by
      dsimp only [L2.KOf]                          -- K must stand as «<heap const> w.params» for k_is
      refine' My.txt_mk ?e1 ?e2 ?e3 ..
      (case e1 => PySem.W.k_is)                    -- in the order: a name -> its address -> its object -> its parts
      (case e2 => PySem.W.k_is)
      ..
    obtain ⟨t, T⟩ := T
    have e0 := hmg.symm.trans (PySem.W.mg_of KX G T.law)
    cases e0                                       -- fa is the law's own address
    exact ⟨_, fun s u => .of_eq rfl, fun base kb nb => My.law_fn T kb nb⟩     -- if «.of_eq rfl» comes too early: refine' ⟨_, ?b, fun base kb nb => My.law_fn T kb nb⟩; exact fun s u => .of_eq rfl
  case S => exact fun w H a ns hl hO hS => ..
  case C => exact ..
(the tactic k_is has no namespace: write k_is) -/

/-! SHORT WORDS over the layer: a def of the text, its body, what a loop and a test want. -/
namespace L2
open PySem PySem.Spec PyProof.Rows

/-! ### the text by places -/
/-- the j-th statement of a class's body -/
def inClass (s : Stmt) (j : Nat) : Stmt := match s with
  | .ClassDef _ _ _ body _ _ _ _ _ _ _ => body.getD j (.Pass ⟨0, 0, 0, 0⟩)
  | _ => .Pass ⟨0, 0, 0, 0⟩
def defArgs (s : Stmt) : Arguments := match s with
  | .FunctionDef _ a _ _ _ _ _ _ _ _ => a
  | _ => { posonlyargs := [], args := [], vararg := none, kwonlyargs := [], kw_defaults := [], kwarg := none, defaults := [] }
def defBody (s : Stmt) : List Stmt := match s with
  | .FunctionDef _ _ b _ _ _ _ _ _ _ => b
  | _ => []
def defScope (s : Stmt) : Scope := match s with
  | .FunctionDef _ _ _ _ _ _ sc _ _ _ => sc
  | _ => { kind := .function, names := [], isGenerator := false, isCoroutine := false }

/-! ### no exception leaves a def -/
abbrev CX0 : CXT := fun _ _ _ _ _ _ => False
abbrev E0 : XK := fun _ _ _ => False
theorem pass0 {X : Cx} : Passes CX0 X E0 := fun _ _ _ _ _ _ _ h => h.elim

/-! ### a def (or method) of the text as it stands behind the top -/
structure Fun (K : PySem.W.Frag) (x qual : Str) (st : Stmt) (f : Addr) (fd : FuncData) : Prop where
  ex : ∃ (oc : Value) (od : Option Addr) (kV doc pm : Value) (an : Option Addr) (cdv ct : Value) (osl : Array (Option Value)),
    fd = PySem.W.fnOf x qual (defArgs st) (defBody st) (defScope st) .none kV doc pm an cdv ct ∧ K.lookup f = some ⟨oc, od, .func fd, osl⟩ ∧ PySem.W.codeIn K cdv qual = true
  kp : PySem.W.keepIn K (.ref f) = true
section
variable {P : Program} {w : World} {K : PySem.W.Frag} {mg : Str → Option Value} {base : Heap}
/-- THE RULE for a def: its body as a term of rules, and the reading of that term -/
theorem Fun.ok {x qual : Str} {st : Stmt} {f : Addr} {fd : FuncData} {N ps : List Str} {k : Nat} {sp : Sp} (F : Fun K x qual st f fd) (S : FnScope N ps (defScope st)) (len : ∀ vs H Q E, sp vs H Q E → vs.length = ps.length)
    (hbody : ∀ (cdv : Value) (A : Around) (outer : List Env) (s : Shared) (H : Hp) (vs : List V) (Q : VK) (E : XK), Room k (A.deeper (envOfC qual (defScope st) s.heap.objs.size f cdv)) → sp vs H Q E →
      ∃ t, PSs (cxOf CX0 P w K mg base N qual (defScope st) f cdv A outer s H E).nox (defBody st) t ∧ t { nx := fun _ H' => Q .non H', rt := Q } (start N vs) H) : FnOk P w K mg base CX0 (k + 1) f fd ps sp := by
  obtain ⟨oc, od, kV, doc, pm, an, cdv, ct, osl, rfl, lk, hcd⟩ := F.ex
  refine fn_of lk hcd S len fun A outer s H vs Q E hr hsp => ?_
  obtain ⟨t, h, q⟩ := hbody cdv A outer s H vs Q E hr hsp
  exact ⟨t, h.nox, q⟩
/-- how its arguments bind (no defaults): h is «fun _ _ _ _ _ _ us hl => match us, hl with | [_, _], _ => rfl», one _ a parameter -/
theorem Fun.binds {x qual : Str} {st : Stmt} {f : Addr} {fd : FuncData} {ps : List Str} (F : Fun K x qual st f fd)
    (h : ∀ (kV doc pm : Value) (an : Option Addr) (cdv ct : Value) (us : List Value), us.length = ps.length → bindArgs (PySem.W.fnOf x qual (defArgs st) (defBody st) (defScope st) .none kV doc pm an cdv ct) ⟨us, []⟩ = pure (ps.zip us)) : Binds K fd ps [] := by
  obtain ⟨oc, od, kV, doc, pm, an, cdv, ct, osl, rfl, lk, hcd⟩ := F.ex
  exact .all (h kV doc pm an cdv ct)
theorem fun_mk {x qual : Str} {st : Stmt} {f : Addr} {oc : Value} {od an : Option Addr} {osl : Array (Option Value)} {kV doc pm cdv ct : Value} (l : K.lookup f = some ⟨oc, od, .func (PySem.W.fnOf x qual (defArgs st) (defBody st) (defScope st) .none kV doc pm an cdv ct), osl⟩)
    (c : PySem.W.codeIn K cdv qual = true) (k : PySem.W.keepIn K (.ref f) = true) : Fun K x qual st f (PySem.W.fnOf x qual (defArgs st) (defBody st) (defScope st) .none kV doc pm an cdv ct) := ⟨⟨oc, od, kV, doc, pm, an, cdv, ct, osl, rfl, l, c⟩, k⟩
end
/-! ### expressions in short: the name that stands in the i-th slot -/
section
variable {X : Cx}
theorem pv (i : Nat) {x : Str} {pos : Pos} (hN : X.N[i]? = some x := by rfl) (hv : Vis X.env.scope x := by first | exact Or.inl rfl | exact Or.inr (Or.inl rfl) | exact Or.inr (Or.inr rfl)) (hd : (x == ("__debug__" : Str)) = false := by decide)
    (hcd : (x == ("__classdict__" : Str)) = false := by decide) : PE X (.Name x pos) (tVar i) := pe_var hN hv hd hcd
end

/-! ### tests -/
theorem iteF {A B : Prop} (h : B) : if false = true then A else B := by
  rw [if_neg Bool.false_ne_true]
  exact h
theorem iteT {A B : Prop} (h : A) : if true = true then A else B := by
  rw [if_pos rfl]
  exact h
/-! ### heaps -/
/-- all that was tracked is as it was -/
def Same (H H' : Hp) : Prop := ∀ b o, H b = some o → H' b = some o
theorem Same.refl (H : Hp) : Same H H := fun _ _ h => h
theorem Same.trans {H H1 H2 : Hp} (a : Same H H1) (b : Same H1 H2) : Same H H2 := fun c o h => b c o (a c o h)
theorem Same.free {H H' : Hp} (e : Same H H') {l : Addr} (h : H' l = Option.none) : H l = Option.none := by
  cases q : H l with
  | none => rfl
  | some o =>
    rw [e l o q] at h
    cases h
theorem Same.seq {K : PySem.W.Frag} {H H' : Hp} {a : Addr} {xs : List V} (e : Same H H') (h : SqL K H a xs) : SqL K H' a xs := by
  rcases h with (h | ⟨o, h⟩) | h
  · exact .inl (.inl (e _ _ h))
  · exact .inl (.inr ⟨o, e _ _ h⟩)
  · exact .inr h

/-! ### a dict's pairs: keys that differ -/
section
variable {κ : Type} [DecidableEq κ]
end
/-! ### lists -/
theorem at_of {xs : List V} {z : Int} {j : Nat} {v : V} (e : z = (j : Int)) (h : xs[j]? = some v) : atI xs z = some v := by
  rw [e]
  exact atI_nat h
/-- a new instance and its __init__ leave all that was tracked as it was -/
theorem Same.made {H H1 : Hp} {x dx C : Addr} (nx : H x = Option.none) (nd : H dx = Option.none) (k : ∀ b o, (upd (upd H dx (.own x)) x (.ins C dx [])) b = some o → b ≠ x → H1 b = some o) : Same H H1 := fun b o e =>
  k b o (by rw [upd_ne (ne_of_none e nx), upd_ne (ne_of_none e nd)]; exact e) (ne_of_none e nx)
end L2

set_option Elab.async false
set_option linter.all false
set_option maxRecDepth 100000
set_option maxHeartbeats 1000000
namespace L2
open PySem PySem.Spec PyProof.Rows

/-! ### new lists, whole numbers -/
abbrev zs (ns : List Int) : List V := ns.map V.int
theorem zs_inj : ∀ {a b : List Int}, zs a = zs b → a = b
  | [], [], _ => rfl
  | [], _ :: _, h => by cases h
  | _ :: _, [], h => by cases h
  | x :: a, y :: b, h => by
    injection h with h1 h2
    injection h1 with h1
    rw [h1, zs_inj h2]
/-- a new list of these items is handed back -/
def NewL (H : Hp) (xs : List V) (Q : VK) : Prop := ∀ (p : Addr) (H' : Hp), Same H H' → H p = none → H' p = some (.lst xs) → Q (.ref p) H'
theorem Same.put {H : Hp} {p : Addr} {o : HO} (h : H p = none) : Same H (upd H p o) := fun b u e => by
  rw [upd_ne (ne_of_none e h)]
  exact e
/-- all but D as it was -/
def SameB (D : Addr) (H H' : Hp) : Prop := ∀ b o, b ≠ D → H b = some o → H' b = some o
theorem SameB.put {H : Hp} {p : Addr} {o : HO} : SameB p H (upd H p o) := fun b u n e => by
  rw [upd_ne n]
  exact e
theorem Same.b {H H' : Hp} {D : Addr} (s : Same H H') : SameB D H H' := fun b o _ e => s b o e
theorem SameB.of {H1 H H' : Hp} {D : Addr} (hD : H1 D = none) (s : Same H1 H) (t : SameB D H H') : Same H1 H' := fun b o e => t b o (ne_of_none e hD) (s b o e)

/-- [elt for x in a list], no test: Rel of the items so far, which leans on other addresses than D alone -/
theorem lc_gen {K : PySem.W.Frag} {a : Addr} {xs : List V} {g : TG} {te : TE} {vs : List Nat} {σ : St} {H1 : Hp} {D : Addr} {Qd : Hp → Prop} (Rel : Nat → List V → Hp → Prop)
    (hD : H1 D = none) (hl : SqL K H1 a xs) (hz : xs.length ≤ sizeLine) (hlen : ∀ i acc H, Rel i acc H → acc.length = i) (h0 : Rel 0 [] (upd H1 D (.lst [])))
    (hs : ∀ i x acc H, xs[i]? = some x → Same H1 H → H D = some (.lst acc) → Rel i acc H → ∀ Kt : VK, (∀ y H4, Same H H4 → (∀ H5, SameB D H4 H5 → Rel (i + 1) (acc ++ [y]) H5) → Kt y H4) →
      g x (wipe σ vs) H fun σ2 H2 => wipe σ2 vs = wipe σ vs ∧ te σ2 H2 Kt)
    (hd : ∀ acc H, Same H1 H → H D = some (.lst acc) → Rel xs.length acc H → Qd H) :
    ∃ W : Nat → Nat → Hp → Prop, (∃ m, W 0 m (upd H1 D (.lst []))) ∧ ∀ i m H, W i m H →
      ((Itl K a).stop i H ∧ Qd H) ∨ ((Itl K a).go i H ∧ ∃ Nx : Hp → Prop, (∀ H', Nx H' → ∃ m', m' < m ∧ W (i + 1) m' H') ∧ ∀ x H', (Itl K a).yld i H x H' → g x (wipe σ vs) H' fun σ2 H2 => wipe σ2 vs = wipe σ vs ∧ tYes σ2 H2 fun b H3 =>
        if b = true then te σ2 H3 fun y H4 => ∃ acc, H4 D = some (.lst acc) ∧ acc.length < sizeLine ∧ Nx (upd H4 D (.lst (acc ++ [y]))) else Nx H3) := by
  refine lc_list (tt := tYes) (fun i H => Same H1 H ∧ ∃ acc, H D = some (.lst acc) ∧ Rel i acc H) ⟨Same.put hD, [], upd_same, h0⟩ (fun i H _ ⟨s, _⟩ => s.seq hl) ?_ ?_
  · rintro i x H hx ⟨s, acc, hA, r⟩
    have hi : i < xs.length := (List.getElem?_eq_some_iff.mp hx).1
    have ha := hlen i acc H r
    exact hs i x acc H hx s hA r _ fun y H4 s4 r4 => ⟨acc, s4 _ _ hA, by omega, SameB.of hD (s.trans s4) SameB.put, acc ++ [y], upd_same, r4 _ SameB.put⟩
  · rintro H ⟨s, acc, hA, r⟩
    exact hd acc H s hA r

/-- the same over a text's signs -/
theorem lc_signs {x : Str} {g : TG} {te : TE} {vs : List Nat} {σ : St} {H1 : Hp} {D : Addr} {Qd : Hp → Prop} (Pv : Nat → Hp → Prop) (h0 : Pv 0 (upd H1 D (.lst [])))
    (hs : ∀ i c H, x.cps[i]? = some c → Pv i H → g (.str ⟨#[c]⟩) (wipe σ vs) H fun σ2 H2 => wipe σ2 vs = wipe σ vs ∧ te σ2 H2 fun y H4 => ∃ acc, H4 D = some (.lst acc) ∧ acc.length < sizeLine ∧ Pv (i + 1) (upd H4 D (.lst (acc ++ [y]))))
    (hd : ∀ H, Pv x.cps.size H → Qd H) :
    ∃ W : Nat → Nat → Hp → Prop, (∃ m, W 0 m (upd H1 D (.lst []))) ∧ ∀ i m H, W i m H →
      ((Its x).stop i H ∧ Qd H) ∨ ((Its x).go i H ∧ ∃ Nx : Hp → Prop, (∀ H', Nx H' → ∃ m', m' < m ∧ W (i + 1) m' H') ∧ ∀ v H', (Its x).yld i H v H' → g v (wipe σ vs) H' fun σ2 H2 => wipe σ2 vs = wipe σ vs ∧ tYes σ2 H2 fun b H3 =>
        if b = true then te σ2 H3 fun y H4 => ∃ acc, H4 D = some (.lst acc) ∧ acc.length < sizeLine ∧ Nx (upd H4 D (.lst (acc ++ [y]))) else Nx H3) := by
  refine ⟨fun i m H => m = x.cps.size - i ∧ i ≤ x.cps.size ∧ Pv i H, ⟨x.cps.size, by simp, Nat.zero_le _, h0⟩, ?_⟩
  rintro i m H ⟨rfl, hi, p⟩
  by_cases hlt : i < x.cps.size
  · refine .inr ⟨hlt, Pv (i + 1), fun H' p' => ⟨x.cps.size - (i + 1), by omega, rfl, hlt, p'⟩, fun v H' y => ?_⟩
    obtain ⟨e, c, hc, ev⟩ := y
    subst e
    subst ev
    exact hs i c _ hc p
  · have e : i = x.cps.size := by omega
    subst e
    exact .inl ⟨Nat.le_refl _, hd H p⟩

section
variable {X : Cx}
/-! ### an f-string of two texts and two numbers -/
def tFs (a b : Str) (t1 t2 : TE) : TE := fun σ H Q => t1 σ H fun x H1 => ∃ i : Int, x = .int i ∧ i.natAbs.log2 < 1920 ∧ (Str.empty ++ a ++ (toString i : Str)).length ≤ sizeLine ∧ (Str.empty ++ a ++ (toString i : Str) ++ b).length ≤ sizeLine ∧
  t2 σ H1 fun y H2 => ∃ j : Int, y = .int j ∧ j.natAbs.log2 < 1920 ∧ (Str.empty ++ a ++ (toString i : Str) ++ b ++ (toString j : Str)).length ≤ sizeLine ∧ Q (.str (Str.empty ++ a ++ (toString i : Str) ++ b ++ (toString j : Str))) H2
theorem pe_fs {a b : Str} {k1 k2 : Nat} {e1 e2 : Expr} {t1 t2 : TE} {p1 p2 p3 p4 pos : Pos} (ha : (Str.empty ++ a).length ≤ sizeLine) (h1 : PE X e1 t1) (h2 : PE X e2 t2) :
    PE X (.JoinedStr [.Constant (.str a) k1 p1, .FormattedValue e1 (-1) none p2, .Constant (.str b) k2 p3, .FormattedValue e2 (-1) none p4] pos) (tFs a b t1 t2) := by
  intro pins s σ H Q I h
  refine JoinedStr_many (joinParts_cons (Calls.Constant_str ⟨ha, ?_⟩))
  refine joinParts_cons (FormattedValue_plain (thn (h1 pins _ σ H _ (I.tok _) h) fun v s1 hv => ?_))
  obtain ⟨x, H1, I1, r1, i, rfl, hi, l1, l2, q1⟩ := hv
  obtain ⟨t, rfl⟩ := r1
  refine formatField_int_small hi ⟨l1, ?_⟩
  refine joinParts_cons (Calls.Constant_str ⟨l2, ?_⟩)
  refine joinParts_cons (FormattedValue_plain (thn (h2 pins _ σ H1 _ (I1.tok _) q1) fun v s2 hv => ?_))
  obtain ⟨y, H2, I2, r2, j, rfl, hj, l3, q2⟩ := hv
  obtain ⟨t, rfl⟩ := r2
  refine formatField_int_small hj ⟨l3, ?_⟩
  exact joinParts_nil ⟨.str _, H2, I2.tok _, ⟨_, rfl⟩, q2⟩ l3

/-! ### list + list, whatever is read -/
def rCatS (K : PySem.W.Frag) : R2 := fun x y H Q => ∃ l b xs ys, x = .ref l ∧ y = .ref b ∧ SqL K H l xs ∧ SqL K H b ys ∧ xs.length + ys.length ≤ sizeLine ∧ ∀ p, H p = none → Q (.ref p) (upd H p (.lst (xs ++ ys)))

/-! ### x not in a list of lists of whole numbers -/
def rNotInL (K : PySem.W.Frag) : R2 := fun x y H Q => ∃ (a : Addr) (ms : List Int) (p : Addr) (as : List Addr) (nss : List (List Int)), x = .ref a ∧ SqL K H a (zs ms) ∧ y = .ref p ∧ SqL K H p (as.map V.ref) ∧ Paired (fun b ns => SqL K H b (zs ns)) as nss ∧
  Q (.bl (!(nss.any fun ns => decide (ns = ms)))) H
theorem paired_mem {α β : Type} {G : α → β → Prop} : ∀ {l : List α} {m : List β}, Paired G l m → ∀ a ∈ l, ∃ b ∈ m, G a b
  | _, _, .nil, a, h => by cases h
  | _, _, .cons r t, a, h => by
    rcases List.mem_cons.mp h with rfl | h
    · exact ⟨_, List.mem_cons_self, r⟩
    · obtain ⟨b, hb, g⟩ := paired_mem t a h
      exact ⟨b, List.mem_cons_of_mem _ hb, g⟩
theorem any_paired {α β : Type} {G : α → β → Prop} {f : α → Bool} {g : β → Bool} (h : ∀ a b, G a b → f a = g b) : ∀ {l : List α} {m : List β}, Paired G l m → l.any f = m.any g
  | _, _, .nil => rfl
  | _, _, .cons r t => by rw [List.any_cons, List.any_cons, h _ _ r, any_paired h t]
theorem op_notInL (hu : X.A.in1.units + 64 < cLine) : OpR X (compareOp .NotIn) (rNotInL X.K) := by
  intro pins s σ H x y v u Q I rx ry h
  obtain ⟨a, ms, p, as, nss, rfl, ha, rfl, hp, hpr, q⟩ := h
  cases rx
  cases ry
  obtain ⟨its, rv, pl, hz⟩ := I.list hp
  have eits := refs_at rv
  subst eits
  obtain ⟨ita, ra, pla, _⟩ := I.list ha
  have key : ∀ (b : Addr) (ns : List Int), SqL X.K H b (zs ns) → (SqL X.K H b (zs ms) ↔ ns = ms) := fun b ns hb => ⟨fun h => zs_inj (I.list_inj hb h), fun h => h ▸ hb⟩
  classical
  let e : Value → Bool := fun z => decide (∃ b, z = .ref b ∧ SqL X.K H b (zs ms))
  have ee : ∀ (b : Addr) (ns : List Int), SqL X.K H b (zs ns) → e (.ref b) = decide (ns = ms) := fun b ns hb => by
    refine decide_eq_decide.mpr ⟨?_, ?_⟩
    · rintro ⟨b', e', h⟩
      cases e'
      exact (key b ns hb).mp h
    · intro h
      exact ⟨b, rfl, (key b ns hb).mpr h⟩
  refine SeqAt.notIn_listAt e pl.isList (fun z hz => ?_) ⟨.bl _, H, I, rfl, ?_⟩
  · have hz' : z ∈ as.map Value.ref := by simpa using hz
    obtain ⟨b, hb, rfl⟩ := List.mem_map.mp hz'
    obtain ⟨ns, _, hn⟩ := paired_mem hpr b hb
    obtain ⟨itb, rb, plb, _⟩ := I.list hn
    rw [ee b ns hn]
    exact PySem.W.keq_ints plb.isList (Vals.ints rb) pla.isList (Vals.ints ra) hu
  · have e1 : (as.map Value.ref).toArray.any e = (nss.any fun ns => decide (ns = ms)) := by
      rw [show (as.map Value.ref).toArray.any e = (as.map Value.ref).any e by simp, List.any_map]
      exact any_paired (fun b ns hb => ee b ns hb) hpr
    rw [e1]
    exact q
end

/-! ### a def of the text, and what it does, by its name -/
def Def (K : PySem.W.Frag) (mg : Str → Option Value) (x : Str) (st : Stmt) (ps : List Str) : Prop := ∃ (f : Addr) (fd : FuncData), Fun K x x st f fd ∧ mg x = some (.ref f) ∧ Binds K fd ps []
def Does (P : Program) (w : World) (K : PySem.W.Frag) (mg : Str → Option Value) (base : Heap) (k : Nat) (x : Str) (ps : List Str) (sp : Sp) : Prop :=
  ∃ (f : Addr) (fd : FuncData), FnOk P w K mg base CX0 k f fd ps sp ∧ mg x = some (.ref f) ∧ PySem.W.keepIn K (.ref f) = true ∧ Binds K fd ps []
section
variable {P : Program} {w : World} {K : PySem.W.Frag} {mg : Str → Option Value} {base : Heap}
theorem Def.does {x : Str} {st : Stmt} {N ps : List Str} {k : Nat} {sp : Sp} (F : Def K mg x st ps) (S : FnScope N ps (defScope st)) (len : ∀ vs H Q E, sp vs H Q E → vs.length = ps.length)
    (hbody : ∀ (f : Addr) (cdv : Value) (A : Around) (outer : List Env) (s : Shared) (H : Hp) (vs : List V) (Q : VK) (E : XK), Room k (A.deeper (envOfC x (defScope st) s.heap.objs.size f cdv)) → sp vs H Q E →
      ∃ t, PSs (cxOf CX0 P w K mg base N x (defScope st) f cdv A outer s H E).nox (defBody st) t ∧ t { nx := fun _ H' => Q .non H', rt := Q } (start N vs) H) : Does P w K mg base (k + 1) x ps sp := by
  obtain ⟨f, fd, F, hm, hb⟩ := F
  exact ⟨f, fd, F.ok S len (fun cdv A outer s H vs Q E hr h => hbody f cdv A outer s H vs Q E hr h), hm, F.kp, hb⟩
theorem def_mk {h : Heap} {x : Str} {st : Stmt} {ps : List Str} {f : Addr} {oc : Value} {od an : Option Addr} {osl : Array (Option Value)} {kV doc pm cdv ct : Value} (X : K.In h) (G : h.Ns mainGlobals mg) (a : PySem.W.nsIn K mainGlobals x = some (some (.ref f)))
    (l : K.lookup f = some ⟨oc, od, .func (PySem.W.fnOf x x (defArgs st) (defBody st) (defScope st) .none kV doc pm an cdv ct), osl⟩) (c : PySem.W.codeIn K cdv x = true) (k : PySem.W.keepIn K (.ref f) = true)
    (hb : ∀ (kV doc pm : Value) (an : Option Addr) (cdv ct : Value) (us : List Value), us.length = ps.length → bindArgs (PySem.W.fnOf x x (defArgs st) (defBody st) (defScope st) .none kV doc pm an cdv ct) ⟨us, []⟩ = pure (ps.zip us)) : Def K mg x st ps :=
  ⟨f, _, fun_mk l c k, PySem.W.mg_of X G a, (fun_mk l c k).binds hb⟩
theorem int_mk {h : Heap} {x : Str} {i : Int} {t : Tok} (X : K.In h) (G : h.Ns mainGlobals mg) (a : PySem.W.nsIn K mainGlobals x = some (some (.int i t))) : ∃ t, mg x = some (.int i t) := ⟨t, PySem.W.mg_of X G a⟩
theorem Does.mono {j k : Nat} {x : Str} {ps : List Str} {sp : Sp} (D : Does P w K mg base j x ps sp) (h : j ≤ k) : Does P w K mg base k x ps sp := by
  obtain ⟨f, fd, F, r⟩ := D
  exact ⟨f, fd, F.mono h, r⟩
end
section
variable {X : Cx} {k : Nat} {x : Str} {ps : List Str} {sp : Sp} {p pos : Pos} {e : Expr} {es : List Expr} {t : TA}
/-- f(e, ..) of a def of the text -/
theorem pe_do (D : Does X.prog X.w X.K X.mg X.base k x ps sp) (hr : Room k X.A) (ha : PA X (e :: es) t) (hg : Gl X x := by rfl) (hdb : (x == ("__debug__" : Str)) = false := by decide)
    (he : starEach (e :: es) X.env = (false, eval e X.env) :: starEach es X.env := by rfl) (hpl : (backTo pos (starEach es X.env)).any (·.1) = false := by rfl) (hx : Passes CX0 X E0 := by exact pass0) :
    PE X (.Call (.Name x p) (e :: es) [] pos) (tCall sp [] E0 t) := by
  obtain ⟨f, fd, F, hm, hk, hb⟩ := D
  exact pe_call F hr hg hm hk hb .nil hx ha hdb he hpl
/-- a whole number of the file's top -/
theorem pe_top {i : Int} (h : ∃ t, X.mg x = some (.int i t)) (hg : Gl X x := by rfl) (hd : (x == ("__debug__" : Str)) = false := by decide) : PE X (.Name x pos) (tC (.int i)) := by
  obtain ⟨t, h⟩ := h
  exact pe_glob hg h ⟨t, rfl⟩ hd
end

/-! ### the head for a specification's row: one argument -/
def absVs : List Value → Option (List V)
  | [] => some []
  | u :: r => match absV u, absVs r with
    | some x, some xs => some (x :: xs)
    | _, _ => none
theorem absVs_of : ∀ {xs : List V} {us : List Value}, Vals xs us → absVs us = some xs
  | _, _, .nil => rfl
  | _, _, .cons r t => by
    unfold absVs
    rw [r.abs, absVs_of t]
/-- the lists at these addresses, known to the object *-/
def Hof (K : PySem.W.Frag) (h : Heap) (as : List Addr) : Hp := fun b => if b ∈ as ∧ (K.lookup b).isNone = true then
    match h.get? b with
    | some o => match o.data with
      | .seq its _ => (absVs its.toList).map fun xs => .frz o (.lst xs)
      | _ => none
    | none => none
  else none
/-- a plain list stands at b -/
def PlainAt (h : Heap) (b : Addr) (xs : List V) : Prop := xs.length ≤ sizeLine ∧ ∃ its : List Value, h.get? b = some { cls := .type "list", data := .seq its.toArray } ∧ Vals xs its
section
variable {K : PySem.W.Frag} {h : Heap} {as : List Addr}
theorem hof_at {b : Addr} {xs : List V} (hb : b ∈ as) (hk : (K.lookup b).isNone = true) (p : PlainAt h b xs) : ∃ o, h.get? b = some o ∧ Hof K h as b = some (.frz o (.lst xs)) := by
  obtain ⟨_, its, e, r⟩ := p
  refine ⟨_, e, ?_⟩
  unfold Hof
  rw [if_pos ⟨hb, hk⟩, e]
  show (absVs its.toArray.toList).map _ = _
  rw [show its.toArray.toList = its by simp, absVs_of r]
  rfl
theorem hof_some {b : Addr} {u : HO} (e : Hof K h as b = some u) : b ∈ as ∧ (K.lookup b).isNone = true := by
  unfold Hof at e
  split at e
  · assumption
  · cases e
theorem hof_sq {b : Addr} {xs : List V} (KX : K.In h) (hb : b ∈ as) (p : PlainAt h b xs) : SqL K (Hof K h as) b xs := by
  cases hk : K.lookup b with
  | none =>
    obtain ⟨o, _, e⟩ := hof_at hb (by rw [hk]; rfl) p
    exact .inl (.inr ⟨o, e⟩)
  | some o =>
    obtain ⟨hz, its, e, r⟩ := p
    have e2 := KX b o hk
    rw [e] at e2
    cases e2
    have hl := r.length
    exact .inr ⟨_, its.toArray, _, hk, rfl, rfl, rfl, by simp only [List.size_toArray]; omega, by simpa using r⟩
structure HofOk (P : Program) (w : World) (K : PySem.W.Frag) (h : Heap) (H : Hp) : Prop where
  only : Only H
  hok : HOk P w H h
  seq : ∀ b, H b ≠ none → ∃ (o : Obj) (its : Array Value) (n : Nat), h.get? b = some o ∧ o.data = .seq its n
  out : ∀ b, H b ≠ none → K.lookup b = none
theorem hof_ok {P : Program} {w : World} (hA : ∀ b ∈ as, ∃ xs, PlainAt h b xs) : HofOk P w K h (Hof K h as) := by
  have sm : ∀ b u, Hof K h as b = some u → ∃ o xs, u = .frz o (.lst xs) ∧ h.get? b = some o ∧ PlainAt h b xs ∧ (K.lookup b).isNone = true := fun b u e => by
    obtain ⟨hb, hk⟩ := hof_some e
    obtain ⟨xs, p⟩ := hA b hb
    obtain ⟨o, e1, e2⟩ := hof_at hb hk p
    rw [e] at e2
    cases e2
    exact ⟨o, xs, rfl, e1, p, hk⟩
  refine ⟨fun b => ?_, fun b u e => ?_, fun b n => ?_, fun b n => ?_⟩
  · cases e : Hof K h as b with
    | none => exact .inl rfl
    | some u =>
      obtain ⟨o, xs, rfl, _⟩ := sm b u e
      exact .inr ⟨o, xs, rfl⟩
  · obtain ⟨o, xs, rfl, e1, ⟨hz, its, e2, r⟩, _⟩ := sm b u e
    rw [e2] at e1
    cases e1
    exact ⟨e2, hz, its, _, r, e2⟩
  · cases e : Hof K h as b with
    | none => exact absurd e n
    | some u =>
      obtain ⟨o, xs, rfl, _, ⟨_, its, e2, _⟩, _⟩ := sm b u e
      exact ⟨_, its.toArray, _, e2, rfl⟩
  · cases e : Hof K h as b with
    | none => exact absurd e n
    | some u =>
      obtain ⟨o, xs, rfl, _, _, hk⟩ := sm b u e
      exact Option.isNone_iff_eq_none.mp hk
end

theorem spec_call {P : Program} {w : World} {K : PySem.W.Frag} {mg mb : Str → Option Value} {k : Nat} {fa : Addr} {fd : FuncData} {x : Str} {sp : Sp} {s₁ : Shared} {H : Hp} {v : V} {u : Value} {Q : VK}
    (KX : K.In s₁.heap) (hns : s₁.heap.Ns mainGlobals mg) (hb : s₁.heap.Ns builtinsNs mb) (hbb : ∀ x : Str, x ≠ "__name__" → mb x = bootBuiltins x) (hlim : s₁.heap.NoLimit) (hg : s₁.gens = #[])
    (hH : HofOk P w K s₁.heap H) (hr : Room k callerA) (F : ∀ base : Heap, K.In base → base.Ns mainGlobals mg → FnOk P w K mg base CX0 k fa fd [x] sp) (hbind : ∀ (s : Shared) (u : Value), K.In s.heap → BindsTo s fd ⟨[u], []⟩ [(x, u)])
    (ru : RelV v u) (hsp : sp [v] H Q E0) :
    codeAny (model P w) callerA (.call (.ref fa) ⟨[u], []⟩) (fun r s' => ∃ u' v' H', r = .ok (.ret u') ∧ RelV v' u' ∧ HOk P w H' s'.heap ∧ Q v' H' ∧ OldK s₁.heap s'.heap ∧ s'.os = s₁.os ∧ AllBare s'.gens) s₁ := by
  have base_of : ∀ {b : Addr} {o : Obj}, s₁.heap.get? b = some o → H b = none → (hidT s₁.heap H).get? b = some o := fun e n => hidT_get e n
  have noA : ∀ {b : Addr} {o : Obj} {es : Array DictEntry} {ep : Nat}, s₁.heap.get? b = some o → o.data = .dict es ep → H b = none := fun {b o es ep} e d => by
    cases q : H b with
    | none => rfl
    | some z =>
      obtain ⟨o', its, n, e', d'⟩ := hH.seq b (by rw [q]; simp)
      rw [e] at e'
      cases e'
      rw [d] at d'
      cases d'
  have nsK : ∀ {b : Addr} {m : Str → Option Value}, s₁.heap.Ns b m → (hidT s₁.heap H).Ns b m := fun {b m} ⟨o, es, ep, e, d, r⟩ => ⟨o, es, ep, base_of e (noA e d), d, r⟩
  have hKb : K.In (hidT s₁.heap H) := fun b o e => base_of (KX b o e) (by
    cases q : H b with
    | none => rfl
    | some z =>
      rw [hH.out b (by rw [q]; simp)] at e
      cases e)
  have hM : Mod K mg (hidT s₁.heap H) := ⟨hKb, nsK hns, ⟨mb, nsK hb, hbb⟩, let ⟨mc, h1, h2⟩ := hlim; ⟨mc, nsK h1, h2⟩⟩
  have e0 : Env0 P w K mg (hidT s₁.heap H) callerA [] s₁ H := ⟨rfl, hM, fun b o e => of_hidT e, Nat.le_of_eq (hidT_size _ _), trivial, fun b hb => absurd (show b ∈ ([] : List Addr) from hb) (by simp), hH.hok, .of_eq hg⟩
  refine codeAny_mono ((F _ hKb (nsK hns)).run callerA [] s₁ H ⟨[u], []⟩ [u] [v] _ _ hr e0 (hbind s₁ u KX) (.cons ru .nil) hsp) fun r s' h => ?_
  cases r with
  | error e => exact False.elim h
  | ok fl =>
    cases fl with
    | next => exact False.elim h
    | brk => exact False.elim h
    | cont => exact False.elim h
    | ret u' =>
      obtain ⟨v', H', os, bare, un, hok', r', q⟩ := h
      refine ⟨u', v', H', rfl, r', hok', q, OldK.of_keep fun b o e => ?_, os, bare⟩
      cases q : H b with
      | none => exact un.keep b o e q (by intro z; exact absurd (show b ∈ ([] : List Addr) from z) (by simp)) (by simp)
      | some z =>
        rcases hH.only b with y | ⟨ob, xs, y⟩
        · rw [q] at y; cases y
        · have z2 := un.frzs b ob _ y
          obtain ⟨e1, _⟩ := hH.hok b _ y
          obtain ⟨e2, _⟩ := hok' b _ z2
          rw [e] at e1; cases e1
          exact e2

theorem reads_zs {h : Heap} : ∀ {ns : List Int} {us : List Value}, Vals (zs ns) us → ∃ as, ReadsAll h us (ns.map PyData.int) as
  | [], _, r => by
    cases r
    exact ⟨_, ReadsAll.nil⟩
  | n :: ns, _, r => by
    cases r with
    | cons r1 r2 =>
      obtain ⟨t, rfl⟩ := r1
      obtain ⟨as, q⟩ := reads_zs r2
      exact ⟨_, ReadsAll.cons (Reads.int n t) q⟩

/-- the goal that k_headS leaves (case hc), from the def's promise -/
theorem walk_os {r : PySem.W.OpenSpec} {k : Nat} {q : Program} {loose : List Str} {XP : (Str → Option Value) → Heap → Prop} {YP : World → Heap → Prop} {d : DefRec} {K : Params → PySem.W.Frag} {sp : PySem.W.Frag → Sp} {x : Str}
    (hdf : d.params.defaults = []) (hr : Room k callerA) (hY : ∀ (w : World) (h : Heap), YP w h → (K w.params).In h)
    (F : ∀ (w : World) (mg : Str → Option Value) (fa : Addr) (h : Heap), (K w.params).In h → h.Ns mainGlobals mg → mg d.name = some (.ref fa) →
      ∃ fd : FuncData, (∀ (s : Shared) (u : Value), (K w.params).In s.heap → BindsTo s fd ⟨[u], []⟩ [(x, u)]) ∧
        ∀ base : Heap, (K w.params).In base → base.Ns mainGlobals mg → FnOk r.prog w (K w.params) mg base CX0 k fa fd [x] (sp (K w.params)))
    (S : ∀ (w : World) (h : Heap) (args : List PySem.W.WData) (vals : List Value), r.pre args = true → PySem.W.WellAll w.params h vals args → (K w.params).In h →
      ∃ (v : V) (u : Value) (H : Hp), vals = [u] ∧ RelV v u ∧ HofOk r.prog w (K w.params) h H ∧
        sp (K w.params) [v] H (fun v' H' => ∃ (p : Addr) (ns : List Int), v' = .ref p ∧ H' p = some (.lst (zs ns)) ∧ r.post args (.list (ns.map PySem.W.WData.int)) = true) E0) :
    PySem.W.WalkOS q loose XP YP r d [] (fun f vs => PySem.call f vs) := by
  intro w s₀ s₁ mg mb G Y fa o pm cd doc dV kV ho hd hcd hD hmg hg args vals as hpre hlay hrd hwl hlo
  have KX := hY w _ Y
  obtain ⟨fd, hb, hF⟩ := F w mg fa _ KX G.T.g hmg
  obtain ⟨v, u, H, rfl, ru, hH, hs⟩ := S w s₁.heap args vals hpre hwl KX
  refine PySem.W.enter_call (codeAny_mono (spec_call KX G.T.g G.T.b G.T.builtins G.T.nolimit hg hH hr hF hb ru hs) fun res s' hq => ?_)
  obtain ⟨u', v', H', rfl, r', hok', ⟨p, ns, rfl, hp, post⟩, h2, h3, h4⟩ := hq
  obtain rfl : u' = Value.ref p := r'
  obtain ⟨hz, its, n, rv, e⟩ := hok' p _ hp
  obtain ⟨bs, hr2⟩ := reads_zs (h := s'.heap) rv
  have hr3 : Reads s'.heap (.ref p) (.list (ns.map PyData.int)) _ := Reads.list e rfl (by show Data.seq its.toArray n = Data.seq its.toArray n; rfl) hr2
  refine ⟨.inl ⟨_, _, _, rfl, PySem.W.osNone, PySem.W.readsW_of_reads hr3, ?_, fun z => absurd z Bool.false_ne_true⟩, h2, h3, h4⟩
  refine PySem.W.osPost ?_
  rw [PySem.W.os_list rfl]
  exact post
end L2

set_option Elab.async false
set_option linter.all false
set_option maxRecDepth 100000
set_option maxHeartbeats 1000000
namespace L2
open PySem PySem.Spec PyProof.Rows
/-! ### enumerate(list, start=k) -/
section
variable {prog : Program} {w : World} {A : Around} {E : Value → Shared → Prop} {s : Shared}
/-- the list's draws, numbered from k on -/
theorem drawsFrom (k : Nat) (hh : A.handled = none) (it l : Addr) (hne : l ≠ it) (items : Array Value) :
    Draws prog w A it [it, l] (k + items.size) (fun i v => ∃ j, i = k + j ∧ items[j]? = some v) (fun i h => ∃ j, i = k + j ∧ h.IsListIter it l j ∧ h.IsList l items) where
  live := fun _ _ ⟨_, _, st, _⟩ => let ⟨o, ho, _⟩ := st; ⟨o, ho⟩
  frame := fun _ _ _ ⟨j, e, st, hl⟩ hk => ⟨j, e, st.at fun o z => hk it (by simp) o z, hl.at fun o z => hk l (by simp) o z⟩
  item := fun i s Q E hi ⟨j, e, st, hl⟩ hQ => by
    subst e
    have hj : j < items.size := by omega
    refine wpAny_nextOf_list_item st hl (x := items[j]) (by simp [hj]) fun h' hit' hs' => ?_
    exact hQ _ h' s.toks ⟨j, rfl, by simp [hj]⟩ ⟨j + 1, by omega, hit', hl.extBut hs'.extBut hne⟩ hs'
  done := fun s Q E ⟨j, e, st, hl⟩ hE => by
    have hj : j = items.size := by omega
    subst hj
    exact wpAny_nextOf_list_end hh st hl (by simp) hE
end
theorem for_enum {K : PySem.W.Frag} {a : Addr} {xs : List V} {g : TG} {tb : TS} {D : Ends} {σ : St} {H : Hp} (Pv : Nat → St → Hp → Prop) (h0 : Pv 0 σ H) (hl : ∀ i σ H, i ≤ xs.length → Pv i σ H → SqL K H a xs)
    (hs : ∀ (i : Nat) x T σ H, xs[i]? = some x → Pv i σ H → H T = none → g (.ref T) σ (upd H T (.tup [.int (i : Nat), x])) fun σ2 H2 => tb { D with nx := Pv (i + 1), ct := Pv (i + 1), bk := D.nx } σ2 H2) (hd : ∀ σ H, Pv xs.length σ H → D.nx σ H) :
    ∃ W : Nat → Nat → St → Hp → Prop, (∃ m, W 0 m σ H) ∧ ∀ i m σ H, W i m σ H →
      ((Ite K a).stop i H ∧ D.nx σ H) ∨ ((Ite K a).go i H ∧ ∃ N : St → Hp → Prop, (∀ σ' H', N σ' H' → ∃ m', m' < m ∧ W (i + 1) m' σ' H') ∧ ∀ x H', (Ite K a).yld i H x H' → g x σ H' fun σ2 H2 => tb { D with nx := N, ct := N, bk := D.nx } σ2 H2) := by
  refine ⟨fun i m σ H => m = xs.length - i ∧ i ≤ xs.length ∧ Pv i σ H, ⟨xs.length, by simp, Nat.zero_le _, h0⟩, ?_⟩
  rintro i m σ H ⟨rfl, hi, p⟩
  have q := hl i σ H hi p
  by_cases hlt : i < xs.length
  · refine .inr ⟨⟨xs, xs[i], q, by simp [hlt]⟩, Pv (i + 1), fun σ' H' p' => ⟨xs.length - (i + 1), by omega, rfl, hlt, p'⟩, fun v H' y => ?_⟩
    obtain ⟨T, x, rfl, hT, rfl, y⟩ := y
    exact hs i x T σ _ (y xs q) p hT
  · have e : i = xs.length := by omega
    subst e
    exact .inl ⟨⟨xs, q, Nat.le_refl _⟩, hd σ H p⟩
/-- the end of the list's draws -/
theorem drawsEnd {prog : Program} {w : World} {A : Around} (hh : A.handled = none) (it l : Addr) (items : Array Value) (j : Nat) (hx : items[j]? = none) :
    Draws prog w A it [it, l] 0 (fun _ _ => False) (fun _ h => h.IsListIter it l j ∧ h.IsList l items) where
  live := fun _ _ ⟨st, _⟩ => let ⟨o, ho, _⟩ := st; ⟨o, ho⟩
  frame := fun _ _ _ ⟨st, hl⟩ hk => ⟨st.at fun o z => hk it (by simp) o z, hl.at fun o z => hk l (by simp) o z⟩
  item := fun i s Q E hi _ _ => absurd hi (Nat.not_lt_zero i)
  done := fun s Q E ⟨st, hl⟩ hE => wpAny_nextOf_list_end hh st hl hx hE
/-- the list at a as it stands at each turn, each item in a new pair behind its number from k on -/
def Ites (K : PySem.W.Frag) (a : Addr) (k : Nat) : It :=
  ⟨fun i H => ∃ (xs : List V) (x : V), SqL K H a xs ∧ xs[i]? = some x, fun i H v H' => ∃ T x, v = .ref T ∧ H T = none ∧ H' = upd H T (.tup [.int ((k + i : Nat) : Int), x]) ∧ ∀ xs, SqL K H a xs → xs[i]? = some x, fun i H => ∃ xs : List V, SqL K H a xs ∧ xs.length ≤ i⟩
theorem turn_enumS {P : Program} {w : World} {K : PySem.W.Frag} {elts : List Expr} {kk : Nat} {tpos : Pos} (a e it : Addr) (k : Nat) :
    Turn P w K (.Tuple elts kk tpos) (Ites K a k) [e, it] e (fun i h => (∃ old, IsEnum h e it ((k + i : Nat) : Int) old) ∧ h.IsListIter it a i ∧ e ≠ it) where
  mem := by simp
  obj := fun i h st b hb => by
    obtain ⟨⟨old, he⟩, ⟨o, ho, hc, hd⟩, _⟩ := st
    have e' : b = e ∨ b = it := by simpa using hb
    rcases e' with z | z
    · rw [z]; exact ⟨_, he, fun v q => nomatch q⟩
    · rw [z]; exact ⟨o, ho, fun v q => by rw [hd] at q; cases q⟩
  keep := fun i h h' st kp => let ⟨⟨old, he⟩, hi, hne⟩ := st; ⟨⟨old, kp e (by simp) _ he⟩, hi.at fun o q => kp it (by simp) o q, hne⟩
  item := by
    intro X hP hw hK hc i pins s σ H E I hf st hg
    subst hP hw hK
    obtain ⟨⟨old, he⟩, hit, hne⟩ := st
    obtain ⟨xs, x, hq, hx⟩ := hg
    obtain ⟨its, rv, p, hz⟩ := I.list hq
    obtain ⟨u, hu, ru⟩ := rv.get hx
    have hel : e < s.heap.objs.size := Heap.lt_size he
    have hil : it < s.heap.objs.size := by obtain ⟨_, q, _⟩ := hit; exact Heap.lt_size q
    have hli : s.heap.IsList a its.toArray := p.isList
    have hae : e ≠ a := fun z => by
      obtain ⟨o, ho, hc, _⟩ := hli
      rw [← z, he] at ho
      cases ho
      injection hc with hc
      exact absurd hc (by decide)
    have hai : a ≠ it := fun z => by
      obtain ⟨o, ho, hc, _⟩ := hli
      obtain ⟨o', ho', hc', _⟩ := hit
      rw [z, ho'] at ho
      cases ho
      rw [hc'] at hc
      injection hc with hc
      exact absurd hc (by decide)
    have hii : i < its.toArray.size := by
      have := (List.getElem?_eq_some_iff.mp hu).1
      simpa using this
    have hA : X.A.in1.handled = none := I.ok.hd hc
    refine wpAny_pyNext_enum_itemD (drawsFrom k hA it a hai its.toArray) he ⟨i, rfl, hit, hli⟩ (by omega) hne (by simp [hne, hae]) fun y h' tk hy ho hst hT hsz hk => ?_
    obtain ⟨j, ej, hj⟩ := hy
    have ej' : j = i := by omega
    subst ej'
    have ey : y = u := by
      have h2 : its.toArray[j]? = some u := by simpa using hu
      rw [h2] at hj
      exact (Option.some.inj hj).symm
    subst ey
    obtain ⟨j', ej, hit', _⟩ := hst
    have ej2 : j' = j + 1 := by omega
    subst ej2
    refine ⟨_, rfl, wpAny_letOwnedTupleGo_enum (s := { s with heap := h', toks := tk + 1 }) ho fun h'' he' sb => ?_⟩
    have hT2 : h''.get? s.heap.objs.size = some { cls := .type "tuple", data := .seq #[.int ((k + j : Nat) : Int) tk, y] } := (sb.2 _ (Nat.ne_of_gt hel)).trans hT
    have new : ObjOk X.prog X.w (upd H s.heap.objs.size (.tup [.int ((k + j : Nat) : Int), x])) h'' s.heap.objs.size (.tup [.int ((k + j : Nat) : Int), x]) :=
      ⟨by show 2 ≤ sizeLine; decide, [.int ((k + j : Nat) : Int) tk, y], .cons ⟨_, rfl⟩ (.cons ru .nil), ⟨_, hT2, rfl, _, rfl⟩⟩
    have I1 : Inv X pins σ (upd H s.heap.objs.size (.tup [.int ((k + j : Nat) : Int), x])) { s with heap := h'', toks := tk + 1 } :=
      I.turnedNew (ch := [e, it]) (fun b ob hb q => (sb.2 b (fun z => hb (by simp [z]))).trans (hk b ob (fun z => hb (by simp [z])) (fun z => hb (by simp [z])) q)) hf (Nat.le_refl _) new
    refine ⟨.ref s.heap.objs.size, _, I1, rfl, ⟨_, x, rfl, I.hok.fresh (Nat.le_refl _), rfl, fun ys hy => by rw [I.list_inj hy hq]; exact hx⟩, ⟨⟨y, ?_⟩, hit'.at fun o q => (sb.2 it (Ne.symm hne)).trans q, hne⟩, fun b hb => ?_⟩
    · have e1 : ((k + (j + 1) : Nat) : Int) = ((k + j : Nat) : Int) + 1 := by omega
      rw [e1]; exact he'
    · have hb' : b < s.heap.objs.size := by
        have e' : b = e ∨ b = it := by simpa using hb
        rcases e' with z | z
        · rw [z]; exact hel
        · rw [z]; exact hil
      rw [upd_ne (Nat.ne_of_lt hb')]
      exact (hf b hb).1
  done := by
    intro X hP hw hK hc i pins s σ H E I hf st hg
    subst hP hw hK
    obtain ⟨⟨old, he⟩, hit, hne⟩ := st
    obtain ⟨xs, hq, hx⟩ := hg
    obtain ⟨its, rv, p, hz⟩ := I.list hq
    obtain ⟨f0, f1, f2, f3, f4, f5⟩ := hf it (by simp)
    have hl := rv.length
    have hA : X.A.in1.handled = none := I.ok.hd hc
    exact wpAny_pyNext_enum_endD (drawsEnd hA it a its.toArray i (by simp; omega)) he ⟨hit, p.isList⟩ fun h' eb => ⟨rfl, I.turned (t' := s.toks) (fun b o hb q => eb b o hb q) f0 f1 f3 f4 f5⟩
  self := fun A i s Q E st h => let ⟨⟨_, he⟩, _⟩ := st; wpAny_pyIter_enum he h
theorem lc_enumS {K : PySem.W.Frag} {a : Addr} {k : Nat} {xs : List V} {g : TG} {te : TE} {vs : List Nat} {σ : St} {H1 : Hp} {D : Addr} {Qd : Hp → Prop} (Pv : Nat → Hp → Prop) (h0 : Pv 0 (upd H1 D (.lst []))) (hl : ∀ i H, i ≤ xs.length → Pv i H → SqL K H a xs)
    (hs : ∀ (i : Nat) x H T, xs[i]? = some x → Pv i H → H T = none → g (.ref T) (wipe σ vs) (upd H T (.tup [.int ((k + i : Nat) : Int), x])) fun σ2 H2 => wipe σ2 vs = wipe σ vs ∧ te σ2 H2 fun y H4 => ∃ acc, H4 D = some (.lst acc) ∧ acc.length < sizeLine ∧ Pv (i + 1) (upd H4 D (.lst (acc ++ [y]))))
    (hd : ∀ H, Pv xs.length H → Qd H) :
    ∃ W : Nat → Nat → Hp → Prop, (∃ m, W 0 m (upd H1 D (.lst []))) ∧ ∀ i m H, W i m H →
      ((Ites K a k).stop i H ∧ Qd H) ∨ ((Ites K a k).go i H ∧ ∃ Nx : Hp → Prop, (∀ H', Nx H' → ∃ m', m' < m ∧ W (i + 1) m' H') ∧ ∀ x H', (Ites K a k).yld i H x H' → g x (wipe σ vs) H' fun σ2 H2 => wipe σ2 vs = wipe σ vs ∧ tYes σ2 H2 fun b H3 =>
        if b = true then te σ2 H3 fun y H4 => ∃ acc, H4 D = some (.lst acc) ∧ acc.length < sizeLine ∧ Nx (upd H4 D (.lst (acc ++ [y]))) else Nx H3) := by
  refine ⟨fun i m H => m = xs.length - i ∧ i ≤ xs.length ∧ Pv i H, ⟨xs.length, by simp, Nat.zero_le _, h0⟩, ?_⟩
  rintro i m H ⟨rfl, hi, p⟩
  have q := hl i H hi p
  by_cases hlt : i < xs.length
  · refine .inr ⟨⟨xs, xs[i], q, by simp [hlt]⟩, Pv (i + 1), fun H' p' => ⟨xs.length - (i + 1), by omega, rfl, hlt, p'⟩, fun v H' y => ?_⟩
    obtain ⟨T, x, rfl, hT, rfl, y⟩ := y
    exact hs i x _ T (y xs q) p hT
  · have e : i = xs.length := by omega
    subst e
    exact .inl ⟨⟨xs, q, Nat.le_refl _⟩, hd H p⟩
/-! the call enumerate(l, start=k) -/
theorem tc_enumS (a b : Value) : checkTypeCall "enumerate" ⟨[a], [("start", b)]⟩ = pure () := by kernel_rfl
theorem nc_enumS (a b : Value) : checkBuiltinCall "enumerate.__new__" ⟨[.type "enumerate", a], [("start", b)]⟩ = pure () := by kernel_rfl
theorem ok_initS (obj a b : Value) : argsOk "object.__init__" ⟨[obj, a], [("start", b)]⟩ := by
  first | exact fun h => h | kernel_rfl | trivial
set_option maxHeartbeats 4000000 in
theorem meets_enumS (l : Addr) (items : Array Value) (n : Nat) (dct : Option Addr) (sl : Array (Option Value)) (k : Int) (t : Tok) (hk : Builtin.SmallTypes.fitsIndex k = true) :
    Meets (Builtin.«enumerate.__new__» ⟨[.type "enumerate", .ref l], [("start", .int k t)]⟩) (fun _ R s => s.heap.get? l = some { cls := .type "list", dict := dct, data := .seq items n, slots := sl } ∧
      R (.ok (.ret (.ref (s.heap.push { cls := .type "list_iterator", data := .fields #[.ref l, .int 0 0] }).objs.size)))
        { s with heap := (s.heap.push { cls := .type "list_iterator", data := .fields #[.ref l, .int 0 0] }).push { cls := .type "enumerate", data := .fields #[.none, .bool false, .ref s.heap.objs.size, rawInt k, .none, .none] } }) :=
  .of_wp fun prog w A R s h => by
    obtain ⟨hp, g, d, tk, os⟩ := s
    obtain ⟨hl, h⟩ := h
    have hsub := sub_enumerate
    have hL : Heap.IsList (Shared.heap ⟨hp, g, d, tk, os⟩) l items := ⟨_, hl, rfl, n, rfl⟩
    wp_walk using AutoSeq1.wpAny_loadPart' hl
    refine wpAny_stack_any fun st => wpAny_pure ?_
    split
    · rename_i c _ _ _ _ _
      cases (c == Value.type "enumerate") <;> (wp_walk using AutoSeq1.wpAny_loadPart' hl, wpAny_pyIter_list hL; exact ⟨_, rfl, h⟩)
    · wp_walk using AutoSeq1.wpAny_loadPart' hl, wpAny_pyIter_list hL
      exact ⟨_, rfl, h⟩
section
variable {prog : Program} {w : World} {A : Around} {E : Value → Shared → Prop} {s : Shared}
theorem initS_meets {self a b : Value} :
    Meets (Builtin.«object.__init__» ⟨[self, a], [("start", b)]⟩) (fun _ R s => s.TypeIs self "enumerate" ∧ R (.ok (.ret .none)) s) := by
  refine Meets.of_wp fun prog w A R s hs => ?_
  obtain ⟨hT, hq⟩ := hs
  have hl := F.slot_enumerate_init.lookup
  have hm := F.called_enumerate.made
  have hne : (some "enumerate.__new__" != some "object.__new__") = true := by decide
  repeat (any_goals (first | assumption | wp_step))
  exact ⟨_, rfl, hq⟩
set_option maxHeartbeats 4000000 in
theorem call_enumS {l : Addr} {items : Array Value} {k : Int} {t : Tok} {Q : Value → Shared → Prop} (hk : Builtin.SmallTypes.fitsIndex k = true) (hL : s.heap.IsList l items)
    (h : ∀ h', IsEnum h' (s.heap.objs.size + 1) s.heap.objs.size k .none → h'.IsListIter s.heap.objs.size l 0 → h'.objs.size = s.heap.objs.size + 2 →
      (∀ b o, s.heap.get? b = some o → h'.get? b = some o) → Q (.ref (s.heap.objs.size + 1)) { s with heap := h' }) :
    wpAny (model prog w) A (call (.type "enumerate") [.ref l] [("start", .int k t)]) Q E s := by
  obtain ⟨⟨c, dct, dt, sl⟩, hl, hc, n, hd⟩ := hL
  replace hc : c = .type "list" := hc
  replace hd : dt = .seq items n := hd
  subst hc hd
  have ft := F.called_enumerate
  obtain ⟨c, tl, hmro⟩ := ft.mro
  have hmade := ft.made
  have hsub := ft.sub
  have hct := tc_enumS (.ref l) (.int k t)
  have hcn := nc_enumS (.ref l) (.int k t)
  refine wpAny_call (codeAny_of_tree ?_)
  show wpAny _ _ (callAny (.type "enumerate") _) _ _ _
  refine wpAny_pure ⟨Code.quiet_builtin _ (by decide +kernel), ?_⟩
  refine codeAny_builtin F.entry_type_call ?_
  rw [Around.under_plain (weight_type_call_type "enumerate" [.ref l] [("start", .int k t)]) (units_type_call_type "enumerate" [.ref l] [("start", .int k t)])]
  have h1 := ft.notType
  have h2 := ft.canCreate
  repeat (any_goals (first | assumption | wp_step))
  have hz : (s.heap.push { cls := .type "list_iterator", data := .fields #[.ref l, .int 0 0] }).objs.size = s.heap.objs.size + 1 := Heap.size_push ..
  refine codeAny_mono (codeAny_call_builtin ft.plain F.entry_enumerate_new (wpAny_of_eq hcn (meets_enumS l items n dct sl k t hk prog w A.in1 (wants (fun obj s₁ => s₁.TypeIs obj "enumerate" ∧ Q obj s₁) E) s ⟨hl, ?_⟩))) fun r s₁ hr => ?_
  · show _ ∧ _
    rw [hz]
    have he : IsEnum ((s.heap.push { cls := .type "list_iterator", data := .fields #[.ref l, .int 0 0] }).push
        { cls := .type "enumerate", data := .fields #[.none, .bool false, .ref s.heap.objs.size, rawInt k, .none, .none] }) (s.heap.objs.size + 1) s.heap.objs.size k .none := by
      have := Heap.get?_push_size (s.heap.push { cls := .type "list_iterator", data := .fields #[.ref l, .int 0 0] })
        (o := { cls := .type "enumerate", data := .fields #[.none, .bool false, .ref s.heap.objs.size, rawInt k, .none, .none] }) rfl
      rw [hz] at this; exact this
    exact ⟨⟨_, he, rfl⟩, h _ he ⟨_, Heap.get?_push_of_some _ (Heap.get?_push_size _ rfl), rfl, rfl⟩ (by rw [Heap.size_push, hz]) fun b o x => Heap.get?_push_of_some _ (Heap.get?_push_of_some _ x)⟩
  · cases r with
    | error e => exact hr
    | ok fl =>
      cases fl with
      | ret obj =>
        obtain ⟨hT, hq⟩ := hr
        have hli := ft.init.lookup
        have hbi := ft.init.bind obj
        repeat (any_goals (first | assumption | wp_step))
        refine codeAny_mono (codeAny_call_builtin ft.init.plain F.entry_object_init (ft.init.check _ _ _ _ _ _ _ _ hT (ok_initS obj _ _) (initS_meets prog w A.in1 (wants (fun r s₂ => r = .none ∧ Q obj s₂) E) s₁ ⟨hT, rfl, hq⟩))) fun r₂ s₂ hr₂ => ?_
        cases r₂ with
        | error e => exact hr₂
        | ok fl₂ =>
          cases fl₂ with
          | ret r =>
            obtain ⟨rfl, hq⟩ := hr₂
            repeat (any_goals (first | assumption | wp_step))
          | _ => exact hr₂.elim
      | _ => exact hr.elim
/-- T(e, .., k = v), T a built-in type -/
theorem callWith_typeK {env : Env} {pos : Pos} {T : String} {e : Expr} {rest : List Expr} {kws : List Keyword} {Q : Value → Shared → Prop}
    (h : wpAny (model prog w) A (spliced (backTo pos (starEach (e :: rest) env))) (fun vs s₁ => wpAny (model prog w) A (evalAll ((backToKw pos (keywordEach kws env)).map (·.2)))
      (fun kvs s₂ => wpAny (model prog w) A (call (.type T) vs (((backToKw pos (keywordEach kws env)).filterMap (·.1)).zip kvs)) Q E s₂) E s₁) E s)
    (he : backTo pos (starEach (e :: rest) env) = (false, eval e env) :: backTo pos (starEach rest env) := by rfl)
    (hplain : (backTo pos (starEach (e :: rest) env)).any (·.1) = false := by rfl) (hall : (backToKw pos (keywordEach kws env)).all (·.1.isSome) = true := by rfl)
    (hkw : (backToKw pos (keywordEach kws env)).any (·.1.isNone) = false := by rfl) :
    wpAny (model prog w) A (callWith pos (.type T) [] (backTo pos (starEach (e :: rest) env)) (backToKw pos (keywordEach kws env))) Q E s := by
  have key : wpAny (model prog w) A (evalArgs (.type T) true (backTo pos (starEach (e :: rest) env)) (backToKw pos (keywordEach kws env))) (fun a s₁ => wpAny (model prog w) A (call (.type T) ([] ++ a.pos) a.kw) Q E s₁) E s := by
    rw [he] at h ⊢
    exact evalArgs_kwB hall h
  unfold callWith
  refine wpAny_bind (wpAny_holding (wpAny_mono key (fun a s₁ h₁ => wpAny_bind (wpAny_standAt ?_)) fun _ _ x => x))
  simp only [hplain, hkw, Bool.or_false]
  refine wpAny_bind (wpAny_pure (wpAny_bind (wpAny_mono h₁ (fun r s₂ hr => ?_) fun _ _ x => x)))
  exact wpAny_bind (wpAny_holding (wpAny_point (wpAny_pure hr)))
end
def iEnumS (K : PySem.W.Frag) (ta tk : TA) : TI := fun σ H R => ta σ H fun vs H1 => tk σ H1 fun ks H2 => ∃ (a : Addr) (xs : List V) (k : Nat), vs = [.ref a] ∧ ks = [.int (k : Int)] ∧ k < 2 ^ 62 ∧ SqL K H2 a xs ∧ R (Ites K a k) H2
theorem pi_enumS {X : Cx} {e v : Expr} {ta tk : TA} {p pos tpos kpos : Pos} {elts : List Expr} {kk : Nat} (hg : Gl X "enumerate") (hm : X.mg "enumerate" = none) (ha : PA X [e] ta) (hv : PK X [⟨some "start", v, kpos⟩] tk)
    (he : backTo pos (starEach [e] X.env) = (false, eval e X.env) :: backTo pos (starEach [] X.env) := by rfl) (hpl : (backTo pos (starEach [e] X.env)).any (·.1) = false := by rfl) :
    PI X (.Tuple elts kk tpos) (.Call (.Name "enumerate" p) [e] [⟨some "start", v, kpos⟩] pos) (iEnumS X.K ta tk) := by
  intro pins s σ H R I h
  refine wpAny_Call_Name_kw (ld_blt I hg hm boot_enumerate (callWith_typeK (thn (ha pos pins s σ H _ I h) fun us s1 ⟨vs, H1, I1, r1, q1⟩ => ?_) he hpl))
  refine thn (hv pos pins s1 σ H1 _ I1 q1) fun ws s2 ⟨ks, H2, I2, r2, q2⟩ => ?_
  obtain ⟨a, xs, k, rfl, rfl, hk, hq, q⟩ := q2
  cases r1 with
  | cons r rr =>
    cases rr
    cases r
    cases r2 with
    | cons z zz =>
      cases zz
      obtain ⟨t, rfl⟩ := z
      obtain ⟨its, rv, p', hz⟩ := I2.list hq
      have fk : Builtin.SmallTypes.fitsIndex (k : Int) = true := by
        unfold Builtin.SmallTypes.fitsIndex
        simp only [Bool.and_eq_true, decide_eq_true_eq]
        omega
      refine call_enumS fk p'.isList fun h' he hit hsz hk => wpAny_pyIter_enum he ?_
      have I3 : Inv X pins σ H2 { s2 with heap := h' } := I2.kept (t' := s2.toks) hk
      refine ⟨s2.heap.objs.size + 1, [s2.heap.objs.size + 1, s2.heap.objs.size], _, _, H2, rfl, I3, turn_enumS a (s2.heap.objs.size + 1) s2.heap.objs.size k, ⟨⟨.none, he⟩, hit, Nat.succ_ne_self _⟩, fun b hb => ?_, q⟩
      have e' : b = s2.heap.objs.size + 1 ∨ b = s2.heap.objs.size := by simpa using hb
      have hle : s2.heap.objs.size ≤ b := by
        rcases e' with z | z
        · rw [z]; exact Nat.le_add_right _ _
        · rw [z]; exact Nat.le_refl _
      exact I2.fpOk hle (I2.hok.fresh hle)
end L2

set_option Elab.async false
set_option linter.all false
set_option maxRecDepth 100000
set_option maxHeartbeats 1000000
namespace L2
open PySem PySem.Spec PyProof.Rows
/-! ### the def that is called, whatever the ground -/
def DoesAll (P : Program) (w : World) (K : PySem.W.Frag) (mg : Str → Option Value) (k : Nat) (x : Str) (ps : List Str) (sp : Sp) : Prop :=
  ∃ (f : Addr) (fd : FuncData), mg x = some (.ref f) ∧ Binds K fd ps [] ∧ ∀ base : Heap, FnOk P w K mg base CX0 k f fd ps sp
theorem Def.all {P : Program} {w : World} {K : PySem.W.Frag} {mg : Str → Option Value} {x : Str} {st : Stmt} {N ps : List Str} {k : Nat} {sp : Sp} (F : Def K mg x st ps) (S : FnScope N ps (defScope st)) (len : ∀ vs H Q E, sp vs H Q E → vs.length = ps.length)
    (hbody : ∀ (base : Heap) (f : Addr) (cdv : Value) (A : Around) (outer : List Env) (s : Shared) (H : Hp) (vs : List V) (Q : VK) (E : XK), Room k (A.deeper (envOfC x (defScope st) s.heap.objs.size f cdv)) → sp vs H Q E →
      ∃ t, PSs (cxOf CX0 P w K mg base N x (defScope st) f cdv A outer s H E).nox (defBody st) t ∧ t { nx := fun _ H' => Q .non H', rt := Q } (start N vs) H) : DoesAll P w K mg (k + 1) x ps sp := by
  obtain ⟨f, fd, F, hm, hb⟩ := F
  exact ⟨f, fd, hm, hb, fun base => F.ok S len (fun cdv A outer s H vs Q E hr h => hbody base f cdv A outer s H vs Q E hr h)⟩
/-- what walk_os asks of the def, of one parameter -/
theorem DoesAll.one {P : Program} {w : World} {K : PySem.W.Frag} {mg : Str → Option Value} {k : Nat} {x y : Str} {sp : Sp} {fa : Addr} (D : DoesAll P w K mg k x [y] sp) (h : mg x = some (.ref fa)) :
    ∃ fd : FuncData, (∀ (s : Shared) (u : Value), K.In s.heap → BindsTo s fd ⟨[u], []⟩ [(y, u)]) ∧ ∀ base : Heap, K.In base → base.Ns mainGlobals mg → FnOk P w K mg base CX0 k fa fd [y] sp := by
  obtain ⟨f, fd, hm, hb, F⟩ := D
  rw [hm] at h
  cases h
  exact ⟨fd, fun s u hk => hb s [u] hk rfl, fun base _ _ => F base⟩

/-! ### lists that are handed in -/
theorem well_ints {P : Params} {h : Heap} : ∀ {ns : List Int} {vs : List Value}, PySem.W.WellAll P h vs (ns.map PySem.W.WData.int) → Vals (zs ns) vs
  | [], _, w => by
    cases w
    exact .nil
  | n :: ns, _, w => by
    cases w with
    | cons w1 w2 =>
      cases w1
      exact .cons ⟨_, rfl⟩ (well_ints w2)
theorem well_list {P : Params} {h : Heap} {ns : List Int} {v : Value} (w : PySem.W.Well P h v (.list (ns.map PySem.W.WData.int))) (hz : ns.length ≤ 100000) : ∃ a, v = .ref a ∧ PlainAt h a (zs ns) := by
  cases w with
  | list e w => exact ⟨_, rfl, by rw [List.length_map, sizeLine_eq]; omega, _, e, well_ints w⟩
end L2

set_option Elab.async false
set_option linter.all false
namespace Hb
open RgBoard

def toI (l : Bytes) : List Int := l.map fun (c : UInt8) => ((c.toNat : Nat) : Int)
theorem toI_nil : toI [] = [] := rfl
theorem toI_cons (c : UInt8) (l : Bytes) : toI (c :: l) = (c.toNat : Int) :: toI l := rfl
theorem toI_append (a b : Bytes) : toI (a ++ b) = toI a ++ toI b := by simp [toI]
theorem toI_length (a : Bytes) : (toI a).length = a.length := by simp [toI]
theorem toI_inj : ∀ {a b : Bytes}, toI a = toI b → a = b
  | [], [], _ => rfl
  | [], _ :: _, h => by simp [toI] at h
  | _ :: _, [], h => by simp [toI] at h
  | x :: a, y :: b, h => by
    rw [toI_cons, toI_cons] at h
    injection h with h1 h2
    have : x = y := UInt8.toNat_inj.mp (Int.ofNat.inj h1)
    rw [this, toI_inj h2]

/-! ### worths and signs -/
theorem le_nat {a b : UInt8} : a ≤ b ↔ a.toNat ≤ b.toNat := UInt8.le_iff_toNat_le
theorem worth_some {c : UInt8} {k : Nat} (h : worth c = some k) :
    (c.toNat = 32 ∧ k = 0) ∨ ((97 ≤ c.toNat ∧ c.toNat ≤ 122) ∧ k = c.toNat - 96) ∨ ((48 ≤ c.toNat ∧ c.toNat ≤ 57) ∧ k = c.toNat - 21) := by
  unfold worth at h
  split at h
  · rename_i e; subst e; left; exact ⟨rfl, (Option.some.inj h).symm⟩
  · split at h
    · rename_i e
      have e1 : 97 ≤ c.toNat := le_nat.mp e.1
      have e2 : c.toNat ≤ 122 := le_nat.mp e.2
      right; left; exact ⟨⟨e1, e2⟩, (Option.some.inj h).symm⟩
    · split at h
      · rename_i e
        have e1 : 48 ≤ c.toNat := le_nat.mp e.1
        have e2 : c.toNat ≤ 57 := le_nat.mp e.2
        right; right; exact ⟨⟨e1, e2⟩, (Option.some.inj h).symm⟩
      · cases h
theorem worth_le {c : UInt8} {k : Nat} (h : worth c = some k) : k ≤ 36 := by
  rcases worth_some h with h | h | h <;> omega
theorem isSign_iff {c : UInt8} : isSign c = true ↔ (c.toNat = 32 ∨ (97 ≤ c.toNat ∧ c.toNat ≤ 122) ∨ (48 ≤ c.toNat ∧ c.toNat ≤ 57)) := by
  constructor
  · intro h
    unfold isSign at h
    obtain ⟨k, hk⟩ := Option.isSome_iff_exists.mp h
    rcases worth_some hk with h | h | h
    · exact .inl h.1
    · exact .inr (.inl h.1)
    · exact .inr (.inr h.1)
  · intro h
    unfold isSign worth
    by_cases h0 : c = 32
    · rw [if_pos h0]; rfl
    · rw [if_neg h0]
      have n0 : c.toNat ≠ 32 := fun e => h0 (UInt8.toNat_inj.mp e)
      by_cases h1 : 97 ≤ c ∧ c ≤ 122
      · rw [if_pos h1]; rfl
      · rw [if_neg h1]
        have n1 : ¬ (97 ≤ c.toNat ∧ c.toNat ≤ 122) := fun e => h1 ⟨le_nat.mpr e.1, le_nat.mpr e.2⟩
        have n2 : 48 ≤ c ∧ c ≤ 57 := by
          rcases h with h | h | h
          · exact absurd h n0
          · exact absurd h n1
          · exact ⟨le_nat.mpr h.1, le_nat.mpr h.2⟩
        rw [if_pos n2]; rfl
theorem worth_of_sign {c : UInt8} (h : isSign c = true) : ∃ k, worth c = some k := Option.isSome_iff_exists.mp h
theorem signOf_toNat : ∀ n : Nat, n ≤ 36 → (signOf n).toNat = if n = 0 then 32 else if n ≤ 26 then n + 96 else n + 21 := by decide
/-! ### the check sign -/
theorem inv37 : ∀ m : Nat, m ≤ 36 → 1 ≤ m → ∃ i, i ≤ 36 ∧ m * i % 37 = 1 := by decide
theorem fit_ex (s m : Nat) (h1 : 1 ≤ m) (h2 : m ≤ 36) : ∃ v, v ≤ 36 ∧ (s + m * v) % 37 = 0 := by
  obtain ⟨i, _, hi⟩ := inv37 m h2 h1
  refine ⟨i * (37 - s % 37) % 37, by omega, ?_⟩
  have e1 : m * (i * (37 - s % 37) % 37) % 37 = m * i * (37 - s % 37) % 37 := by rw [Nat.mul_mod, Nat.mod_mod, ← Nat.mul_mod, Nat.mul_assoc]
  have e2 : m * i * (37 - s % 37) % 37 = (37 - s % 37) % 37 := by rw [Nat.mul_mod, hi, Nat.one_mul, Nat.mod_mod]
  rw [Nat.add_mod, e1, e2]
  omega
def fits (l : Bytes) (v : Nat) : Bool := (sumFrom 1 l + (l.length + 1) * v) % PRIME == 0
/-! ### digits -/
def dig (n : Nat) : List Int := (Nat.toDigits 10 n).map fun (c : Char) => ((c.toNat : Nat) : Int)
theorem digits_ok (n : Nat) : ∀ c ∈ Nat.toDigits 10 n, 48 ≤ c.toNat ∧ c.toNat ≤ 57 := by
  intro c hc
  have h := Nat.isDigit_of_mem_toDigits (by decide) (by decide) hc
  simp only [Char.isDigit, Bool.and_eq_true, decide_eq_true_eq] at h
  obtain ⟨h1, h2⟩ := h
  have e1 : (48 : UInt32).toNat ≤ c.val.toNat := UInt32.le_iff_toNat_le.mp h1
  have e2 : c.val.toNat ≤ (57 : UInt32).toNat := UInt32.le_iff_toNat_le.mp h2
  exact ⟨e1, e2⟩
theorem toI_ofChars : ∀ (l : List Char), (∀ c ∈ l, c.toNat < 256) → toI (l.map fun (c : Char) => UInt8.ofNat c.toNat) = l.map fun (c : Char) => ((c.toNat : Nat) : Int)
  | [], _ => rfl
  | c :: r, h => by
    rw [List.map_cons, toI_cons, toI_ofChars r fun x hx => h x (List.mem_cons_of_mem _ hx), List.map_cons]
    have : (UInt8.ofNat c.toNat).toNat = c.toNat := by rw [UInt8.toNat_ofNat']; exact Nat.mod_eq_of_lt (h c List.mem_cons_self)
    rw [this]
theorem toI_decimal (n : Nat) : toI (decimal n) = dig n := toI_ofChars _ fun c hc => by have := digits_ok n c hc; omega
theorem decimal_sign (n : Nat) : (decimal n).all isSign = true := by
  unfold decimal
  rw [List.all_map, List.all_eq_true]
  intro c hc
  have h := digits_ok n c hc
  show isSign (UInt8.ofNat c.toNat) = true
  rw [isSign_iff]
  have : (UInt8.ofNat c.toNat).toNat = c.toNat := by rw [UInt8.toNat_ofNat']; exact Nat.mod_eq_of_lt (by omega)
  omega
theorem decimal_len (n k : Nat) (hk : 0 < k) (h : n < 10 ^ k) : (decimal n).length ≤ k := by
  unfold decimal
  rw [List.length_map]
  exact (Nat.length_toDigits_le_iff (by decide) hk).mpr h
theorem decimal_pos (n : Nat) : 1 ≤ (decimal n).length := by
  unfold decimal
  rw [List.length_map]
  exact Nat.length_toDigits_pos
theorem dig_length (n : Nat) : (dig n).length = (decimal n).length := by simp [dig, decimal]

end Hb

set_option Elab.async false
set_option linter.all false
namespace Hb
open RgBoard

/-! ### weighted sums -/
def wsum : Nat → List Nat → Nat
  | _, [] => 0
  | i, w :: r => i * w + wsum (i + 1) r
def wo (c : UInt8) : Nat := (worth c).getD 0
theorem sumFrom_wsum : ∀ (i : Nat) (l : Bytes), sumFrom i l = wsum i (l.map wo)
  | _, [] => rfl
  | i, c :: r => by
    show i * (worth c).getD 0 + sumFrom (i + 1) r = i * wo c + wsum (i + 1) (r.map wo)
    rw [sumFrom_wsum (i + 1) r]; rfl
/-- the products, place by place -/
def prods (i : Nat) (ws : List Nat) : List Nat := (List.range ws.length).map fun k => (i + k) * ws.getD k 0
theorem prods_cons (i w : Nat) (r : List Nat) : prods i (w :: r) = i * w :: prods (i + 1) r := by
  unfold prods
  rw [List.length_cons, List.range_succ_eq_map, List.map_cons, List.map_map]
  congr 1
  refine List.map_congr_left fun k _ => ?_
  show (i + (k + 1)) * (w :: r).getD (k + 1) 0 = (i + 1 + k) * r.getD k 0
  rw [List.getD_cons_succ, show i + (k + 1) = i + 1 + k by omega]
theorem prods_sum : ∀ (i : Nat) (ws : List Nat), (prods i ws).sum = wsum i ws
  | _, [] => rfl
  | i, w :: r => by rw [prods_cons, List.sum_cons, prods_sum (i + 1) r]; rfl
/-! ### a row -/
def rowI (r : Row) : List Int := (r.place : Int) :: (r.num : Int) :: (r.den : Int) :: toI r.name
theorem toI_text (r : Row) : toI r.text = dig r.place ++ [32] ++ toI r.name ++ [32] ++ dig r.num ++ (if r.den = 1 then [] else [32, 111, 102, 32] ++ dig r.den) := by
  unfold Row.text
  by_cases h : r.den = 1
  · rw [if_pos h, if_pos h]
    show toI (decimal r.place ++ (32 :: (r.name ++ (32 :: decimal r.num)))) = _
    simp only [toI_append, toI_cons, toI_decimal]
    simp
  · rw [if_neg h, if_neg h]
    show toI (decimal r.place ++ (32 :: (r.name ++ (32 :: (decimal r.num ++ (32 :: ([111, 102] ++ (32 :: decimal r.den)))))))) = _
    simp only [toI_append, toI_cons, toI_decimal, toI_nil]
    simp
theorem text_sign (r : Row) (h : r.name.all isSign = true) : r.text.all isSign = true := by
  have b : isSign 32 = true := by decide
  unfold Row.text
  by_cases hd : r.den = 1
  · rw [if_pos hd]
    show (decimal r.place ++ (32 :: (r.name ++ (32 :: decimal r.num)))).all isSign = true
    simp only [List.all_append, List.all_cons, decimal_sign, h, b, Bool.and_self]
  · rw [if_neg hd]
    show (decimal r.place ++ (32 :: (r.name ++ (32 :: (decimal r.num ++ (32 :: ([111, 102] ++ (32 :: decimal r.den)))))))).all isSign = true
    have b2 : ([111, 102] : Bytes).all isSign = true := by decide
    simp only [List.all_append, List.all_cons, decimal_sign, h, b, b2, Bool.and_self]
theorem text_len (r : Row) (hp : r.place < 100) (hn : r.name.length ≤ 12) (hm : r.num ≤ 999999) (hd : r.den ≤ 9999) : r.text.length ≤ 35 := by
  have h1 := decimal_len r.place 2 (by decide) (by omega)
  have h2 := decimal_len r.num 6 (by decide) (by omega)
  have h3 := decimal_len r.den 4 (by decide) (by omega)
  unfold Row.text
  by_cases hd : r.den = 1
  · rw [if_pos hd]
    show (decimal r.place ++ (32 :: (r.name ++ (32 :: decimal r.num)))).length ≤ 35
    simp only [List.length_append, List.length_cons]
    omega
  · rw [if_neg hd]
    show (decimal r.place ++ (32 :: (r.name ++ (32 :: (decimal r.num ++ (32 :: ([111, 102] ++ (32 :: decimal r.den)))))))).length ≤ 35
    simp only [List.length_append, List.length_cons, List.length_nil]
    omega
/-- what a row is asked to be ahead of its words -/
structure RowFit (r : Row) : Prop where
  pl : r.place < 100
  nl : 1 ≤ r.name.length ∧ r.name.length ≤ 12
  ns : r.name.all isSign = true
  nu : r.num ≤ 999999
  de : 1 ≤ r.den ∧ r.den ≤ 9999
theorem RowFit.sign {r : Row} (h : RowFit r) : r.text.all isSign = true := text_sign r h.ns
theorem RowFit.len {r : Row} (h : RowFit r) : r.text.length ≤ 35 := text_len r h.pl h.nl.2 h.nu h.de.2
/-! ### right rows -/
def rightBehind (rs : List Row) (r : Row) : Bool := fitsBehind rs r && r.ok
theorem fits_place {rs : List Row} {r : Row} (h : fitsBehind rs r = true) (hp : ∀ x ∈ rs, x.place ≤ 64) : r.place ≤ 64 := by
  unfold fitsBehind at h
  simp only [Bool.and_eq_true, decide_eq_true_eq] at h
  obtain ⟨h1, _, h3⟩ := h
  cases e : rs.getLast? with
  | none =>
    rw [e] at h3
    have : r.place = 1 := by simpa using h3
    omega
  | some a =>
    rw [e] at h3
    have h4 : follows (rs.length + 1) a r = true := h3
    unfold follows at h4
    simp only [Bool.and_eq_true, Bool.or_eq_true, beq_iff_eq, decide_eq_true_eq] at h4
    have ha := hp a (List.mem_of_getLast? e)
    rcases h4.1 with h | h <;> omega
/-! ### a page's end -/
theorem endText_eq (ls : List Bytes) : toI (endText ls) = [101, 110, 100, 32] ++ [((signOf ((ls.map lastWorth).sum % 37)).toNat : Int), ((signOf (wsum 1 (ls.map lastWorth) % 37)).toNat : Int)] := by
  unfold endText
  have e : ((List.range ls.length).map fun (i : Nat) => (i + 1) * lastWorth (ls.getD i [])) = prods 1 (ls.map lastWorth) := by
    unfold prods
    rw [List.length_map]
    refine List.map_congr_left fun i hi => ?_
    have hi : i < ls.length := List.mem_range.mp hi
    rw [Nat.add_comm, List.getD_eq_getElem?_getD, List.getD_eq_getElem?_getD, List.getElem?_map, List.getElem?_eq_getElem hi]
    rfl
  rw [e, prods_sum]
  rfl
/-! ### a page's line -/
theorem toI_page (i n : Nat) : toI (spaced [ascii "page", decimal i, ascii "of", decimal n]) = [112, 97, 103, 101, 32] ++ dig i ++ [32, 111, 102, 32] ++ dig n := by
  show toI ([112, 97, 103, 101] ++ (32 :: (decimal i ++ (32 :: ([111, 102] ++ (32 :: decimal n)))))) = _
  simp only [toI_append, toI_cons, toI_decimal, toI_nil]
  simp
end Hb

set_option Elab.async false
set_option linter.all false
namespace Hb
open RgBoard
/-! ### what is handed in -/
theorem bytes_back : ∀ {b : List Int}, (∀ z ∈ b, 0 ≤ z ∧ z < 256) → toI (WqatdaNeutral.bytes b) = b
  | [], _ => rfl
  | z :: r, h => by
    have h0 := h z List.mem_cons_self
    have ih := bytes_back (b := r) fun x hx => h x (List.mem_cons_of_mem _ hx)
    show toI (UInt8.ofNat z.toNat :: WqatdaNeutral.bytes r) = z :: r
    rw [toI_cons, ih, UInt8.toNat_ofNat', Nat.mod_eq_of_lt (by omega)]
    congr 1
    omega
theorem natural_iff {z : Int} {k : Nat} (h : WqatdaNeutral.natural z k = true) : 0 ≤ z ∧ z < 2 ^ k := by
  unfold WqatdaNeutral.natural at h
  simpa using h
theorem natural8 {z : Int} (h : WqatdaNeutral.natural z 8 = true) : 0 ≤ z ∧ z < 256 := by
  have := natural_iff h
  omega
def rowAsked (r : List Int) : Bool := decide (3 ≤ r.length) && (r.take 3).all (fun (z : Int) => WqatdaNeutral.natural z 32) && (r.drop 3).all (fun (z : Int) => WqatdaNeutral.natural z 8)
structure SmallR (r : Row) : Prop where
  pl : r.place < 2 ^ 32
  nu : r.num < 2 ^ 32
  de : r.den < 2 ^ 32
  nl : r.name.length ≤ 1000
def printAns (rs : List Row) : List Int := if 64 < rs.length then [-2] else if rowsRight rs = false then [-8] else ((board rs).length : Int) :: toI (board rs)
end Hb

set_option Elab.async false
set_option linter.all false
namespace Hb
open RgBoard
/-! ### the worth that fits -/
def fit1 (s m v : Nat) : Bool := (s + m * v) % 37 == 0
def fitV (s m : Nat) : Nat := ((List.range 37).find? (fit1 s m)).getD 0
theorem fit_find {s m : Nat} (h1 : 1 ≤ m) (h2 : m ≤ 36) : (List.range 37).find? (fit1 s m) = some (fitV s m) ∧ fitV s m ≤ 36 ∧ (s + m * fitV s m) % 37 = 0 := by
  obtain ⟨v, hv, e⟩ := fit_ex s m h1 h2
  have hb : fit1 s m v = true := by unfold fit1; rw [e]; rfl
  cases hf : (List.range 37).find? (fit1 s m) with
  | none =>
    have := List.find?_eq_none.mp hf v (List.mem_range.mpr (by omega))
    exact absurd hb this
  | some u =>
    have hu : fitV s m = u := by unfold fitV; rw [hf]; rfl
    have h3 := List.mem_of_find?_eq_some hf
    have h4 := List.find?_some hf
    rw [hu]
    refine ⟨rfl, ?_, ?_⟩
    · have := List.mem_range.mp h3
      omega
    · unfold fit1 at h4
      exact beq_iff_eq.mp h4
theorem checkOf_fit (l : Bytes) : checkOf l = signOf (fitV (sumFrom 1 l) (l.length + 1)) := rfl
/-! ### bytes that are handed in -/
theorem bytes_of {ns : List Int} (h : ns.all (fun (z : Int) => WqatdaNeutral.natural z 8) = true) : toI (WqatdaNeutral.bytes ns) = ns :=
  bytes_back fun z hz => natural8 (List.all_eq_true.mp h z hz)
theorem bytes_len (ns : List Int) : (WqatdaNeutral.bytes ns).length = ns.length := by simp [WqatdaNeutral.bytes]
theorem asked_all {k : Int} {ns : List Int} (hk : WqatdaNeutral.asked1 [[k], ns] = ns.all (fun (z : Int) => WqatdaNeutral.natural z 8)) (h : WqatdaNeutral.asked [[[k], ns]] = true) : ns.all (fun (z : Int) => WqatdaNeutral.natural z 8) = true := by
  unfold WqatdaNeutral.asked at h
  simp only [Bool.and_eq_true] at h
  have h1 := h.1.1.1
  rw [List.all_cons, Bool.and_eq_true] at h1
  rw [← hk]
  exact h1.1
def signAns (l : Bytes) : List Int := if signs 1 35 l = false then [-8] else [((checkOf l).toNat : Int)]
def rightAns (l : Bytes) : List Int := if signs 2 36 l = false then [-8] else [if isLine l = true then 1 else 0]
def mendsAns (l : Bytes) : List Int := if signs 2 36 l = false then [-8] else ((mendsOf l).length : Int) :: (mendsOf l).flatMap toI
def toldRow (r : Row) : List Int := (r.name.length : Int) :: (toI r.name ++ [(r.place : Int), (r.num : Int), (r.den : Int)])
def readAns (t : Bytes) : List Int := if 65536 < t.length then [-2] else match readBoard t with
  | .ok rs => (rs.length : Int) :: rs.flatMap toldRow
  | .error e => [-6, (e.1 : Int), (e.2 : Int)]
theorem told_ints (rs : List Row) : (rs.flatMap Wqatda.rowNums).map WqatdaNeutral.int = rs.flatMap toldRow := by
  rw [List.map_flatMap]
  congr 1
  funext r
  unfold Wqatda.rowNums toldRow Wqatda.nums
  rw [List.map_cons, List.map_append, List.map_map]
  rfl
theorem read_spec (ns : List Int) : PyWqatda.read ns = readAns (WqatdaNeutral.bytes ns) := by
  show (Wqatda.answer (.read (WqatdaNeutral.bytes ns))).ret :: (Wqatda.answer (.read (WqatdaNeutral.bytes ns))).nums.map WqatdaNeutral.int = _
  have ea : Wqatda.answer (.read (WqatdaNeutral.bytes ns)) = if 65536 < (WqatdaNeutral.bytes ns).length then Wqatda.MUCH else match readBoard (WqatdaNeutral.bytes ns) with
    | .ok rs => ⟨(rs.length : Int), rs.flatMap Wqatda.rowNums⟩
    | .error e => ⟨-6, [e.1, e.2]⟩ := rfl
  rw [ea]
  unfold readAns
  by_cases h : 65536 < (WqatdaNeutral.bytes ns).length
  · rw [if_pos h, if_pos h]; rfl
  · rw [if_neg h, if_neg h]
    cases readBoard (WqatdaNeutral.bytes ns) with
    | ok rs =>
      show (rs.length : Int) :: (rs.flatMap Wqatda.rowNums).map WqatdaNeutral.int = _
      rw [told_ints]
    | error e => rfl
end Hb

set_option Elab.async false
set_option linter.all false
namespace Hb
open RgBoard
/-! ### the order of bytes -/
abbrev Bef (a b : Bytes) : Prop := byteBefore a b = true
/-! ### lines put in their order, each once -/
/-! ### by places -/
/-- the two neighbours at i and i + 1 exchanged -/
def swapAt : Nat → Bytes → Bytes
  | 0, a :: b :: r => b :: a :: r
  | i + 1, a :: r => a :: swapAt i r
  | _, l => l
end Hb

set_option Elab.async false
set_option linter.all false
namespace Hb
open RgBoard
/-! ### the lines that a line may have been, by places -/
def chg (l : Bytes) (i : Nat) : Option Bytes := if fitV (sumFrom 1 l - wo (l.getD i 0) * (i + 1)) (i + 1) ≠ wo (l.getD i 0) then some (l.set i (signOf (fitV (sumFrom 1 l - wo (l.getD i 0) * (i + 1)) (i + 1)))) else none
def exc (l : Bytes) (i : Nat) : Option Bytes := if l.getD i 0 ≠ l.getD (i + 1) 0 ∧ (sum (swapAt i l) == 0) = true then some (swapAt i l) else none
def chgTo (l : Bytes) (i : Nat) : List Bytes := (List.range i).filterMap (chg l)
def excTo (l : Bytes) (i : Nat) : List Bytes := (List.range i).filterMap (exc l)
theorem fit_one {s m u v : Nat} (h1 : 1 ≤ m) (h2 : m ≤ 36) (hu : u ≤ 36) (hv : v ≤ 36) (e1 : (s + m * u) % 37 = 0) (e2 : (s + m * v) % 37 = 0) : u = v := by
  obtain ⟨i, _, hi⟩ := inv37 m h2 h1
  have e3 : (m * u) % 37 = (m * v) % 37 := by omega
  have e4 : ∀ z, z ≤ 36 → (i * (m * z)) % 37 = z := fun z hz => by
    rw [← Nat.mul_assoc, Nat.mul_comm i m, Nat.mul_mod, hi, Nat.one_mul, Nat.mod_mod, Nat.mod_eq_of_lt (by omega)]
  rw [← e4 u hu, ← e4 v hv, Nat.mul_mod, e3, ← Nat.mul_mod]
theorem wo_le {c : UInt8} (h : isSign c = true) : wo c ≤ 36 := by
  obtain ⟨k, hk⟩ := worth_of_sign h
  unfold wo
  rw [hk]
  exact worth_le hk
theorem worth_wo {c : UInt8} (h : isSign c = true) : worth c = some (wo c) := by
  obtain ⟨k, hk⟩ := worth_of_sign h
  unfold wo
  rw [hk]
  rfl
theorem signOf_wo {c : UInt8} (h : isSign c = true) : signOf (wo c) = c := by
  have h1 := worth_some (worth_wo h)
  have h2 := signOf_toNat (wo c) (wo_le h)
  refine UInt8.toNat_inj.mp ?_
  rw [h2]
  split
  · omega
  · split <;> omega
end Hb

set_option Elab.async false
set_option linter.all false
namespace Hb
open RgBoard
/-! ### words cut at blanks -/
theorem natIn_append (a : Bytes) (c : UInt8) : natIn (a ++ [c]) = 10 * natIn a + (c.toNat - 48) := by
  unfold natIn
  rw [List.foldl_append]
  rfl
/-! ### lines of a text -/
end Hb

set_option Elab.async false
set_option linter.all false
namespace Hb
open RgBoard
/-! ### a line is its words checked -/
theorem sumFrom_snoc : ∀ {w : Bytes} {k : Nat} {c : UInt8}, sumFrom k (w ++ [c]) = sumFrom k w + (k + w.length) * wo c
  | [], k, c => by
    show k * wo c + 0 = 0 + (k + 0) * wo c
    simp
  | b :: r, k, c => by
    have ih := sumFrom_snoc (w := r) (k := k + 1) (c := c)
    show k * wo b + sumFrom (k + 1) (r ++ [c]) = k * wo b + sumFrom (k + 1) r + (k + (r.length + 1)) * wo c
    have e : k + 1 + r.length = k + (r.length + 1) := by omega
    rw [e] at ih
    omega
structure Ln (l : Bytes) : Prop where
  lo : 2 ≤ l.length
  hi : l.length ≤ 36
  si : l.all isSign = true
  su : sumFrom 1 l % 37 = 0
theorem ln_of {l : Bytes} (h : signs 2 36 l = true) (e : sum l = 0) : Ln l := by
  unfold signs at h
  simp only [Bool.and_eq_true, decide_eq_true_eq] at h
  exact ⟨h.1, h.2.1, h.2.2, e⟩
theorem Ln.checked {l : Bytes} (h : Ln l) : checked l.dropLast = l := by
  have hne : l ≠ [] := fun e => by have := h.lo; rw [e] at this; simp at this
  have e := List.dropLast_concat_getLast hne
  generalize l.dropLast = w at e
  generalize l.getLast hne = c at e
  subst e
  have hw : w.length ≤ 35 := by have := h.hi; simp at this; omega
  have hc : isSign c = true := List.all_eq_true.mp h.si c (by simp)
  have hs := h.su
  rw [sumFrom_snoc] at hs
  obtain ⟨_, f1, f2⟩ := fit_find (s := sumFrom 1 w) (m := w.length + 1) (by omega) (by omega)
  have e1 : (1 + w.length) = w.length + 1 := by omega
  rw [e1] at hs
  have := fit_one (by omega) (by omega) f1 (wo_le hc) f2 hs
  unfold RgBoard.checked
  rw [checkOf_fit, this, signOf_wo hc]
theorem Ln.is {l w : Bytes} (h : Ln l) : l = RgBoard.checked w ↔ l.dropLast = w := by
  constructor
  · intro e
    rw [e]
    unfold RgBoard.checked
    rw [List.dropLast_concat]
  · intro e
    rw [← e, h.checked]
/-! ### a row of a line -/
theorem Ln.row {l : Bytes} (h : Ln l) : rowIn l = (rowMaybe l.dropLast).filter fun (r : Row) => r.ok && r.text == l.dropLast := by
  unfold rowIn
  congr 1
  funext r
  congr 1
  rw [Bool.eq_iff_iff, beq_iff_eq, beq_iff_eq]
  constructor
  · intro e
    exact (h.is.mp e.symm).symm
  · intro e
    exact (h.is.mpr e.symm).symm
theorem text_head (r : Row) : ∃ c t, r.text = c :: t ∧ 48 ≤ c.toNat ∧ c.toNat ≤ 57 := by
  have hp := decimal_pos r.place
  have hd : toI (decimal r.place) = dig r.place := toI_decimal _
  cases e : decimal r.place with
  | nil => rw [e] at hp; simp at hp
  | cons c t =>
    have hc : 48 ≤ c.toNat ∧ c.toNat ≤ 57 := by
      have hm : c ∈ decimal r.place := by rw [e]; simp
      unfold decimal at hm
      obtain ⟨x, hx, rfl⟩ := List.mem_map.mp hm
      have := digits_ok r.place x hx
      rw [UInt8.toNat_ofNat_of_lt' (by show x.toNat < 256; omega)]
      exact this
    have : ∃ u, r.text = decimal r.place ++ u := by
      unfold Row.text
      exact ⟨32 :: spaced ([r.name, decimal r.num] ++ if r.den = 1 then [] else [ascii "of", decimal r.den]), rfl⟩
    obtain ⟨u, hu⟩ := this
    exact ⟨c, t ++ u, by rw [hu, e]; rfl, hc⟩
theorem row_not_end {r : Row} {ls : List Bytes} : checked r.text ≠ checked (endText ls) := by
  obtain ⟨c, t, e, h1, h2⟩ := text_head r
  intro h
  unfold checked at h
  rw [e] at h
  have h3 : endText ls = 101 :: (endText ls).tail := rfl
  rw [h3] at h
  injection h with h _
  rw [h] at h2
  exact absurd h2 (by decide)
/-! ### pieces: lines with their line feeds -/
def pieces : Bytes → List Bytes
  | [] => []
  | c :: r => if c = 10 then [10] :: pieces r else match pieces r with
    | [] => [[c]]
    | p :: m => (c :: p) :: m
theorem pieces_more {r : Bytes} : ∀ {l : Bytes}, (10 : UInt8) ∉ l → pieces (l ++ 10 :: r) = (l ++ [10]) :: pieces r
  | [], _ => by
    show pieces (10 :: r) = _
    rw [pieces, if_pos rfl]
    rfl
  | c :: l, h => by
    have hc : c ≠ 10 := fun e => h (by rw [e]; simp)
    have ih := pieces_more (r := r) (l := l) fun e => h (List.mem_cons_of_mem _ e)
    show pieces (c :: (l ++ 10 :: r)) = _
    rw [pieces, if_neg hc, ih]
    rfl
theorem pieces_last : ∀ {l : Bytes}, (10 : UInt8) ∉ l → l ≠ [] → pieces l = [l]
  | [], _, h => absurd rfl h
  | c :: l, h, _ => by
    have hc : c ≠ 10 := fun e => h (by rw [e]; simp)
    rw [pieces, if_neg hc]
    cases l with
    | nil => rfl
    | cons d l =>
      rw [pieces_last (l := d :: l) (fun e => h (List.mem_cons_of_mem _ e)) (by simp)]
/-- what the lines and the pieces of a text have to do with one another -/
inductive Pcs : Bool → List Bytes → List Bytes → Prop
  | nil {b} : Pcs b [] []
  | bare {l} : l ≠ [] → l.getLast? ≠ some 10 → Pcs true [l] [l]
  | last {l} : Pcs false [l] [l ++ [10]]
  | cons {b l x y ls ps} : Pcs b (x :: ls) (y :: ps) → Pcs b (l :: x :: ls) ((l ++ [10]) :: y :: ps)
theorem pcs_of : ∀ t : Bytes, Pcs (t.getLast? != some 10) (splitLines t) (pieces t)
  | [] => .nil
  | [c] => by
    by_cases h : c = 10
    · subst h
      exact .last (l := [])
    · have e1 : splitLines [c] = [[c]] := by rw [splitLines, if_neg h]; rfl
      have e2 : pieces [c] = [[c]] := by rw [pieces, if_neg h]; rfl
      have e3 : (([c] : Bytes).getLast? != some 10) = true := by
        show (some c != some 10) = true
        exact bne_iff_ne.mpr fun e => h (Option.some.inj e)
      rw [e1, e2, e3]
      exact .bare (by simp) fun e => h (Option.some.inj e)
  | c :: d :: r => by
    have ih := pcs_of (d :: r)
    have eb : ((c :: d :: r : Bytes).getLast? != some 10) = ((d :: r : Bytes).getLast? != some 10) := by rw [List.getLast?_cons_cons]
    rw [eb]
    by_cases h : c = 10
    · subst h
      have e1 : splitLines (10 :: d :: r) = [] :: splitLines (d :: r) := by rw [splitLines, if_pos rfl]
      have e2 : pieces (10 :: d :: r) = [10] :: pieces (d :: r) := by rw [pieces, if_pos rfl]
      rw [e1, e2]
      revert ih
      generalize ((d :: r : Bytes).getLast? != some 10) = b
      generalize splitLines (d :: r) = ls, hls : pieces (d :: r) = ps
      intro ih
      cases ih with
      | nil =>
        exfalso
        rw [pieces] at hls
        split at hls
        · cases hls
        · split at hls <;> cases hls
      | bare h1 h2 => exact .cons (l := []) (.bare h1 h2)
      | last => exact .cons (l := []) .last
      | cons q => exact .cons (l := []) (.cons q)
    · have e1 : splitLines (c :: d :: r) = match splitLines (d :: r) with | [] => [[c]] | l :: m => (c :: l) :: m := by
        rw [splitLines, if_neg h]
        rfl
      have e2 : pieces (c :: d :: r) = match pieces (d :: r) with | [] => [[c]] | l :: m => (c :: l) :: m := by
        rw [pieces, if_neg h]
      rw [e1, e2]
      revert ih
      generalize ((d :: r : Bytes).getLast? != some 10) = b
      generalize splitLines (d :: r) = ls, hls : pieces (d :: r) = ps
      intro ih
      cases ih with
      | nil =>
        exfalso
        rw [pieces] at hls
        split at hls
        · cases hls
        · split at hls <;> cases hls
      | bare h1 h2 =>
        refine .bare (by simp) ?_
        rename_i l
        cases l with
        | nil => exact absurd rfl h1
        | cons x l => rw [List.getLast?_cons_cons]; exact h2
      | last => exact .last (l := c :: _)
      | cons q => exact .cons (l := c :: _) q
/-! ### a board by its pieces -/
def whole (s : Reading) : Bool := decide (0 < s.pages) && (s.page == s.pages && !s.isOpen)
/-- why a piece is at fault; else how far it is read -/
def pieceMore (s : Reading) (p : Bytes) : Except Nat Reading :=
  if p.getLast? ≠ some 10 ∨ signs 2 36 p.dropLast = false then .error 1 else if sum p.dropLast ≠ 0 then .error 2 else match lineMore s p.dropLast with
    | none => .error 3
    | some u => .ok u
def boardP : Nat → Reading → List Bytes → Except (Nat × Nat) (List Row)
  | k, s, [] => if whole s = true then .ok s.rows else .error (k, 3)
  | k, s, p :: r => match pieceMore s p with
    | .error e => .error (k, e)
    | .ok u => boardP (k + 1) u r
theorem whole_iff {s : Reading} : whole s = true ↔ s.isOpen = false ∧ 0 < s.page ∧ s.page = s.pages := by
  unfold whole
  simp only [Bool.and_eq_true, decide_eq_true_eq, beq_iff_eq, Bool.not_eq_true']
  constructor
  · rintro ⟨h1, h2, h3⟩
    exact ⟨h3, by omega, h2⟩
  · rintro ⟨h1, h2, h3⟩
    exact ⟨by omega, h3, h1⟩
theorem boardP_eq : ∀ {b : Bool} {ls ps : List Bytes}, Pcs b ls ps → ∀ k s, boardFrom b k s ls = boardP k s ps
  | b, _, _, .nil, k, s => by
    rw [boardFrom, boardP]
    by_cases h : whole s = true
    · rw [if_pos h, if_pos (whole_iff.mp h)]
    · rw [if_neg h, if_neg (fun z => h (whole_iff.mpr z))]
  | _, _, _, .bare (l := l) h1 h2, k, s => by
    rw [boardFrom, boardP]
    have e : pieceMore s l = .error 1 := by unfold pieceMore; rw [if_pos (.inl h2)]
    rw [e, if_pos (.inr rfl)]
  | _, _, _, .last (l := l), k, s => by
    rw [boardFrom, boardP]
    unfold pieceMore
    rw [List.dropLast_concat, List.getLast?_concat]
    by_cases h : signs 2 36 l = false
    · rw [if_pos (.inl h), if_pos (.inr h)]
    · have c1 : ¬ (signs 2 36 l = false ∨ (false && ([] : List Bytes).isEmpty) = true) := by
        rintro (z | z)
        · exact h z
        · cases z
      have c2 : ¬ ((some 10 : Option UInt8) ≠ some 10 ∨ signs 2 36 l = false) := by
        rintro (z | z)
        · exact z rfl
        · exact h z
      rw [if_neg c1, if_neg c2]
      by_cases h3 : sum l ≠ 0
      · rw [if_pos h3, if_pos h3]
      · rw [if_neg h3, if_neg h3]
        cases lineMore s l with
        | none => rfl
        | some u => exact boardP_eq .nil (k + 1) u
  | b, _, _, .cons (l := l) (x := x) (ls := ls) q, k, s => by
    rw [boardFrom, boardP]
    unfold pieceMore
    rw [List.dropLast_concat, List.getLast?_concat]
    have e0 : (b && (x :: ls).isEmpty) = false := by rw [List.isEmpty_cons, Bool.and_false]
    rw [e0]
    by_cases h : signs 2 36 l = false
    · rw [if_pos (.inl h), if_pos (.inr h)]
    · have c1 : ¬ (signs 2 36 l = false ∨ false = true) := by
        rintro (z | z)
        · exact h z
        · cases z
      have c2 : ¬ ((some 10 : Option UInt8) ≠ some 10 ∨ signs 2 36 l = false) := by
        rintro (z | z)
        · exact z rfl
        · exact h z
      rw [if_neg c1, if_neg c2]
      by_cases h3 : sum l ≠ 0
      · rw [if_pos h3, if_pos h3]
      · rw [if_neg h3, if_neg h3]
        cases lineMore s l with
        | none => rfl
        | some u => exact boardP_eq q (k + 1) u
theorem readBoard_eq (t : Bytes) : readBoard t = boardP 0 unread (pieces t) := boardP_eq (pcs_of t) 0 unread
/-! ### what holds of each reading -/
structure Good (s : Reading) : Prop where
  le : s.page ≤ s.pages
  few : s.pages ≤ 4
  none : s.page = 0 → s.rows = [] ∧ s.isOpen = false
  here : ∀ l ∈ s.here, l.all isSign = true ∧ l ≠ []
  hlen : s.here.length ≤ 20
  rlen : s.rows.length ≤ 64
  rok : ∀ r ∈ s.rows, r.ok = true ∧ r.place ≤ 64
theorem good_unread : Good unread := ⟨Nat.le_refl _, by decide, fun _ => ⟨rfl, rfl⟩, by simp [unread], by simp [unread], by simp [unread], by simp [unread]⟩
/-- what the next page's line may tell -/
def counts (s : Reading) : List Nat := if s.page = 0 then [1, 2, 3, 4] else if s.page < s.pages then [s.pages] else []
def pageW (i n : Nat) : Bytes := spaced [ascii "page", decimal i, ascii "of", decimal n]
/-- a page's line -/
def pageMore (s : Reading) (w : Bytes) : Option Reading := ((counts s).find? fun m => w == pageW (s.page + 1) m).map fun m => ⟨m, s.page + 1, true, [], s.rows⟩
/-- a row -/
def rowMore (s : Reading) (l : Bytes) : Option Reading := match rowMaybe l.dropLast with
  | some r => if r.text = l.dropLast ∧ s.here.length < 20 ∧ s.rows.length < 64 ∧ rightBehind s.rows r = true then some { s with here := s.here ++ [l], rows := s.rows ++ [r] } else none
  | none => none
/-- a page's end -/
def canEnd (s : Reading) : Bool := if s.page < s.pages then s.here.length == 20 else decide (0 < s.here.length) || s.pages == 1
def endMore (s : Reading) (w : Bytes) : Option Reading := if canEnd s = true ∧ w = endText s.here then some { s with isOpen := false } else none
theorem canEnd_eq {s : Reading} (g : Good s) : canEnd s = mayEnd s := by
  unfold canEnd mayEnd PAGE
  have hle := g.le
  have hh : s.here.isEmpty = decide (s.here.length = 0) := by cases s.here <;> simp
  by_cases h : s.page < s.pages
  · rw [if_pos h, show (s.page == s.pages) = false from beq_eq_false_iff_ne.mpr (by omega), Bool.false_and, Bool.or_false]
  · rw [if_neg h, show (s.page == s.pages) = true from beq_iff_eq.mpr (by omega), Bool.true_and, hh]
    rw [Bool.eq_iff_iff]
    simp only [Bool.or_eq_true, decide_eq_true_eq, beq_iff_eq, Bool.not_eq_true', decide_eq_false_iff_not]
    constructor
    · rintro (z | z)
      · exact .inr (.inl (by omega))
      · exact .inr (.inr z)
    · rintro (z | z | z)
      · exact .inl (by omega)
      · exact .inl (by omega)
      · exact .inr z
theorem page_is {l : Bytes} (h : Ln l) (i n : Nat) : (pageHead i n == l) = (l.dropLast == pageW i n) := by
  rw [Bool.eq_iff_iff, beq_iff_eq, beq_iff_eq]
  constructor
  · intro e
    exact h.is.mp e.symm
  · intro e
    exact (h.is.mpr e).symm
theorem rightBehind_fits {rs : List Row} {r : Row} : rightBehind rs r = true ↔ fitsBehind rs r = true ∧ r.ok = true := by
  unfold rightBehind
  rw [Bool.and_eq_true]
theorem fits_few {rs : List Row} {r : Row} (h : fitsBehind rs r = true) : rs.length < 64 := by
  unfold fitsBehind at h
  simp only [Bool.and_eq_true, decide_eq_true_eq] at h
  exact h.1
theorem lineMore_eq {s : Reading} {l : Bytes} (g : Good s) (h : Ln l) : lineMore s l = if s.isOpen = false then pageMore s l.dropLast else (rowMore s l).or (endMore s l.dropLast) := by
  unfold lineMore
  by_cases ho : s.isOpen = false
  · rw [if_pos ho, if_pos ho]
    unfold pageMore counts
    by_cases h0 : s.page = 0
    · rw [if_pos h0, if_pos h0]
      have e : (fun (m : Nat) => pageHead 1 m == l) = fun m => l.dropLast == pageW (s.page + 1) m := by
        funext m
        rw [page_is h, h0]
      rw [e, h0, (g.none h0).1]
    · rw [if_neg h0, if_neg h0]
      by_cases h1 : s.page < s.pages
      · rw [if_pos h1]
        by_cases h2 : l = pageHead (s.page + 1) s.pages
        · rw [if_pos ⟨h1, h2⟩]
          have e : (l.dropLast == pageW (s.page + 1) s.pages) = true := by rw [← page_is h]; exact beq_iff_eq.mpr h2.symm
          rw [List.find?_cons, e]
          obtain ⟨a, b, c, d, e⟩ := s
          obtain rfl : c = false := ho
          rfl
        · rw [if_neg (fun z => h2 z.2)]
          have e : (l.dropLast == pageW (s.page + 1) s.pages) = false := by
            rw [← page_is h]
            exact beq_eq_false_iff_ne.mpr fun z => h2 z.symm
          rw [List.find?_cons, e]
          rfl
      · rw [if_neg h1, if_neg (fun z => h1 z.1)]
        rfl
  · rw [if_neg ho, if_neg ho]
    have hend : (l = checked (endText s.here) ∧ mayEnd s = true) ↔ (canEnd s = true ∧ l.dropLast = endText s.here) := by
      rw [canEnd_eq g, h.is]
      exact And.comm
    unfold endMore
    have hrow : rowIn l = (rowMaybe l.dropLast).filter fun (r : Row) => r.ok && r.text == l.dropLast := h.row
    by_cases he : canEnd s = true ∧ l.dropLast = endText s.here
    · rw [if_pos (hend.mpr he), if_pos he]
      have hr : rowMore s l = none := by
        unfold rowMore
        cases hm : rowMaybe l.dropLast with
        | none => rfl
        | some r =>
          show (if _ then _ else _) = _
          rw [if_neg]
          rintro ⟨e, _⟩
          have h1 := h.is.mpr e.symm
          have h2 := (hend.mpr he).1
          exact row_not_end (h1.symm.trans h2)
      rw [hr]
      rfl
    · rw [if_neg (fun z => he (hend.mp z)), if_neg he, Option.or_none, hrow]
      unfold rowMore PAGE
      cases hm : rowMaybe l.dropLast with
      | none => rfl
      | some r =>
        show (match Option.filter _ (some r) with | some r => _ | none => _) = (if _ then _ else _)
        rw [Option.filter]
        by_cases hc : (r.ok && r.text == l.dropLast) = true
        · rw [if_pos hc]
          rw [Bool.and_eq_true, beq_iff_eq] at hc
          show (if _ then _ else _) = _
          by_cases hf : s.here.length < 20 ∧ fitsBehind s.rows r = true
          · rw [if_pos hf, if_pos ⟨hc.2, hf.1, fits_few hf.2, rightBehind_fits.mpr ⟨hf.2, hc.1⟩⟩]
          · rw [if_neg hf, if_neg (fun z => hf ⟨z.2.1, (rightBehind_fits.mp z.2.2.2).1⟩)]
        · rw [if_neg hc]
          rw [if_neg]
          rintro ⟨e, _, _, z⟩
          exact hc (by rw [Bool.and_eq_true, beq_iff_eq]; exact ⟨(rightBehind_fits.mp z).2, e⟩)
theorem good_page {s u : Reading} {w : Bytes} (g : Good s) (h : pageMore s w = some u) : Good u := by
  unfold pageMore at h
  cases hf : (counts s).find? fun m => w == pageW (s.page + 1) m with
  | none => rw [hf] at h; cases h
  | some m =>
    rw [hf] at h
    have h := (Option.some.inj h).symm
    subst h
    have hm := List.mem_of_find?_eq_some hf
    unfold counts at hm
    have hle := g.le
    have hfew := g.few
    have : s.page + 1 ≤ m ∧ m ≤ 4 := by
      split at hm
      · simp at hm; omega
      · split at hm
        · simp at hm; omega
        · cases hm
    exact ⟨this.1, this.2, fun z => absurd z (Nat.succ_ne_zero _), by simp, by simp, g.rlen, g.rok⟩
theorem good_row {s u : Reading} {l : Bytes} (g : Good s) (hl : Ln l) (ho : s.isOpen = true) (h : rowMore s l = some u) : Good u := by
  unfold rowMore at h
  cases hm : rowMaybe l.dropLast with
  | none => rw [hm] at h; cases h
  | some r =>
    rw [hm] at h
    dsimp only at h
    by_cases hc : r.text = l.dropLast ∧ s.here.length < 20 ∧ s.rows.length < 64 ∧ rightBehind s.rows r = true
    · rw [if_pos hc] at h
      have h := (Option.some.inj h).symm
      subst h
      obtain ⟨_, h1, h2, h3⟩ := hc
      obtain ⟨h4, h5⟩ := rightBehind_fits.mp h3
      refine ⟨g.le, g.few, fun z => ?_, fun x hx => ?_, ?_, ?_, fun x hx => ?_⟩
      · have := (g.none z).2
        rw [ho] at this
        cases this
      · rcases List.mem_append.mp hx with hx | hx
        · exact g.here x hx
        · rw [List.mem_singleton.mp hx]
          exact ⟨hl.si, fun e => by have := hl.lo; rw [e] at this; simp at this⟩
      · rw [List.length_append]
        show _ + 1 ≤ 20
        omega
      · rw [List.length_append]
        show _ + 1 ≤ 64
        omega
      · rcases List.mem_append.mp hx with hx | hx
        · exact g.rok x hx
        · rw [List.mem_singleton.mp hx]
          exact ⟨h5, fits_place h4 fun y hy => (g.rok y hy).2⟩
    · rw [if_neg hc] at h
      cases h
theorem good_end {s u : Reading} {w : Bytes} (g : Good s) (h : endMore s w = some u) : Good u := by
  unfold endMore at h
  by_cases hc : canEnd s = true ∧ w = endText s.here
  · rw [if_pos hc] at h
    have h := (Option.some.inj h).symm
    subst h
    exact ⟨g.le, g.few, fun z => ⟨(g.none z).1, rfl⟩, g.here, g.hlen, g.rlen, g.rok⟩
  · rw [if_neg hc] at h
    cases h
end Hb

set_option Elab.async false
set_option linter.all false
namespace Hb
open RgBoard
/-! ### cut at blanks, from the left -/
theorem cut_ne (x : UInt8) (w : Bytes) : cutAt x w ≠ [] := by
  cases w with
  | nil => simp [cutAt]
  | cons e w =>
    rw [cutAt]
    split
    · simp
    · split <;> simp
theorem cut_blank {x : UInt8} : ∀ {w : Bytes}, cutAt x (w ++ [x]) = cutAt x w ++ [[]]
  | [] => by
    show cutAt x [x] = [[]] ++ [[]]
    rw [cutAt, if_pos rfl]
    rfl
  | c :: w => by
    have ih := cut_blank (x := x) (w := w)
    show cutAt x (c :: (w ++ [x])) = cutAt x (c :: w) ++ [[]]
    rw [cutAt, cutAt]
    by_cases h : c = x
    · rw [if_pos h, if_pos h, ih]
      rfl
    · rw [if_neg h, if_neg h, ih]
      cases e : cutAt x w with
      | nil => exact absurd e (cut_ne x w)
      | cons l m => rfl
theorem cut_sign {x c : UInt8} (hc : c ≠ x) : ∀ {w : Bytes} {ps : List Bytes} {q : Bytes}, cutAt x w = ps ++ [q] → cutAt x (w ++ [c]) = ps ++ [q ++ [c]]
  | [], ps, q, h => by
    have h : ([[]] : List Bytes) = ps ++ [q] := h
    cases ps with
    | nil =>
      injection h with h _
      subst h
      show cutAt x [c] = [[c]]
      rw [cutAt, if_neg hc]
      rfl
    | cons p ps =>
      injection h with _ h
      cases ps <;> cases h
  | d :: w, ps, q, h => by
    show cutAt x (d :: (w ++ [c])) = _
    rw [cutAt] at h ⊢
    by_cases hd : d = x
    · rw [if_pos hd] at h ⊢
      cases ps with
      | nil =>
        injection h with _ h
        have : cutAt x w ≠ [] := by
          cases w with
          | nil => simp [cutAt]
          | cons e w =>
            rw [cutAt]
            split
            · simp
            · split <;> simp
        exact absurd h this
      | cons p ps =>
        injection h with h1 h2
        rw [cut_sign hc h2, ← h1]
        rfl
    · rw [if_neg hd] at h ⊢
      cases e : cutAt x w with
      | nil =>
        exfalso
        cases w with
        | nil => simp [cutAt] at e
        | cons e1 w =>
          rw [cutAt] at e
          split at e
          · simp at e
          · split at e <;> simp at e
      | cons l m =>
        rw [e] at h
        cases ps with
        | nil =>
          injection h with h1 h2
          subst h2
          rw [cut_sign hc (ps := []) (q := l) e, ← h1]
          rfl
        | cons p ps =>
          injection h with h1 h2
          rw [cut_sign hc (ps := l :: ps) (q := q) (by rw [e, h2]; rfl), ← h1]
          rfl
theorem cut_last (x : UInt8) (w : Bytes) : ∃ ps q, cutAt x w = ps ++ [q] := by
  have : cutAt x w ≠ [] := by
    cases w with
    | nil => simp [cutAt]
    | cons e w =>
      rw [cutAt]
      split
      · simp
      · split <;> simp
  exact ⟨_, _, (List.dropLast_concat_getLast this).symm⟩
theorem cut_mem {x : UInt8} : ∀ {w p : Bytes}, p ∈ cutAt x w → (∀ c ∈ p, c ∈ w ∧ c ≠ x) ∧ p.length ≤ w.length
  | [], p, h => by
    have h : p ∈ ([[]] : List Bytes) := h
    rw [List.mem_singleton.mp h]
    exact ⟨by simp, Nat.le_refl _⟩
  | d :: w, p, h => by
    rw [cutAt] at h
    by_cases hd : d = x
    · rw [if_pos hd] at h
      rcases List.mem_cons.mp h with h | h
      · rw [h]
        exact ⟨by simp, Nat.zero_le _⟩
      · obtain ⟨h1, h2⟩ := cut_mem h
        exact ⟨fun c hc => ⟨List.mem_cons_of_mem _ (h1 c hc).1, (h1 c hc).2⟩, by rw [List.length_cons]; omega⟩
    · rw [if_neg hd] at h
      cases e : cutAt x w with
      | nil =>
        rw [e] at h
        have h : p ∈ ([[d]] : List Bytes) := h
        rw [List.mem_singleton.mp h]
        refine ⟨fun c hc => ?_, by simp⟩
        rw [List.mem_singleton.mp hc]
        exact ⟨by simp, hd⟩
      | cons l m =>
        rw [e] at h
        have h : p ∈ (d :: l) :: m := h
        rcases List.mem_cons.mp h with h | h
        · obtain ⟨h1, h2⟩ := cut_mem (x := x) (w := w) (p := l) (by rw [e]; simp)
          rw [h]
          refine ⟨fun c hc => ?_, by rw [List.length_cons, List.length_cons]; omega⟩
          rcases List.mem_cons.mp hc with hc | hc
          · rw [hc]
            exact ⟨by simp, hd⟩
          · exact ⟨List.mem_cons_of_mem _ (h1 c hc).1, (h1 c hc).2⟩
        · obtain ⟨h1, h2⟩ := cut_mem (x := x) (w := w) (p := p) (by rw [e]; exact List.mem_cons_of_mem _ h)
          exact ⟨fun c hc => ⟨List.mem_cons_of_mem _ (h1 c hc).1, (h1 c hc).2⟩, by rw [List.length_cons]; omega⟩
theorem cut_count {x : UInt8} : ∀ {w : Bytes}, (cutAt x w).length ≤ w.length + 1
  | [] => Nat.le_refl _
  | d :: w => by
    have ih := cut_count (x := x) (w := w)
    rw [cutAt]
    split
    · rw [List.length_cons, List.length_cons]
      omega
    · cases e : cutAt x w with
      | nil => show 1 ≤ _; rw [List.length_cons]; omega
      | cons l m =>
        rw [e] at ih
        show m.length + 1 ≤ _
        rw [List.length_cons] at ih
        rw [List.length_cons]
        omega
/-! ### numbers -/
theorem natIn_take {b : Bytes} {i : Nat} {c : UInt8} (h : b[i]? = some c) : natIn (b.take (i + 1)) = 10 * natIn (b.take i) + (c.toNat - 48) := by
  rw [List.take_add_one, h]
  exact natIn_append _ _
theorem natIn_bound : ∀ (n : Nat) {b : Bytes}, b.length = n → (∀ c ∈ b, c.toNat ≤ 122) → natIn b + 9 ≤ 9 * 10 ^ n
  | 0, b, h, _ => by
    have : b = [] := List.eq_nil_of_length_eq_zero h
    subst this
    decide
  | n + 1, b, h, hc => by
    have hne : b ≠ [] := fun e => by rw [e] at h; simp at h
    have e := List.dropLast_concat_getLast hne
    generalize b.dropLast = w at e
    generalize b.getLast hne = c at e
    subst e
    have hw : w.length = n := by simpa using h
    have ih := natIn_bound n hw fun c hc' => hc c (List.mem_append_left _ hc')
    have h1 := hc c (by simp)
    rw [natIn_append, Nat.pow_succ]
    omega
theorem natIn_lt {b : Bytes} (h : b.length ≤ 35) (hc : ∀ c ∈ b, c.toNat ≤ 122) : natIn b < 10 ^ 40 := by
  have h1 := natIn_bound _ rfl hc
  have h2 : 10 ^ b.length ≤ 10 ^ 35 := Nat.pow_le_pow_right (by decide) h
  have h3 : natIn b < 9 * 10 ^ 35 := by omega
  exact Nat.lt_of_lt_of_le h3 (by decide)
theorem sign_small {c : UInt8} (h : isSign c = true) : c.toNat ≤ 122 ∧ (c ≠ 32 → 48 ≤ c.toNat) := by
  have h1 := isSign_iff.mp h
  refine ⟨by omega, fun hne => ?_⟩
  have : c.toNat ≠ 32 := fun e => hne (UInt8.toNat_inj.mp e)
  omega
/-! ### the row that has these words -/
def rowCand (w : Bytes) : Option Row := (rowMaybe w).filter fun r => r.text == w
theorem rowMore_cand {s : Reading} {l : Bytes} : rowMore s l = match rowCand l.dropLast with
    | some r => if s.here.length < 20 ∧ s.rows.length < 64 ∧ rightBehind s.rows r = true then some { s with here := s.here ++ [l], rows := s.rows ++ [r] } else none
    | none => none := by
  unfold rowMore rowCand
  cases rowMaybe l.dropLast with
  | none => rfl
  | some r =>
    rw [Option.filter]
    by_cases h : r.text = l.dropLast
    · rw [show (r.text == l.dropLast) = true from beq_iff_eq.mpr h, if_pos rfl]
      show (if _ then _ else _) = (if _ then _ else _)
      by_cases hc : s.here.length < 20 ∧ s.rows.length < 64 ∧ rightBehind s.rows r = true
      · rw [if_pos ⟨h, hc⟩, if_pos hc]
      · rw [if_neg (fun z => hc z.2), if_neg hc]
    · rw [show (r.text == l.dropLast) = false from beq_eq_false_iff_ne.mpr h]
      show (if _ then _ else _) = none
      rw [if_neg (fun z => h z.1)]
end Hb

set_option Elab.async false
set_option linter.all false
set_option maxRecDepth 100000
set_option maxHeartbeats 1000000
namespace L2
open PySem PySem.Spec PyProof.Rows
/-! ### a method of the text, and what it does -/
def MDef (K : PySem.W.Frag) (C : Addr) (m qual : Str) (st : Stmt) (ps : List Str) : Prop := ∃ (f : Addr) (fd : FuncData), Fun K m qual st f fd ∧ Meth K C m f ∧ Binds K fd ps []
def MDoes (P : Program) (w : World) (K : PySem.W.Frag) (mg : Str → Option Value) (base : Heap) (C : Addr) (k : Nat) (m : Str) (ps : List Str) (sp : Sp) : Prop :=
  ∃ (f : Addr) (fd : FuncData), FnOk P w K mg base CX0 k f fd ps sp ∧ Meth K C m f ∧ Binds K fd ps []
section
variable {P : Program} {w : World} {K : PySem.W.Frag} {mg : Str → Option Value} {base : Heap} {C : Addr}
theorem MDef.does {m qual : Str} {st : Stmt} {N ps : List Str} {k : Nat} {sp : Sp} (F : MDef K C m qual st ps) (S : FnScope N ps (defScope st)) (len : ∀ vs H Q E, sp vs H Q E → vs.length = ps.length)
    (hbody : ∀ (f : Addr) (cdv : Value) (A : Around) (outer : List Env) (s : Shared) (H : Hp) (vs : List V) (Q : VK) (E : XK), Room k (A.deeper (envOfC qual (defScope st) s.heap.objs.size f cdv)) → sp vs H Q E →
      ∃ t, PSs (cxOf CX0 P w K mg base N qual (defScope st) f cdv A outer s H E).nox (defBody st) t ∧ t { nx := fun _ H' => Q .non H', rt := Q } (start N vs) H) : MDoes P w K mg base C (k + 1) m ps sp := by
  obtain ⟨f, fd, F, hm, hb⟩ := F
  exact ⟨f, fd, F.ok S len (fun cdv A outer s H vs Q E hr h => hbody f cdv A outer s H vs Q E hr h), hm, hb⟩
theorem MDoes.mono {j k : Nat} {m : Str} {ps : List Str} {sp : Sp} (D : MDoes P w K mg base C j m ps sp) (h : j ≤ k) : MDoes P w K mg base C k m ps sp := by
  obtain ⟨f, fd, F, r⟩ := D
  exact ⟨f, fd, F.mono h, r⟩
end
section
variable {X : Cx} {k : Nat} {C : Addr} {m : Str} {ps : List Str} {sp : Sp} {p pos apos : Pos} {o e : Expr} {es : List Expr} {ta : TE} {t : TA}
theorem pe_mdo {pl : Sem Bool} (ho : PE X o ta) (c : Cls X.K C) (D : MDoes X.prog X.w X.K X.mg X.base C k m ps sp) (hr : Room k X.A) (ha : PA X (e :: es) t)
    (hst : starEach (e :: es) X.env = (false, eval e X.env) :: starEach es X.env := by rfl) (hpl : (backTo pos (starEach es X.env)).any (·.1) = false := by rfl)
    (ht : eval (.Call (.Attribute o m apos) (e :: es) [] pos) X.env = (do
      let ov ← eval o X.env
      standAt apos.atName
      let (f, first) ← holding [ov] (getMethod ov m pl)
      callWith pos f first (backTo pos (starEach (e :: es) X.env)) (backToKw pos (keywordEach [] X.env))) := by rfl) :
    PE X (.Call (.Attribute o m apos) (e :: es) [] pos) (tMeth C m sp [] E0 ta t) := by
  obtain ⟨f, fd, F, hm, hb⟩ := D
  exact pe_meth ho c hm F hr hb .nil pass0 ha hst hpl ht
theorem pe_mdo0 {pl : Sem Bool} (ho : PE X o ta) (c : Cls X.K C) (D : MDoes X.prog X.w X.K X.mg X.base C k m ps sp) (hr : Room k X.A)
    (ht : eval (.Call (.Attribute o m apos) [] [] pos) X.env = (do
      let ov ← eval o X.env
      standAt apos.atName
      let (f, first) ← holding [ov] (getMethod ov m pl)
      callWith pos f first (backTo pos (starEach [] X.env)) (backToKw pos (keywordEach [] X.env))) := by rfl) :
    PE X (.Call (.Attribute o m apos) [] [] pos) (tMeth C m sp [] E0 ta tNil) := by
  obtain ⟨f, fd, F, hm, hb⟩ := D
  exact pe_meth0 ho c hm F hr hb .nil pass0 ht
end
/-! ### two lists of whole numbers compared -/
def rEqI (K : PySem.W.Frag) : R2 := fun x y H Q => ∃ (a b : Addr) (ns ms : List Int), x = .ref a ∧ y = .ref b ∧ SqL K H a (zs ns) ∧ SqL K H b (zs ms) ∧ Q (.bl (decide (ns = ms))) H
def rNeI (K : PySem.W.Frag) : R2 := fun x y H Q => ∃ (a b : Addr) (ns ms : List Int), x = .ref a ∧ y = .ref b ∧ SqL K H a (zs ns) ∧ SqL K H b (zs ms) ∧ Q (.bl (!decide (ns = ms))) H
theorem dp_ints {K : PySem.W.Frag} {H : Hp} : ∀ ns : List Int, DpAll K H (zs ns) (ns.map PyData.int)
  | [] => .nil
  | n :: ns => .cons (.int n) (dp_ints ns)
theorem eqv_ints (ns ms : List Int) : PyData.eqv (.list (ns.map PyData.int)) (.list (ms.map PyData.int)) = decide (ns = ms) := by
  rw [← SeqAt.same_eq_eqv _ _ (by simp only [SeqAt.noMix]; exact PySem.W.noMix_ints ns ms)]
  simp only [PySem.Spec.same]
  exact PySem.W.same_ints ns ms
section
variable {X : Cx}
theorem op_eqI (hu : X.A.units + 64 < cLine) : OpR X (compareOp .Eq) (rEqI X.K) := by
  intro pins s σ H x y v u Q I rx ry h
  obtain ⟨a, b, ns, ms, rfl, rfl, ha, hb, q⟩ := h
  refine op_eqD hu pins s σ H _ _ v u Q I rx ry ⟨.list (ns.map PyData.int), .list (ms.map PyData.int), .lst ha (dp_ints ns), .lst hb (dp_ints ms), PySem.W.shaped_ints ns, PySem.W.shaped_ints ms, ?_⟩
  rw [eqv_ints]
  exact q
theorem op_neI (hu : X.A.units + 64 < cLine) : OpR X (compareOp .NotEq) (rNeI X.K) := by
  intro pins s σ H x y v u Q I rx ry h
  obtain ⟨a, b, ns, ms, rfl, rfl, ha, hb, q⟩ := h
  refine op_neD hu pins s σ H _ _ v u Q I rx ry ⟨.list (ns.map PyData.int), .list (ms.map PyData.int), .lst ha (dp_ints ns), .lst hb (dp_ints ms), PySem.W.shaped_ints ns, PySem.W.shaped_ints ms, ?_⟩
  rw [eqv_ints]
  exact q
end
/-! ### list(range(a, b)) -/
def tLR (ta : TA) : TE := fun σ H Q => ta σ H fun vs H1 => ∃ i j : Int, vs = [.int i, .int j] ∧ (-(2 ^ 62) ≤ i ∧ i < 2 ^ 62 ∧ -(2 ^ 62) ≤ j ∧ j < 2 ^ 62) ∧ (j - i).toNat ≤ 1000 ∧
  ∀ l, H1 l = none → Q (.ref l) (upd H1 l (.lst (zs (PySem.W.rangeKs i (j - i).toNat))))
theorem pe_listRange {X : Cx} {a b : Expr} {ta : TA} {p p' pos pos' : Pos} (hc : X.calm = true) (hgL : Gl X "list") (hmL : X.mg "list" = none) (hgR : Gl X "range") (hmR : X.mg "range" = none) (ha : PA X [a, b] ta)
    (hs : starEach [a, b] X.env = [(false, eval a X.env), (false, eval b X.env)] := by rfl) (hs2 : starEach [b] X.env = [(false, eval b X.env)] := by rfl)
    (hsL : starEach [.Call (.Name "range" p') [a, b] [] pos'] X.env = [(false, eval (.Call (.Name "range" p') [a, b] [] pos') X.env)] := by rfl) :
    PE X (.Call (.Name "list" p) [.Call (.Name "range" p') [a, b] [] pos'] [] pos) (tLR ta) := by
  intro pins s σ H Q I h
  refine wpAny_Call_Name_kw (ld_blt I hgL hmL PyProof.Rows.boot_list ?_)
  refine PyProof.Rows.callWith_type1 ?_ hsL rfl
  rw [hsL]
  show wpAny _ _ (spliced ((false, eval (.Call (.Name "range" p') [a, b] [] pos') X.env) :: backTo pos (starEach [] X.env))) _ _ s
  refine Calls.spliced_cons ?_
  refine Call_ (ld_blt I hgR hmR boot_range (PyProof.Rows.callWith_type1 (thn (ha pos' pins s σ H _ I h) fun us s1 ⟨vs, H1, I1, r1, q1⟩ => ?_) (by rw [hs, hs2]) (by rw [hs2]; rfl)))
  obtain ⟨i, j, e, ⟨q1, q2, q3, q4⟩, hn, q⟩ := q1
  subst e
  cases r1 with
  | cons r rr =>
    cases rr with
    | cons r' rr =>
      cases rr
      obtain ⟨t, rfl⟩ := r
      obtain ⟨t', rfl⟩ := r'
      refine call_range_2 ?_
      refine Calls.spliced_nil ?_
      refine call_list_range (n := (j - i).toNat) (I.ok.hd hc) (IsRange.new ..) (small_one q1 q2 q3 q4) (by rw [rangeSize_one]; split <;> omega) (by omega) fun h' tk acc c hk hD hI => ?_
      have hz : (s1.heap.push { cls := .type "range", data := .fields #[.int i t, .int j t', .int 1 s1.toks] }).objs.size = s1.heap.objs.size + 1 := Heap.size_push ..
      have hi := PySem.W.kll_ints acc.toList i (j - i).toNat (by rw [Array.length_toList]; exact hI.1) fun j v hj => hI.2 j v (by rw [← hj, Array.getElem?_toList])
      have hle : s1.heap.objs.size ≤ (s1.heap.push { cls := .type "range", data := .fields #[.int i t, .int j t', .int 1 s1.toks] }).objs.size := by rw [hz]; exact Nat.le_succ _
      refine ⟨.ref _, upd H1 _ (.lst (zs (PySem.W.rangeKs i (j - i).toNat))), I1.laid (t' := tk) (fun b o e => hk b o (Heap.get?_push_of_some _ e)) hle ⟨?_, acc.toList, c, vals_of_ints hi, ?_⟩, rfl, q _ (I1.hok.fresh hle)⟩
      · rw [List.length_map, PySem.W.rangeKs_length, sizeLine_eq]
        omega
      · rw [Array.toArray_toList]
        exact hD
end L2

set_option Elab.async false
set_option linter.all false
set_option maxRecDepth 100000
set_option maxHeartbeats 4000000
namespace Hb
open PySem L2
def top (i : Nat) : Stmt := PySem.Challenge.pw_handboard_s02_read.main.body.getD i (.Pass ⟨0, 0, 0, 0⟩)
abbrev s_is_letter : Stmt := top 9
abbrev s_is_digit : Stmt := top 10
abbrev s_is_sign : Stmt := top 11
abbrev s_are_signs : Stmt := top 12
abbrev s_worth_of : Stmt := top 13
abbrev s_sign_of : Stmt := top 14
abbrev s_signs_of : Stmt := top 15
abbrev s_weighted_sum : Stmt := top 16
abbrev s_check_sum : Stmt := top 17
abbrev s_is_line : Stmt := top 18
abbrev s_place_of : Stmt := top 24
abbrev s_numerator_of : Stmt := top 25
abbrev s_denominator_of : Stmt := top 26
abbrev s_name_of : Stmt := top 27
abbrev s_is_name : Stmt := top 28
abbrev s_greatest_divisor : Stmt := top 29
abbrev s_is_total : Stmt := top 30
abbrev s_is_total_less : Stmt := top 31
abbrev s_is_right_behind : Stmt := top 32
abbrev s_words_of : Stmt := top 33
abbrev s_split_at_blanks : Stmt := top 34
abbrev s_number_of : Stmt := top 35
abbrev s_row_of : Stmt := top 36
abbrev s_page_words : Stmt := top 41
abbrev s_end_words : Stmt := top 42
abbrev s_pieces_of : Stmt := top 49
abbrev s_take_piece : Stmt := top 50
abbrev s_told_row : Stmt := top 55
abbrev s_read : Stmt := top 56
/-- what the top has made -/
structure Txt (K : PySem.W.Frag) (mg : Str → Option Value) : Prop where
  c_BLANK : ∃ t, mg "BLANK" = some (.int 32 t)
  c_FIRST_LETTER : ∃ t, mg "FIRST_LETTER" = some (.int 97 t)
  c_FIRST_DIGIT : ∃ t, mg "FIRST_DIGIT" = some (.int 48 t)
  c_WORTH_OF_FIRST_LETTER : ∃ t, mg "WORTH_OF_FIRST_LETTER" = some (.int 1 t)
  c_WORTH_OF_FIRST_DIGIT : ∃ t, mg "WORTH_OF_FIRST_DIGIT" = some (.int 27 t)
  c_SIGN_COUNT : ∃ t, mg "SIGN_COUNT" = some (.int 37 t)
  c_SHORTEST_LINE : ∃ t, mg "SHORTEST_LINE" = some (.int 2 t)
  c_LONGEST_LINE : ∃ t, mg "LONGEST_LINE" = some (.int 36 t)
  c_MOST_ROWS : ∃ t, mg "MOST_ROWS" = some (.int 64 t)
  c_LONGEST_NAME : ∃ t, mg "LONGEST_NAME" = some (.int 12 t)
  c_GREATEST_NUMERATOR : ∃ t, mg "GREATEST_NUMERATOR" = some (.int 999999 t)
  c_GREATEST_DENOMINATOR : ∃ t, mg "GREATEST_DENOMINATOR" = some (.int 9999 t)
  c_LINE_FEED : ∃ t, mg "LINE_FEED" = some (.int 10 t)
  c_ROWS_ON_A_PAGE : ∃ t, mg "ROWS_ON_A_PAGE" = some (.int 20 t)
  c_MOST_PAGES : ∃ t, mg "MOST_PAGES" = some (.int 4 t)
  c_NO_FAULT : ∃ t, mg "NO_FAULT" = some (.int 0 t)
  c_NOT_SIGNS : ∃ t, mg "NOT_SIGNS" = some (.int 1 t)
  c_WRONG_SUM : ∃ t, mg "WRONG_SUM" = some (.int 2 t)
  c_CANNOT_STAND : ∃ t, mg "CANNOT_STAND" = some (.int 3 t)
  c_TOO_MANY : ∃ t, mg "TOO_MANY" = some (.int (-2) t)
  c_AT_FAULT : ∃ t, mg "AT_FAULT" = some (.int (-6) t)
  c_MOST_BYTES : ∃ t, mg "MOST_BYTES" = some (.int 65536 t)
  b_all : mg "all" = none
  b_enumerate : mg "enumerate" = none
  b_len : mg "len" = none
  b_list : mg "list" = none
  b_ord : mg "ord" = none
  b_range : mg "range" = none
  b_str : mg "str" = none
  b_sum : mg "sum" = none
  d_is_letter : Def K mg "is_letter" s_is_letter ["byte"]
  d_is_digit : Def K mg "is_digit" s_is_digit ["byte"]
  d_is_sign : Def K mg "is_sign" s_is_sign ["byte"]
  d_are_signs : Def K mg "are_signs" s_are_signs ["given", "fewest", "most"]
  d_worth_of : Def K mg "worth_of" s_worth_of ["sign"]
  d_sign_of : Def K mg "sign_of" s_sign_of ["worth"]
  d_signs_of : Def K mg "signs_of" s_signs_of ["text"]
  d_weighted_sum : Def K mg "weighted_sum" s_weighted_sum ["worths"]
  d_check_sum : Def K mg "check_sum" s_check_sum ["signs"]
  d_is_line : Def K mg "is_line" s_is_line ["signs"]
  d_place_of : Def K mg "place_of" s_place_of ["row"]
  d_numerator_of : Def K mg "numerator_of" s_numerator_of ["row"]
  d_denominator_of : Def K mg "denominator_of" s_denominator_of ["row"]
  d_name_of : Def K mg "name_of" s_name_of ["row"]
  d_is_name : Def K mg "is_name" s_is_name ["name"]
  d_greatest_divisor : Def K mg "greatest_divisor" s_greatest_divisor ["first", "second"]
  d_is_total : Def K mg "is_total" s_is_total ["numerator", "denominator"]
  d_is_total_less : Def K mg "is_total_less" s_is_total_less ["row", "other"]
  d_is_right_behind : Def K mg "is_right_behind" s_is_right_behind ["row", "before"]
  d_words_of : Def K mg "words_of" s_words_of ["row"]
  d_split_at_blanks : Def K mg "split_at_blanks" s_split_at_blanks ["signs"]
  d_number_of : Def K mg "number_of" s_number_of ["digits"]
  d_row_of : Def K mg "row_of" s_row_of ["words"]
  d_page_words : Def K mg "page_words" s_page_words ["number", "page_count"]
  d_end_words : Def K mg "end_words" s_end_words ["row_lines"]
  d_pieces_of : Def K mg "pieces_of" s_pieces_of ["text"]
  d_take_piece : Def K mg "take_piece" s_take_piece ["reading", "piece"]
  d_told_row : Def K mg "told_row" s_told_row ["row"]
  d_read : Def K mg "read" s_read ["text"]
abbrev N_is_letter : List Str := ["byte"]
theorem sc_is_letter : FnScope N_is_letter ["byte"] (defScope s_is_letter) := ⟨rfl, rfl, rfl, by decide +kernel, rfl, by decide +kernel, by decide +kernel⟩
abbrev N_is_digit : List Str := ["byte"]
theorem sc_is_digit : FnScope N_is_digit ["byte"] (defScope s_is_digit) := ⟨rfl, rfl, rfl, by decide +kernel, rfl, by decide +kernel, by decide +kernel⟩
abbrev N_is_sign : List Str := ["byte"]
theorem sc_is_sign : FnScope N_is_sign ["byte"] (defScope s_is_sign) := ⟨rfl, rfl, rfl, by decide +kernel, rfl, by decide +kernel, by decide +kernel⟩
abbrev N_are_signs : List Str := ["given", "fewest", "most", "byte"]
theorem sc_are_signs : FnScope N_are_signs ["given", "fewest", "most"] (defScope s_are_signs) := ⟨rfl, rfl, rfl, by decide +kernel, rfl, by decide +kernel, by decide +kernel⟩
abbrev N_worth_of : List Str := ["sign"]
theorem sc_worth_of : FnScope N_worth_of ["sign"] (defScope s_worth_of) := ⟨rfl, rfl, rfl, by decide +kernel, rfl, by decide +kernel, by decide +kernel⟩
abbrev N_sign_of : List Str := ["worth"]
theorem sc_sign_of : FnScope N_sign_of ["worth"] (defScope s_sign_of) := ⟨rfl, rfl, rfl, by decide +kernel, rfl, by decide +kernel, by decide +kernel⟩
abbrev N_signs_of : List Str := ["text", "letter"]
theorem sc_signs_of : FnScope N_signs_of ["text"] (defScope s_signs_of) := ⟨rfl, rfl, rfl, by decide +kernel, rfl, by decide +kernel, by decide +kernel⟩
abbrev N_weighted_sum : List Str := ["worths", "place", "worth"]
theorem sc_weighted_sum : FnScope N_weighted_sum ["worths"] (defScope s_weighted_sum) := ⟨rfl, rfl, rfl, by decide +kernel, rfl, by decide +kernel, by decide +kernel⟩
abbrev N_check_sum : List Str := ["signs", "sign"]
theorem sc_check_sum : FnScope N_check_sum ["signs"] (defScope s_check_sum) := ⟨rfl, rfl, rfl, by decide +kernel, rfl, by decide +kernel, by decide +kernel⟩
abbrev N_is_line : List Str := ["signs"]
theorem sc_is_line : FnScope N_is_line ["signs"] (defScope s_is_line) := ⟨rfl, rfl, rfl, by decide +kernel, rfl, by decide +kernel, by decide +kernel⟩
abbrev N_place_of : List Str := ["row"]
theorem sc_place_of : FnScope N_place_of ["row"] (defScope s_place_of) := ⟨rfl, rfl, rfl, by decide +kernel, rfl, by decide +kernel, by decide +kernel⟩
abbrev N_numerator_of : List Str := ["row"]
theorem sc_numerator_of : FnScope N_numerator_of ["row"] (defScope s_numerator_of) := ⟨rfl, rfl, rfl, by decide +kernel, rfl, by decide +kernel, by decide +kernel⟩
abbrev N_denominator_of : List Str := ["row"]
theorem sc_denominator_of : FnScope N_denominator_of ["row"] (defScope s_denominator_of) := ⟨rfl, rfl, rfl, by decide +kernel, rfl, by decide +kernel, by decide +kernel⟩
abbrev N_name_of : List Str := ["row"]
theorem sc_name_of : FnScope N_name_of ["row"] (defScope s_name_of) := ⟨rfl, rfl, rfl, by decide +kernel, rfl, by decide +kernel, by decide +kernel⟩
abbrev N_is_name : List Str := ["name", "byte"]
theorem sc_is_name : FnScope N_is_name ["name"] (defScope s_is_name) := ⟨rfl, rfl, rfl, by decide +kernel, rfl, by decide +kernel, by decide +kernel⟩
abbrev N_greatest_divisor : List Str := ["first", "second", "greater", "less", "rest"]
theorem sc_greatest_divisor : FnScope N_greatest_divisor ["first", "second"] (defScope s_greatest_divisor) := ⟨rfl, rfl, rfl, by decide +kernel, rfl, by decide +kernel, by decide +kernel⟩
abbrev N_is_total : List Str := ["numerator", "denominator"]
theorem sc_is_total : FnScope N_is_total ["numerator", "denominator"] (defScope s_is_total) := ⟨rfl, rfl, rfl, by decide +kernel, rfl, by decide +kernel, by decide +kernel⟩
abbrev N_is_total_less : List Str := ["row", "other"]
theorem sc_is_total_less : FnScope N_is_total_less ["row", "other"] (defScope s_is_total_less) := ⟨rfl, rfl, rfl, by decide +kernel, rfl, by decide +kernel, by decide +kernel⟩
abbrev N_is_right_behind : List Str := ["row", "before", "last", "earlier"]
theorem sc_is_right_behind : FnScope N_is_right_behind ["row", "before"] (defScope s_is_right_behind) := ⟨rfl, rfl, rfl, by decide +kernel, rfl, by decide +kernel, by decide +kernel⟩
abbrev N_words_of : List Str := ["row", "words"]
theorem sc_words_of : FnScope N_words_of ["row"] (defScope s_words_of) := ⟨rfl, rfl, rfl, by decide +kernel, rfl, by decide +kernel, by decide +kernel⟩
abbrev N_split_at_blanks : List Str := ["signs", "parts", "sign"]
theorem sc_split_at_blanks : FnScope N_split_at_blanks ["signs"] (defScope s_split_at_blanks) := ⟨rfl, rfl, rfl, by decide +kernel, rfl, by decide +kernel, by decide +kernel⟩
abbrev N_number_of : List Str := ["digits", "number", "digit"]
theorem sc_number_of : FnScope N_number_of ["digits"] (defScope s_number_of) := ⟨rfl, rfl, rfl, by decide +kernel, rfl, by decide +kernel, by decide +kernel⟩
abbrev N_row_of : List Str := ["words", "parts", "numbers", "digits", "row"]
theorem sc_row_of : FnScope N_row_of ["words"] (defScope s_row_of) := ⟨rfl, rfl, rfl, by decide +kernel, rfl, by decide +kernel, by decide +kernel⟩
abbrev N_page_words : List Str := ["number", "page_count"]
theorem sc_page_words : FnScope N_page_words ["number", "page_count"] (defScope s_page_words) := ⟨rfl, rfl, rfl, by decide +kernel, rfl, by decide +kernel, by decide +kernel⟩
abbrev N_end_words : List Str := ["row_lines", "worths", "line", "first", "second"]
theorem sc_end_words : FnScope N_end_words ["row_lines"] (defScope s_end_words) := ⟨rfl, rfl, rfl, by decide +kernel, rfl, by decide +kernel, by decide +kernel⟩
abbrev N_pieces_of : List Str := ["text", "pieces", "start", "index", "byte"]
theorem sc_pieces_of : FnScope N_pieces_of ["text"] (defScope s_pieces_of) := ⟨rfl, rfl, rfl, by decide +kernel, rfl, by decide +kernel, by decide +kernel⟩
abbrev N_take_piece : List Str := ["reading", "piece", "line"]
theorem sc_take_piece : FnScope N_take_piece ["reading", "piece"] (defScope s_take_piece) := ⟨rfl, rfl, rfl, by decide +kernel, rfl, by decide +kernel, by decide +kernel⟩
abbrev N_told_row : List Str := ["row", "name"]
theorem sc_told_row : FnScope N_told_row ["row"] (defScope s_told_row) := ⟨rfl, rfl, rfl, by decide +kernel, rfl, by decide +kernel, by decide +kernel⟩
abbrev N_read : List Str := ["text", "reading", "pieces", "number", "piece", "why", "answer", "row"]
theorem sc_read : FnScope N_read ["text"] (defScope s_read) := ⟨rfl, rfl, rfl, by decide +kernel, rfl, by decide +kernel, by decide +kernel⟩
abbrev s_Reading___init__ : Stmt := inClass (top 48) 0
abbrev N_Reading___init__ : List Str := ["self"]
theorem sc_Reading___init__ : FnScope N_Reading___init__ ["self"] (defScope s_Reading___init__) := ⟨rfl, rfl, rfl, by decide +kernel, rfl, by decide +kernel, by decide +kernel⟩
abbrev s_Reading_is_whole : Stmt := inClass (top 48) 1
abbrev N_Reading_is_whole : List Str := ["self"]
theorem sc_Reading_is_whole : FnScope N_Reading_is_whole ["self"] (defScope s_Reading_is_whole) := ⟨rfl, rfl, rfl, by decide +kernel, rfl, by decide +kernel, by decide +kernel⟩
abbrev s_Reading_take_line : Stmt := inClass (top 48) 2
abbrev N_Reading_take_line : List Str := ["self", "line"]
theorem sc_Reading_take_line : FnScope N_Reading_take_line ["self", "line"] (defScope s_Reading_take_line) := ⟨rfl, rfl, rfl, by decide +kernel, rfl, by decide +kernel, by decide +kernel⟩
abbrev s_Reading_page_counts : Stmt := inClass (top 48) 3
abbrev N_Reading_page_counts : List Str := ["self"]
theorem sc_Reading_page_counts : FnScope N_Reading_page_counts ["self"] (defScope s_Reading_page_counts) := ⟨rfl, rfl, rfl, by decide +kernel, rfl, by decide +kernel, by decide +kernel⟩
abbrev s_Reading_take_page_line : Stmt := inClass (top 48) 4
abbrev N_Reading_take_page_line : List Str := ["self", "line", "number", "page_count"]
theorem sc_Reading_take_page_line : FnScope N_Reading_take_page_line ["self", "line"] (defScope s_Reading_take_page_line) := ⟨rfl, rfl, rfl, by decide +kernel, rfl, by decide +kernel, by decide +kernel⟩
abbrev s_Reading_has_room : Stmt := inClass (top 48) 5
abbrev N_Reading_has_room : List Str := ["self"]
theorem sc_Reading_has_room : FnScope N_Reading_has_room ["self"] (defScope s_Reading_has_room) := ⟨rfl, rfl, rfl, by decide +kernel, rfl, by decide +kernel, by decide +kernel⟩
abbrev s_Reading_take_row : Stmt := inClass (top 48) 6
abbrev N_Reading_take_row : List Str := ["self", "line", "row"]
theorem sc_Reading_take_row : FnScope N_Reading_take_row ["self", "line"] (defScope s_Reading_take_row) := ⟨rfl, rfl, rfl, by decide +kernel, rfl, by decide +kernel, by decide +kernel⟩
abbrev s_Reading_can_end : Stmt := inClass (top 48) 7
abbrev N_Reading_can_end : List Str := ["self"]
theorem sc_Reading_can_end : FnScope N_Reading_can_end ["self"] (defScope s_Reading_can_end) := ⟨rfl, rfl, rfl, by decide +kernel, rfl, by decide +kernel, by decide +kernel⟩
abbrev s_Reading_take_end : Stmt := inClass (top 48) 8
abbrev N_Reading_take_end : List Str := ["self", "line"]
theorem sc_Reading_take_end : FnScope N_Reading_take_end ["self", "line"] (defScope s_Reading_take_end) := ⟨rfl, rfl, rfl, by decide +kernel, rfl, by decide +kernel, by decide +kernel⟩
structure Cl (K : PySem.W.Frag) (mg : Str → Option Value) (C : Addr) : Prop where
  cl : Cls K C
  at_ : mg "Reading" = some (.ref C)
  n_page_count : NoAttr K C "page_count"
  n_page_number : NoAttr K C "page_number"
  n_on_page : NoAttr K C "on_page"
  n_rows : NoAttr K C "rows"
  n_row_lines : NoAttr K C "row_lines"
  i_ : ∃ f fd, Fun K "__init__" "Reading.__init__" s_Reading___init__ f fd ∧ Mk K C f ∧ Binds K fd ["self"] []
  m_is_whole : MDef K C "is_whole" "Reading.is_whole" s_Reading_is_whole ["self"]
  m_take_line : MDef K C "take_line" "Reading.take_line" s_Reading_take_line ["self", "line"]
  m_page_counts : MDef K C "page_counts" "Reading.page_counts" s_Reading_page_counts ["self"]
  m_take_page_line : MDef K C "take_page_line" "Reading.take_page_line" s_Reading_take_page_line ["self", "line"]
  m_has_room : MDef K C "has_room" "Reading.has_room" s_Reading_has_room ["self"]
  m_take_row : MDef K C "take_row" "Reading.take_row" s_Reading_take_row ["self", "line"]
  m_can_end : MDef K C "can_end" "Reading.can_end" s_Reading_can_end ["self"]
  m_take_end : MDef K C "take_end" "Reading.take_end" s_Reading_take_end ["self", "line"]
theorem cl_mk {K : PySem.W.Frag} {h : Heap} {mg : Str → Option Value} (X : K.In h) (G : h.Ns mainGlobals mg)
    {C : Addr} (aC : PySem.W.nsIn K mainGlobals "Reading" = some (some (.ref C)))
    (pgC : PySem.W.plainGet K C Str.empty = true) (hdC : PySem.W.hasDictIn K C = true) (poC : PySem.W.plainOver K C = true) (saC : PySem.W.findIn K (.ref C) "__setattr__" = some (some (.builtin "object.__setattr__"))) (mkC : PySem.W.makesIn K C = true) (kcC : PySem.W.keepIn K (.ref C) = true)
    (n_page_count : PySem.W.findIn K (.ref C) "page_count" = some none)
    (n_page_number : PySem.W.findIn K (.ref C) "page_number" = some none)
    (n_on_page : PySem.W.findIn K (.ref C) "on_page" = some none)
    (n_rows : PySem.W.findIn K (.ref C) "rows" = some none)
    (n_row_lines : PySem.W.findIn K (.ref C) "row_lines" = some none)
    {f0 : Addr} {od0 an0 : Option Addr} {sl0 : Array (Option Value)} {oc0 kV0 dc0 pm0 cd0 ct0 : Value} (a0 : PySem.W.findIn K (.ref C) "__init__" = some (some (.ref f0))) (i0 : PySem.W.isFn K (.ref f0) = true) (l0 : K.lookup f0 = some ⟨oc0, od0, .func (PySem.W.fnOf "__init__" "Reading.__init__" (defArgs s_Reading___init__) (defBody s_Reading___init__) (defScope s_Reading___init__) .none kV0 dc0 pm0 an0 cd0 ct0), sl0⟩) (c0 : PySem.W.codeIn K cd0 "Reading.__init__" = true) (k0 : PySem.W.keepIn K (.ref f0) = true)
    {f1 : Addr} {od1 an1 : Option Addr} {sl1 : Array (Option Value)} {oc1 kV1 dc1 pm1 cd1 ct1 : Value} (a1 : PySem.W.findIn K (.ref C) "is_whole" = some (some (.ref f1))) (i1 : PySem.W.isFn K (.ref f1) = true) (l1 : K.lookup f1 = some ⟨oc1, od1, .func (PySem.W.fnOf "is_whole" "Reading.is_whole" (defArgs s_Reading_is_whole) (defBody s_Reading_is_whole) (defScope s_Reading_is_whole) .none kV1 dc1 pm1 an1 cd1 ct1), sl1⟩) (c1 : PySem.W.codeIn K cd1 "Reading.is_whole" = true) (k1 : PySem.W.keepIn K (.ref f1) = true)
    {f2 : Addr} {od2 an2 : Option Addr} {sl2 : Array (Option Value)} {oc2 kV2 dc2 pm2 cd2 ct2 : Value} (a2 : PySem.W.findIn K (.ref C) "take_line" = some (some (.ref f2))) (i2 : PySem.W.isFn K (.ref f2) = true) (l2 : K.lookup f2 = some ⟨oc2, od2, .func (PySem.W.fnOf "take_line" "Reading.take_line" (defArgs s_Reading_take_line) (defBody s_Reading_take_line) (defScope s_Reading_take_line) .none kV2 dc2 pm2 an2 cd2 ct2), sl2⟩) (c2 : PySem.W.codeIn K cd2 "Reading.take_line" = true) (k2 : PySem.W.keepIn K (.ref f2) = true)
    {f3 : Addr} {od3 an3 : Option Addr} {sl3 : Array (Option Value)} {oc3 kV3 dc3 pm3 cd3 ct3 : Value} (a3 : PySem.W.findIn K (.ref C) "page_counts" = some (some (.ref f3))) (i3 : PySem.W.isFn K (.ref f3) = true) (l3 : K.lookup f3 = some ⟨oc3, od3, .func (PySem.W.fnOf "page_counts" "Reading.page_counts" (defArgs s_Reading_page_counts) (defBody s_Reading_page_counts) (defScope s_Reading_page_counts) .none kV3 dc3 pm3 an3 cd3 ct3), sl3⟩) (c3 : PySem.W.codeIn K cd3 "Reading.page_counts" = true) (k3 : PySem.W.keepIn K (.ref f3) = true)
    {f4 : Addr} {od4 an4 : Option Addr} {sl4 : Array (Option Value)} {oc4 kV4 dc4 pm4 cd4 ct4 : Value} (a4 : PySem.W.findIn K (.ref C) "take_page_line" = some (some (.ref f4))) (i4 : PySem.W.isFn K (.ref f4) = true) (l4 : K.lookup f4 = some ⟨oc4, od4, .func (PySem.W.fnOf "take_page_line" "Reading.take_page_line" (defArgs s_Reading_take_page_line) (defBody s_Reading_take_page_line) (defScope s_Reading_take_page_line) .none kV4 dc4 pm4 an4 cd4 ct4), sl4⟩) (c4 : PySem.W.codeIn K cd4 "Reading.take_page_line" = true) (k4 : PySem.W.keepIn K (.ref f4) = true)
    {f5 : Addr} {od5 an5 : Option Addr} {sl5 : Array (Option Value)} {oc5 kV5 dc5 pm5 cd5 ct5 : Value} (a5 : PySem.W.findIn K (.ref C) "has_room" = some (some (.ref f5))) (i5 : PySem.W.isFn K (.ref f5) = true) (l5 : K.lookup f5 = some ⟨oc5, od5, .func (PySem.W.fnOf "has_room" "Reading.has_room" (defArgs s_Reading_has_room) (defBody s_Reading_has_room) (defScope s_Reading_has_room) .none kV5 dc5 pm5 an5 cd5 ct5), sl5⟩) (c5 : PySem.W.codeIn K cd5 "Reading.has_room" = true) (k5 : PySem.W.keepIn K (.ref f5) = true)
    {f6 : Addr} {od6 an6 : Option Addr} {sl6 : Array (Option Value)} {oc6 kV6 dc6 pm6 cd6 ct6 : Value} (a6 : PySem.W.findIn K (.ref C) "take_row" = some (some (.ref f6))) (i6 : PySem.W.isFn K (.ref f6) = true) (l6 : K.lookup f6 = some ⟨oc6, od6, .func (PySem.W.fnOf "take_row" "Reading.take_row" (defArgs s_Reading_take_row) (defBody s_Reading_take_row) (defScope s_Reading_take_row) .none kV6 dc6 pm6 an6 cd6 ct6), sl6⟩) (c6 : PySem.W.codeIn K cd6 "Reading.take_row" = true) (k6 : PySem.W.keepIn K (.ref f6) = true)
    {f7 : Addr} {od7 an7 : Option Addr} {sl7 : Array (Option Value)} {oc7 kV7 dc7 pm7 cd7 ct7 : Value} (a7 : PySem.W.findIn K (.ref C) "can_end" = some (some (.ref f7))) (i7 : PySem.W.isFn K (.ref f7) = true) (l7 : K.lookup f7 = some ⟨oc7, od7, .func (PySem.W.fnOf "can_end" "Reading.can_end" (defArgs s_Reading_can_end) (defBody s_Reading_can_end) (defScope s_Reading_can_end) .none kV7 dc7 pm7 an7 cd7 ct7), sl7⟩) (c7 : PySem.W.codeIn K cd7 "Reading.can_end" = true) (k7 : PySem.W.keepIn K (.ref f7) = true)
    {f8 : Addr} {od8 an8 : Option Addr} {sl8 : Array (Option Value)} {oc8 kV8 dc8 pm8 cd8 ct8 : Value} (a8 : PySem.W.findIn K (.ref C) "take_end" = some (some (.ref f8))) (i8 : PySem.W.isFn K (.ref f8) = true) (l8 : K.lookup f8 = some ⟨oc8, od8, .func (PySem.W.fnOf "take_end" "Reading.take_end" (defArgs s_Reading_take_end) (defBody s_Reading_take_end) (defScope s_Reading_take_end) .none kV8 dc8 pm8 an8 cd8 ct8), sl8⟩) (c8 : PySem.W.codeIn K cd8 "Reading.take_end" = true) (k8 : PySem.W.keepIn K (.ref f8) = true) : Cl K mg C :=
  ⟨⟨pgC, hdC, poC, saC⟩,
    PySem.W.mg_of X G aC,
    n_page_count,
    n_page_number,
    n_on_page,
    n_rows,
    n_row_lines,
    ⟨_, _, fun_mk l0 c0 k0, ⟨mkC, a0, i0, kcC⟩, (fun_mk l0 c0 k0).binds fun _ _ _ _ _ _ us hl => match us, hl with | [_], _ => rfl⟩,
    ⟨_, _, fun_mk l1 c1 k1, ⟨a1, i1, k1⟩, (fun_mk l1 c1 k1).binds fun _ _ _ _ _ _ us hl => match us, hl with | [_], _ => rfl⟩,
    ⟨_, _, fun_mk l2 c2 k2, ⟨a2, i2, k2⟩, (fun_mk l2 c2 k2).binds fun _ _ _ _ _ _ us hl => match us, hl with | [_, _], _ => rfl⟩,
    ⟨_, _, fun_mk l3 c3 k3, ⟨a3, i3, k3⟩, (fun_mk l3 c3 k3).binds fun _ _ _ _ _ _ us hl => match us, hl with | [_], _ => rfl⟩,
    ⟨_, _, fun_mk l4 c4 k4, ⟨a4, i4, k4⟩, (fun_mk l4 c4 k4).binds fun _ _ _ _ _ _ us hl => match us, hl with | [_, _], _ => rfl⟩,
    ⟨_, _, fun_mk l5 c5 k5, ⟨a5, i5, k5⟩, (fun_mk l5 c5 k5).binds fun _ _ _ _ _ _ us hl => match us, hl with | [_], _ => rfl⟩,
    ⟨_, _, fun_mk l6 c6 k6, ⟨a6, i6, k6⟩, (fun_mk l6 c6 k6).binds fun _ _ _ _ _ _ us hl => match us, hl with | [_, _], _ => rfl⟩,
    ⟨_, _, fun_mk l7 c7 k7, ⟨a7, i7, k7⟩, (fun_mk l7 c7 k7).binds fun _ _ _ _ _ _ us hl => match us, hl with | [_], _ => rfl⟩,
    ⟨_, _, fun_mk l8 c8 k8, ⟨a8, i8, k8⟩, (fun_mk l8 c8 k8).binds fun _ _ _ _ _ _ us hl => match us, hl with | [_, _], _ => rfl⟩⟩
theorem txt_mk {K : PySem.W.Frag} {h : Heap} {mg : Str → Option Value} (X : K.In h) (G : h.Ns mainGlobals mg)
    {t_BLANK : Tok} (h_BLANK : PySem.W.nsIn K mainGlobals "BLANK" = some (some (.int 32 t_BLANK)))
    {t_FIRST_LETTER : Tok} (h_FIRST_LETTER : PySem.W.nsIn K mainGlobals "FIRST_LETTER" = some (some (.int 97 t_FIRST_LETTER)))
    {t_FIRST_DIGIT : Tok} (h_FIRST_DIGIT : PySem.W.nsIn K mainGlobals "FIRST_DIGIT" = some (some (.int 48 t_FIRST_DIGIT)))
    {t_WORTH_OF_FIRST_LETTER : Tok} (h_WORTH_OF_FIRST_LETTER : PySem.W.nsIn K mainGlobals "WORTH_OF_FIRST_LETTER" = some (some (.int 1 t_WORTH_OF_FIRST_LETTER)))
    {t_WORTH_OF_FIRST_DIGIT : Tok} (h_WORTH_OF_FIRST_DIGIT : PySem.W.nsIn K mainGlobals "WORTH_OF_FIRST_DIGIT" = some (some (.int 27 t_WORTH_OF_FIRST_DIGIT)))
    {t_SIGN_COUNT : Tok} (h_SIGN_COUNT : PySem.W.nsIn K mainGlobals "SIGN_COUNT" = some (some (.int 37 t_SIGN_COUNT)))
    {t_SHORTEST_LINE : Tok} (h_SHORTEST_LINE : PySem.W.nsIn K mainGlobals "SHORTEST_LINE" = some (some (.int 2 t_SHORTEST_LINE)))
    {t_LONGEST_LINE : Tok} (h_LONGEST_LINE : PySem.W.nsIn K mainGlobals "LONGEST_LINE" = some (some (.int 36 t_LONGEST_LINE)))
    {t_MOST_ROWS : Tok} (h_MOST_ROWS : PySem.W.nsIn K mainGlobals "MOST_ROWS" = some (some (.int 64 t_MOST_ROWS)))
    {t_LONGEST_NAME : Tok} (h_LONGEST_NAME : PySem.W.nsIn K mainGlobals "LONGEST_NAME" = some (some (.int 12 t_LONGEST_NAME)))
    {t_GREATEST_NUMERATOR : Tok} (h_GREATEST_NUMERATOR : PySem.W.nsIn K mainGlobals "GREATEST_NUMERATOR" = some (some (.int 999999 t_GREATEST_NUMERATOR)))
    {t_GREATEST_DENOMINATOR : Tok} (h_GREATEST_DENOMINATOR : PySem.W.nsIn K mainGlobals "GREATEST_DENOMINATOR" = some (some (.int 9999 t_GREATEST_DENOMINATOR)))
    {t_LINE_FEED : Tok} (h_LINE_FEED : PySem.W.nsIn K mainGlobals "LINE_FEED" = some (some (.int 10 t_LINE_FEED)))
    {t_ROWS_ON_A_PAGE : Tok} (h_ROWS_ON_A_PAGE : PySem.W.nsIn K mainGlobals "ROWS_ON_A_PAGE" = some (some (.int 20 t_ROWS_ON_A_PAGE)))
    {t_MOST_PAGES : Tok} (h_MOST_PAGES : PySem.W.nsIn K mainGlobals "MOST_PAGES" = some (some (.int 4 t_MOST_PAGES)))
    {t_NO_FAULT : Tok} (h_NO_FAULT : PySem.W.nsIn K mainGlobals "NO_FAULT" = some (some (.int 0 t_NO_FAULT)))
    {t_NOT_SIGNS : Tok} (h_NOT_SIGNS : PySem.W.nsIn K mainGlobals "NOT_SIGNS" = some (some (.int 1 t_NOT_SIGNS)))
    {t_WRONG_SUM : Tok} (h_WRONG_SUM : PySem.W.nsIn K mainGlobals "WRONG_SUM" = some (some (.int 2 t_WRONG_SUM)))
    {t_CANNOT_STAND : Tok} (h_CANNOT_STAND : PySem.W.nsIn K mainGlobals "CANNOT_STAND" = some (some (.int 3 t_CANNOT_STAND)))
    {t_TOO_MANY : Tok} (h_TOO_MANY : PySem.W.nsIn K mainGlobals "TOO_MANY" = some (some (.int (-2) t_TOO_MANY)))
    {t_AT_FAULT : Tok} (h_AT_FAULT : PySem.W.nsIn K mainGlobals "AT_FAULT" = some (some (.int (-6) t_AT_FAULT)))
    {t_MOST_BYTES : Tok} (h_MOST_BYTES : PySem.W.nsIn K mainGlobals "MOST_BYTES" = some (some (.int 65536 t_MOST_BYTES)))
    (z_all : PySem.W.nsIn K mainGlobals "all" = some none)
    (z_enumerate : PySem.W.nsIn K mainGlobals "enumerate" = some none)
    (z_len : PySem.W.nsIn K mainGlobals "len" = some none)
    (z_list : PySem.W.nsIn K mainGlobals "list" = some none)
    (z_ord : PySem.W.nsIn K mainGlobals "ord" = some none)
    (z_range : PySem.W.nsIn K mainGlobals "range" = some none)
    (z_str : PySem.W.nsIn K mainGlobals "str" = some none)
    (z_sum : PySem.W.nsIn K mainGlobals "sum" = some none)
    {f0 : Addr} {od0 an0 : Option Addr} {sl0 : Array (Option Value)} {oc0 kV0 dc0 pm0 cd0 ct0 : Value} (a0 : PySem.W.nsIn K mainGlobals "is_letter" = some (some (.ref f0))) (l0 : K.lookup f0 = some ⟨oc0, od0, .func (PySem.W.fnOf "is_letter" "is_letter" (defArgs s_is_letter) (defBody s_is_letter) (defScope s_is_letter) .none kV0 dc0 pm0 an0 cd0 ct0), sl0⟩) (c0 : PySem.W.codeIn K cd0 "is_letter" = true) (k0 : PySem.W.keepIn K (.ref f0) = true)
    {f1 : Addr} {od1 an1 : Option Addr} {sl1 : Array (Option Value)} {oc1 kV1 dc1 pm1 cd1 ct1 : Value} (a1 : PySem.W.nsIn K mainGlobals "is_digit" = some (some (.ref f1))) (l1 : K.lookup f1 = some ⟨oc1, od1, .func (PySem.W.fnOf "is_digit" "is_digit" (defArgs s_is_digit) (defBody s_is_digit) (defScope s_is_digit) .none kV1 dc1 pm1 an1 cd1 ct1), sl1⟩) (c1 : PySem.W.codeIn K cd1 "is_digit" = true) (k1 : PySem.W.keepIn K (.ref f1) = true)
    {f2 : Addr} {od2 an2 : Option Addr} {sl2 : Array (Option Value)} {oc2 kV2 dc2 pm2 cd2 ct2 : Value} (a2 : PySem.W.nsIn K mainGlobals "is_sign" = some (some (.ref f2))) (l2 : K.lookup f2 = some ⟨oc2, od2, .func (PySem.W.fnOf "is_sign" "is_sign" (defArgs s_is_sign) (defBody s_is_sign) (defScope s_is_sign) .none kV2 dc2 pm2 an2 cd2 ct2), sl2⟩) (c2 : PySem.W.codeIn K cd2 "is_sign" = true) (k2 : PySem.W.keepIn K (.ref f2) = true)
    {f3 : Addr} {od3 an3 : Option Addr} {sl3 : Array (Option Value)} {oc3 kV3 dc3 pm3 cd3 ct3 : Value} (a3 : PySem.W.nsIn K mainGlobals "are_signs" = some (some (.ref f3))) (l3 : K.lookup f3 = some ⟨oc3, od3, .func (PySem.W.fnOf "are_signs" "are_signs" (defArgs s_are_signs) (defBody s_are_signs) (defScope s_are_signs) .none kV3 dc3 pm3 an3 cd3 ct3), sl3⟩) (c3 : PySem.W.codeIn K cd3 "are_signs" = true) (k3 : PySem.W.keepIn K (.ref f3) = true)
    {f4 : Addr} {od4 an4 : Option Addr} {sl4 : Array (Option Value)} {oc4 kV4 dc4 pm4 cd4 ct4 : Value} (a4 : PySem.W.nsIn K mainGlobals "worth_of" = some (some (.ref f4))) (l4 : K.lookup f4 = some ⟨oc4, od4, .func (PySem.W.fnOf "worth_of" "worth_of" (defArgs s_worth_of) (defBody s_worth_of) (defScope s_worth_of) .none kV4 dc4 pm4 an4 cd4 ct4), sl4⟩) (c4 : PySem.W.codeIn K cd4 "worth_of" = true) (k4 : PySem.W.keepIn K (.ref f4) = true)
    {f5 : Addr} {od5 an5 : Option Addr} {sl5 : Array (Option Value)} {oc5 kV5 dc5 pm5 cd5 ct5 : Value} (a5 : PySem.W.nsIn K mainGlobals "sign_of" = some (some (.ref f5))) (l5 : K.lookup f5 = some ⟨oc5, od5, .func (PySem.W.fnOf "sign_of" "sign_of" (defArgs s_sign_of) (defBody s_sign_of) (defScope s_sign_of) .none kV5 dc5 pm5 an5 cd5 ct5), sl5⟩) (c5 : PySem.W.codeIn K cd5 "sign_of" = true) (k5 : PySem.W.keepIn K (.ref f5) = true)
    {f6 : Addr} {od6 an6 : Option Addr} {sl6 : Array (Option Value)} {oc6 kV6 dc6 pm6 cd6 ct6 : Value} (a6 : PySem.W.nsIn K mainGlobals "signs_of" = some (some (.ref f6))) (l6 : K.lookup f6 = some ⟨oc6, od6, .func (PySem.W.fnOf "signs_of" "signs_of" (defArgs s_signs_of) (defBody s_signs_of) (defScope s_signs_of) .none kV6 dc6 pm6 an6 cd6 ct6), sl6⟩) (c6 : PySem.W.codeIn K cd6 "signs_of" = true) (k6 : PySem.W.keepIn K (.ref f6) = true)
    {f7 : Addr} {od7 an7 : Option Addr} {sl7 : Array (Option Value)} {oc7 kV7 dc7 pm7 cd7 ct7 : Value} (a7 : PySem.W.nsIn K mainGlobals "weighted_sum" = some (some (.ref f7))) (l7 : K.lookup f7 = some ⟨oc7, od7, .func (PySem.W.fnOf "weighted_sum" "weighted_sum" (defArgs s_weighted_sum) (defBody s_weighted_sum) (defScope s_weighted_sum) .none kV7 dc7 pm7 an7 cd7 ct7), sl7⟩) (c7 : PySem.W.codeIn K cd7 "weighted_sum" = true) (k7 : PySem.W.keepIn K (.ref f7) = true)
    {f8 : Addr} {od8 an8 : Option Addr} {sl8 : Array (Option Value)} {oc8 kV8 dc8 pm8 cd8 ct8 : Value} (a8 : PySem.W.nsIn K mainGlobals "check_sum" = some (some (.ref f8))) (l8 : K.lookup f8 = some ⟨oc8, od8, .func (PySem.W.fnOf "check_sum" "check_sum" (defArgs s_check_sum) (defBody s_check_sum) (defScope s_check_sum) .none kV8 dc8 pm8 an8 cd8 ct8), sl8⟩) (c8 : PySem.W.codeIn K cd8 "check_sum" = true) (k8 : PySem.W.keepIn K (.ref f8) = true)
    {f9 : Addr} {od9 an9 : Option Addr} {sl9 : Array (Option Value)} {oc9 kV9 dc9 pm9 cd9 ct9 : Value} (a9 : PySem.W.nsIn K mainGlobals "is_line" = some (some (.ref f9))) (l9 : K.lookup f9 = some ⟨oc9, od9, .func (PySem.W.fnOf "is_line" "is_line" (defArgs s_is_line) (defBody s_is_line) (defScope s_is_line) .none kV9 dc9 pm9 an9 cd9 ct9), sl9⟩) (c9 : PySem.W.codeIn K cd9 "is_line" = true) (k9 : PySem.W.keepIn K (.ref f9) = true)
    {f10 : Addr} {od10 an10 : Option Addr} {sl10 : Array (Option Value)} {oc10 kV10 dc10 pm10 cd10 ct10 : Value} (a10 : PySem.W.nsIn K mainGlobals "place_of" = some (some (.ref f10))) (l10 : K.lookup f10 = some ⟨oc10, od10, .func (PySem.W.fnOf "place_of" "place_of" (defArgs s_place_of) (defBody s_place_of) (defScope s_place_of) .none kV10 dc10 pm10 an10 cd10 ct10), sl10⟩) (c10 : PySem.W.codeIn K cd10 "place_of" = true) (k10 : PySem.W.keepIn K (.ref f10) = true)
    {f11 : Addr} {od11 an11 : Option Addr} {sl11 : Array (Option Value)} {oc11 kV11 dc11 pm11 cd11 ct11 : Value} (a11 : PySem.W.nsIn K mainGlobals "numerator_of" = some (some (.ref f11))) (l11 : K.lookup f11 = some ⟨oc11, od11, .func (PySem.W.fnOf "numerator_of" "numerator_of" (defArgs s_numerator_of) (defBody s_numerator_of) (defScope s_numerator_of) .none kV11 dc11 pm11 an11 cd11 ct11), sl11⟩) (c11 : PySem.W.codeIn K cd11 "numerator_of" = true) (k11 : PySem.W.keepIn K (.ref f11) = true)
    {f12 : Addr} {od12 an12 : Option Addr} {sl12 : Array (Option Value)} {oc12 kV12 dc12 pm12 cd12 ct12 : Value} (a12 : PySem.W.nsIn K mainGlobals "denominator_of" = some (some (.ref f12))) (l12 : K.lookup f12 = some ⟨oc12, od12, .func (PySem.W.fnOf "denominator_of" "denominator_of" (defArgs s_denominator_of) (defBody s_denominator_of) (defScope s_denominator_of) .none kV12 dc12 pm12 an12 cd12 ct12), sl12⟩) (c12 : PySem.W.codeIn K cd12 "denominator_of" = true) (k12 : PySem.W.keepIn K (.ref f12) = true)
    {f13 : Addr} {od13 an13 : Option Addr} {sl13 : Array (Option Value)} {oc13 kV13 dc13 pm13 cd13 ct13 : Value} (a13 : PySem.W.nsIn K mainGlobals "name_of" = some (some (.ref f13))) (l13 : K.lookup f13 = some ⟨oc13, od13, .func (PySem.W.fnOf "name_of" "name_of" (defArgs s_name_of) (defBody s_name_of) (defScope s_name_of) .none kV13 dc13 pm13 an13 cd13 ct13), sl13⟩) (c13 : PySem.W.codeIn K cd13 "name_of" = true) (k13 : PySem.W.keepIn K (.ref f13) = true)
    {f14 : Addr} {od14 an14 : Option Addr} {sl14 : Array (Option Value)} {oc14 kV14 dc14 pm14 cd14 ct14 : Value} (a14 : PySem.W.nsIn K mainGlobals "is_name" = some (some (.ref f14))) (l14 : K.lookup f14 = some ⟨oc14, od14, .func (PySem.W.fnOf "is_name" "is_name" (defArgs s_is_name) (defBody s_is_name) (defScope s_is_name) .none kV14 dc14 pm14 an14 cd14 ct14), sl14⟩) (c14 : PySem.W.codeIn K cd14 "is_name" = true) (k14 : PySem.W.keepIn K (.ref f14) = true)
    {f15 : Addr} {od15 an15 : Option Addr} {sl15 : Array (Option Value)} {oc15 kV15 dc15 pm15 cd15 ct15 : Value} (a15 : PySem.W.nsIn K mainGlobals "greatest_divisor" = some (some (.ref f15))) (l15 : K.lookup f15 = some ⟨oc15, od15, .func (PySem.W.fnOf "greatest_divisor" "greatest_divisor" (defArgs s_greatest_divisor) (defBody s_greatest_divisor) (defScope s_greatest_divisor) .none kV15 dc15 pm15 an15 cd15 ct15), sl15⟩) (c15 : PySem.W.codeIn K cd15 "greatest_divisor" = true) (k15 : PySem.W.keepIn K (.ref f15) = true)
    {f16 : Addr} {od16 an16 : Option Addr} {sl16 : Array (Option Value)} {oc16 kV16 dc16 pm16 cd16 ct16 : Value} (a16 : PySem.W.nsIn K mainGlobals "is_total" = some (some (.ref f16))) (l16 : K.lookup f16 = some ⟨oc16, od16, .func (PySem.W.fnOf "is_total" "is_total" (defArgs s_is_total) (defBody s_is_total) (defScope s_is_total) .none kV16 dc16 pm16 an16 cd16 ct16), sl16⟩) (c16 : PySem.W.codeIn K cd16 "is_total" = true) (k16 : PySem.W.keepIn K (.ref f16) = true)
    {f17 : Addr} {od17 an17 : Option Addr} {sl17 : Array (Option Value)} {oc17 kV17 dc17 pm17 cd17 ct17 : Value} (a17 : PySem.W.nsIn K mainGlobals "is_total_less" = some (some (.ref f17))) (l17 : K.lookup f17 = some ⟨oc17, od17, .func (PySem.W.fnOf "is_total_less" "is_total_less" (defArgs s_is_total_less) (defBody s_is_total_less) (defScope s_is_total_less) .none kV17 dc17 pm17 an17 cd17 ct17), sl17⟩) (c17 : PySem.W.codeIn K cd17 "is_total_less" = true) (k17 : PySem.W.keepIn K (.ref f17) = true)
    {f18 : Addr} {od18 an18 : Option Addr} {sl18 : Array (Option Value)} {oc18 kV18 dc18 pm18 cd18 ct18 : Value} (a18 : PySem.W.nsIn K mainGlobals "is_right_behind" = some (some (.ref f18))) (l18 : K.lookup f18 = some ⟨oc18, od18, .func (PySem.W.fnOf "is_right_behind" "is_right_behind" (defArgs s_is_right_behind) (defBody s_is_right_behind) (defScope s_is_right_behind) .none kV18 dc18 pm18 an18 cd18 ct18), sl18⟩) (c18 : PySem.W.codeIn K cd18 "is_right_behind" = true) (k18 : PySem.W.keepIn K (.ref f18) = true)
    {f19 : Addr} {od19 an19 : Option Addr} {sl19 : Array (Option Value)} {oc19 kV19 dc19 pm19 cd19 ct19 : Value} (a19 : PySem.W.nsIn K mainGlobals "words_of" = some (some (.ref f19))) (l19 : K.lookup f19 = some ⟨oc19, od19, .func (PySem.W.fnOf "words_of" "words_of" (defArgs s_words_of) (defBody s_words_of) (defScope s_words_of) .none kV19 dc19 pm19 an19 cd19 ct19), sl19⟩) (c19 : PySem.W.codeIn K cd19 "words_of" = true) (k19 : PySem.W.keepIn K (.ref f19) = true)
    {f20 : Addr} {od20 an20 : Option Addr} {sl20 : Array (Option Value)} {oc20 kV20 dc20 pm20 cd20 ct20 : Value} (a20 : PySem.W.nsIn K mainGlobals "split_at_blanks" = some (some (.ref f20))) (l20 : K.lookup f20 = some ⟨oc20, od20, .func (PySem.W.fnOf "split_at_blanks" "split_at_blanks" (defArgs s_split_at_blanks) (defBody s_split_at_blanks) (defScope s_split_at_blanks) .none kV20 dc20 pm20 an20 cd20 ct20), sl20⟩) (c20 : PySem.W.codeIn K cd20 "split_at_blanks" = true) (k20 : PySem.W.keepIn K (.ref f20) = true)
    {f21 : Addr} {od21 an21 : Option Addr} {sl21 : Array (Option Value)} {oc21 kV21 dc21 pm21 cd21 ct21 : Value} (a21 : PySem.W.nsIn K mainGlobals "number_of" = some (some (.ref f21))) (l21 : K.lookup f21 = some ⟨oc21, od21, .func (PySem.W.fnOf "number_of" "number_of" (defArgs s_number_of) (defBody s_number_of) (defScope s_number_of) .none kV21 dc21 pm21 an21 cd21 ct21), sl21⟩) (c21 : PySem.W.codeIn K cd21 "number_of" = true) (k21 : PySem.W.keepIn K (.ref f21) = true)
    {f22 : Addr} {od22 an22 : Option Addr} {sl22 : Array (Option Value)} {oc22 kV22 dc22 pm22 cd22 ct22 : Value} (a22 : PySem.W.nsIn K mainGlobals "row_of" = some (some (.ref f22))) (l22 : K.lookup f22 = some ⟨oc22, od22, .func (PySem.W.fnOf "row_of" "row_of" (defArgs s_row_of) (defBody s_row_of) (defScope s_row_of) .none kV22 dc22 pm22 an22 cd22 ct22), sl22⟩) (c22 : PySem.W.codeIn K cd22 "row_of" = true) (k22 : PySem.W.keepIn K (.ref f22) = true)
    {f23 : Addr} {od23 an23 : Option Addr} {sl23 : Array (Option Value)} {oc23 kV23 dc23 pm23 cd23 ct23 : Value} (a23 : PySem.W.nsIn K mainGlobals "page_words" = some (some (.ref f23))) (l23 : K.lookup f23 = some ⟨oc23, od23, .func (PySem.W.fnOf "page_words" "page_words" (defArgs s_page_words) (defBody s_page_words) (defScope s_page_words) .none kV23 dc23 pm23 an23 cd23 ct23), sl23⟩) (c23 : PySem.W.codeIn K cd23 "page_words" = true) (k23 : PySem.W.keepIn K (.ref f23) = true)
    {f24 : Addr} {od24 an24 : Option Addr} {sl24 : Array (Option Value)} {oc24 kV24 dc24 pm24 cd24 ct24 : Value} (a24 : PySem.W.nsIn K mainGlobals "end_words" = some (some (.ref f24))) (l24 : K.lookup f24 = some ⟨oc24, od24, .func (PySem.W.fnOf "end_words" "end_words" (defArgs s_end_words) (defBody s_end_words) (defScope s_end_words) .none kV24 dc24 pm24 an24 cd24 ct24), sl24⟩) (c24 : PySem.W.codeIn K cd24 "end_words" = true) (k24 : PySem.W.keepIn K (.ref f24) = true)
    {f25 : Addr} {od25 an25 : Option Addr} {sl25 : Array (Option Value)} {oc25 kV25 dc25 pm25 cd25 ct25 : Value} (a25 : PySem.W.nsIn K mainGlobals "pieces_of" = some (some (.ref f25))) (l25 : K.lookup f25 = some ⟨oc25, od25, .func (PySem.W.fnOf "pieces_of" "pieces_of" (defArgs s_pieces_of) (defBody s_pieces_of) (defScope s_pieces_of) .none kV25 dc25 pm25 an25 cd25 ct25), sl25⟩) (c25 : PySem.W.codeIn K cd25 "pieces_of" = true) (k25 : PySem.W.keepIn K (.ref f25) = true)
    {f26 : Addr} {od26 an26 : Option Addr} {sl26 : Array (Option Value)} {oc26 kV26 dc26 pm26 cd26 ct26 : Value} (a26 : PySem.W.nsIn K mainGlobals "take_piece" = some (some (.ref f26))) (l26 : K.lookup f26 = some ⟨oc26, od26, .func (PySem.W.fnOf "take_piece" "take_piece" (defArgs s_take_piece) (defBody s_take_piece) (defScope s_take_piece) .none kV26 dc26 pm26 an26 cd26 ct26), sl26⟩) (c26 : PySem.W.codeIn K cd26 "take_piece" = true) (k26 : PySem.W.keepIn K (.ref f26) = true)
    {f27 : Addr} {od27 an27 : Option Addr} {sl27 : Array (Option Value)} {oc27 kV27 dc27 pm27 cd27 ct27 : Value} (a27 : PySem.W.nsIn K mainGlobals "told_row" = some (some (.ref f27))) (l27 : K.lookup f27 = some ⟨oc27, od27, .func (PySem.W.fnOf "told_row" "told_row" (defArgs s_told_row) (defBody s_told_row) (defScope s_told_row) .none kV27 dc27 pm27 an27 cd27 ct27), sl27⟩) (c27 : PySem.W.codeIn K cd27 "told_row" = true) (k27 : PySem.W.keepIn K (.ref f27) = true)
    {f28 : Addr} {od28 an28 : Option Addr} {sl28 : Array (Option Value)} {oc28 kV28 dc28 pm28 cd28 ct28 : Value} (a28 : PySem.W.nsIn K mainGlobals "read" = some (some (.ref f28))) (l28 : K.lookup f28 = some ⟨oc28, od28, .func (PySem.W.fnOf "read" "read" (defArgs s_read) (defBody s_read) (defScope s_read) .none kV28 dc28 pm28 an28 cd28 ct28), sl28⟩) (c28 : PySem.W.codeIn K cd28 "read" = true) (k28 : PySem.W.keepIn K (.ref f28) = true) : Txt K mg :=
  ⟨int_mk X G h_BLANK,
    int_mk X G h_FIRST_LETTER,
    int_mk X G h_FIRST_DIGIT,
    int_mk X G h_WORTH_OF_FIRST_LETTER,
    int_mk X G h_WORTH_OF_FIRST_DIGIT,
    int_mk X G h_SIGN_COUNT,
    int_mk X G h_SHORTEST_LINE,
    int_mk X G h_LONGEST_LINE,
    int_mk X G h_MOST_ROWS,
    int_mk X G h_LONGEST_NAME,
    int_mk X G h_GREATEST_NUMERATOR,
    int_mk X G h_GREATEST_DENOMINATOR,
    int_mk X G h_LINE_FEED,
    int_mk X G h_ROWS_ON_A_PAGE,
    int_mk X G h_MOST_PAGES,
    int_mk X G h_NO_FAULT,
    int_mk X G h_NOT_SIGNS,
    int_mk X G h_WRONG_SUM,
    int_mk X G h_CANNOT_STAND,
    int_mk X G h_TOO_MANY,
    int_mk X G h_AT_FAULT,
    int_mk X G h_MOST_BYTES,
    PySem.W.mg_none_of X G z_all,
    PySem.W.mg_none_of X G z_enumerate,
    PySem.W.mg_none_of X G z_len,
    PySem.W.mg_none_of X G z_list,
    PySem.W.mg_none_of X G z_ord,
    PySem.W.mg_none_of X G z_range,
    PySem.W.mg_none_of X G z_str,
    PySem.W.mg_none_of X G z_sum,
    def_mk X G a0 l0 c0 k0 (fun _ _ _ _ _ _ us hl => match us, hl with | [_], _ => rfl),
    def_mk X G a1 l1 c1 k1 (fun _ _ _ _ _ _ us hl => match us, hl with | [_], _ => rfl),
    def_mk X G a2 l2 c2 k2 (fun _ _ _ _ _ _ us hl => match us, hl with | [_], _ => rfl),
    def_mk X G a3 l3 c3 k3 (fun _ _ _ _ _ _ us hl => match us, hl with | [_, _, _], _ => rfl),
    def_mk X G a4 l4 c4 k4 (fun _ _ _ _ _ _ us hl => match us, hl with | [_], _ => rfl),
    def_mk X G a5 l5 c5 k5 (fun _ _ _ _ _ _ us hl => match us, hl with | [_], _ => rfl),
    def_mk X G a6 l6 c6 k6 (fun _ _ _ _ _ _ us hl => match us, hl with | [_], _ => rfl),
    def_mk X G a7 l7 c7 k7 (fun _ _ _ _ _ _ us hl => match us, hl with | [_], _ => rfl),
    def_mk X G a8 l8 c8 k8 (fun _ _ _ _ _ _ us hl => match us, hl with | [_], _ => rfl),
    def_mk X G a9 l9 c9 k9 (fun _ _ _ _ _ _ us hl => match us, hl with | [_], _ => rfl),
    def_mk X G a10 l10 c10 k10 (fun _ _ _ _ _ _ us hl => match us, hl with | [_], _ => rfl),
    def_mk X G a11 l11 c11 k11 (fun _ _ _ _ _ _ us hl => match us, hl with | [_], _ => rfl),
    def_mk X G a12 l12 c12 k12 (fun _ _ _ _ _ _ us hl => match us, hl with | [_], _ => rfl),
    def_mk X G a13 l13 c13 k13 (fun _ _ _ _ _ _ us hl => match us, hl with | [_], _ => rfl),
    def_mk X G a14 l14 c14 k14 (fun _ _ _ _ _ _ us hl => match us, hl with | [_], _ => rfl),
    def_mk X G a15 l15 c15 k15 (fun _ _ _ _ _ _ us hl => match us, hl with | [_, _], _ => rfl),
    def_mk X G a16 l16 c16 k16 (fun _ _ _ _ _ _ us hl => match us, hl with | [_, _], _ => rfl),
    def_mk X G a17 l17 c17 k17 (fun _ _ _ _ _ _ us hl => match us, hl with | [_, _], _ => rfl),
    def_mk X G a18 l18 c18 k18 (fun _ _ _ _ _ _ us hl => match us, hl with | [_, _], _ => rfl),
    def_mk X G a19 l19 c19 k19 (fun _ _ _ _ _ _ us hl => match us, hl with | [_], _ => rfl),
    def_mk X G a20 l20 c20 k20 (fun _ _ _ _ _ _ us hl => match us, hl with | [_], _ => rfl),
    def_mk X G a21 l21 c21 k21 (fun _ _ _ _ _ _ us hl => match us, hl with | [_], _ => rfl),
    def_mk X G a22 l22 c22 k22 (fun _ _ _ _ _ _ us hl => match us, hl with | [_], _ => rfl),
    def_mk X G a23 l23 c23 k23 (fun _ _ _ _ _ _ us hl => match us, hl with | [_, _], _ => rfl),
    def_mk X G a24 l24 c24 k24 (fun _ _ _ _ _ _ us hl => match us, hl with | [_], _ => rfl),
    def_mk X G a25 l25 c25 k25 (fun _ _ _ _ _ _ us hl => match us, hl with | [_], _ => rfl),
    def_mk X G a26 l26 c26 k26 (fun _ _ _ _ _ _ us hl => match us, hl with | [_, _], _ => rfl),
    def_mk X G a27 l27 c27 k27 (fun _ _ _ _ _ _ us hl => match us, hl with | [_], _ => rfl),
    def_mk X G a28 l28 c28 k28 (fun _ _ _ _ _ _ us hl => match us, hl with | [_], _ => rfl)⟩
end Hb

set_option Elab.async false
set_option linter.all false
set_option maxRecDepth 100000
set_option maxHeartbeats 4000000
namespace Hb
open PySem L2 RgBoard TL
section
variable {P : Program} {w : World} {K : PySem.W.Frag} {mg : Str → Option Value} {base : Heap}
theorem ite_b {A B : Prop} {b : Bool} (h1 : b = true → A) (h2 : b = false → B) : if b = true then A else B := by
  cases b with
  | true => exact iteT (h1 rfl)
  | false => exact iteF (h2 rfl)

/-! ### is_letter, is_digit -/
def spRange (lo hi : Int) : Sp := fun vs H Q _ => ∃ i : Int, vs = [.int i] ∧ Q (.bl (decide (lo ≤ i) && decide (i ≤ hi))) H
theorem do_is_letter (T : Txt K mg) : Does P w K mg base 1 "is_letter" ["byte"] (spRange 97 122) := by
  refine T.d_is_letter.does sc_is_letter (fun vs H Q E h => ?_) (fun f cdv A outer s H vs Q E hr h => ?_)
  · obtain ⟨i, rfl, _⟩ := h
    rfl
  · obtain ⟨i, rfl, k⟩ := h
    refine ⟨_, pss_one (ps_ret (pe_chain op_le op_le (pe_top T.c_FIRST_LETTER) (pv 0) (pe_op op_add (pe_top T.c_FIRST_LETTER) pe_int))), ?_⟩
    refine ⟨_, rfl, _, _, rfl, rfl, _, rfl, ?_⟩
    refine ite_b (fun h => ?_) (fun h => ?_)
    · refine ⟨_, _, rfl, rfl, _, _, rfl, rfl, ?_⟩
      rw [h, Bool.true_and] at k
      exact k
    · rw [h, Bool.false_and] at k
      exact k
theorem do_is_digit (T : Txt K mg) : Does P w K mg base 1 "is_digit" ["byte"] (spRange 48 57) := by
  refine T.d_is_digit.does sc_is_digit (fun vs H Q E h => ?_) (fun f cdv A outer s H vs Q E hr h => ?_)
  · obtain ⟨i, rfl, _⟩ := h
    rfl
  · obtain ⟨i, rfl, k⟩ := h
    refine ⟨_, pss_one (ps_ret (pe_chain op_le op_le (pe_top T.c_FIRST_DIGIT) (pv 0) (pe_op op_add (pe_top T.c_FIRST_DIGIT) pe_int))), ?_⟩
    refine ⟨_, rfl, _, _, rfl, rfl, _, rfl, ?_⟩
    refine ite_b (fun h => ?_) (fun h => ?_)
    · refine ⟨_, _, rfl, rfl, _, _, rfl, rfl, ?_⟩
      rw [h, Bool.true_and] at k
      exact k
    · rw [h, Bool.false_and] at k
      exact k

/-! ### worth_of, sign_of -/
def spWorth : Sp := fun vs H Q _ => ∃ (c : UInt8) (k : Nat), vs = [.int (c.toNat : Int)] ∧ worth c = some k ∧ Q (.int (k : Int)) H
theorem do_worth_of (T : Txt K mg) : Does P w K mg base 2 "worth_of" ["sign"] spWorth := by
  have L : Does P w K mg base 1 "is_letter" ["byte"] (spRange 97 122) := do_is_letter T
  refine T.d_worth_of.does sc_worth_of (fun vs H Q E h => ?_) (fun f cdv A outer s H vs Q E hr h => ?_)
  · obtain ⟨c, k, rfl, _⟩ := h
    rfl
  · obtain ⟨c, n, rfl, hw, k⟩ := h
    have hs := worth_some hw
    refine ⟨_, pss_cons (ps_if (pt_cmpR op_eq (pv 0) (pe_top T.c_BLANK) (nomark _)) (pss_one (ps_ret pe_int)) pss_nil)
      (pss_cons (ps_if (pt_val (pe_do L hr (pa_cons (pv 0) pa_nil))) (pss_one (ps_ret (pe_op op_add (pe_op op_sub (pv 0) (pe_top T.c_FIRST_LETTER)) (pe_top T.c_WORTH_OF_FIRST_LETTER)))) pss_nil)
      (pss_one (ps_ret (pe_op op_add (pe_op op_sub (pv 0) (pe_top T.c_FIRST_DIGIT)) (pe_top T.c_WORTH_OF_FIRST_DIGIT))))), ?_⟩
    refine ⟨_, rfl, rfl, _, rfl, ?_⟩
    refine ite_b (fun h => ?_) (fun h => ?_)
    · have h' : V.int (c.toNat : Int) = V.int 32 := of_decide_eq_true h
      injection h' with h'
      have e : n = 0 := by omega
      subst e
      exact k
    · have h' : ¬ V.int (c.toNat : Int) = V.int 32 := of_decide_eq_false h
      have h2 : c.toNat ≠ 32 := fun z => h' (by rw [z]; rfl)
      refine ⟨_, rfl, _, rfl, _, rfl, ?_⟩
      refine ite_b (fun h => ?_) (fun h => ?_)
      · refine ⟨_, rfl, _, _, rfl, rfl, _, _, rfl, rfl, ?_⟩
        simp only [Bool.and_eq_true, decide_eq_true_eq] at h
        have e : ((n : Nat) : Int) = (c.toNat : Int) - 97 + 1 := by omega
        rw [e] at k
        exact k
      · refine ⟨_, rfl, _, _, rfl, rfl, _, _, rfl, rfl, ?_⟩
        have h3 : ¬ ((97 : Int) ≤ (c.toNat : Int) ∧ (c.toNat : Int) ≤ 122) := fun z => by
          rw [decide_eq_true z.1, decide_eq_true z.2] at h
          cases h
        have e : ((n : Nat) : Int) = (c.toNat : Int) - 48 + 27 := by omega
        rw [e] at k
        exact k
/-! ### weighted_sum, check_sum -/
def zn (ws : List Nat) : List V := zs (ws.map fun (n : Nat) => (n : Int))
theorem zn_length (ws : List Nat) : (zn ws).length = ws.length := by simp [zn, zs]
theorem zn_get {ws : List Nat} {i : Nat} {x : V} (h : (zn ws)[i]? = some x) : ∃ n, ws[i]? = some n ∧ x = .int (n : Int) := by
  unfold zn zs at h
  rw [List.getElem?_map, List.getElem?_map] at h
  cases e : ws[i]? with
  | none => rw [e] at h; cases h
  | some n =>
    rw [e] at h
    exact ⟨n, rfl, (Option.some.inj h).symm⟩
theorem zn_take_succ {ws : List Nat} {i n : Nat} (h : ws[i]? = some n) : zn (ws.take (i + 1)) = zn (ws.take i) ++ [.int (n : Int)] := by
  unfold zn zs
  rw [List.take_add_one, h]
  simp
theorem zn_take_len {ws : List Nat} {i : Nat} (h : i ≤ ws.length) : (zn (ws.take i)).length = i := by
  rw [zn_length, List.length_take]
  omega
def spWsum (K : PySem.W.Frag) : Sp := fun vs H Q _ => ∃ (a : Addr) (ws : List Nat), vs = [.ref a] ∧ SqL K H a (zn ws) ∧ ws.length ≤ 100000 ∧ ∀ H', Same H H' → Q (.int (wsum 1 ws : Int)) H'
theorem prods_get {i k w : Nat} {ws : List Nat} (h : ws[k]? = some w) : (prods i ws)[k]? = some ((i + k) * w) := by
  have hk : k < ws.length := (List.getElem?_eq_some_iff.mp h).1
  unfold prods
  rw [List.getElem?_map, List.getElem?_range hk, Option.map_some, List.getD_eq_getElem?_getD, h]
  rfl
theorem prods_length (i : Nat) (ws : List Nat) : (prods i ws).length = ws.length := by simp [prods]
theorem zn_sum (ws : List Nat) : (ws.map fun (n : Nat) => (n : Int)).sum = ((ws.sum : Nat) : Int) := by
  induction ws with
  | nil => rfl
  | cons x r ih =>
    rw [List.map_cons, List.sum_cons, List.sum_cons, ih]
    omega
theorem do_weighted_sum (T : Txt K mg) : Does P w K mg base 1 "weighted_sum" ["worths"] (spWsum K) := by
  refine T.d_weighted_sum.does sc_weighted_sum (fun vs H Q E h => ?_) (fun f cdv A outer s H vs Q E hr h => ?_)
  · obtain ⟨a, ws, rfl, _⟩ := h
    rfl
  · obtain ⟨a, ws, rfl, hA, hz, k⟩ := h
    refine ⟨_, pss_one (ps_ret (pe_callB (cr_sum rfl) rfl T.b_sum (by decide +kernel) (pa_cons (pe_lc (own := [("place", 1), ("worth", 2)]) (g := gTup K 2 (gCons (gName 1) (gCons (gName 2) gNil))) rfl sc_weighted_sum.nd (pi_enumS rfl T.b_enumerate (pa_cons (pv 0) pa_nil) (pk_cons pe_int pk_nil)) (blkOk_by (by show blkC N_weighted_sum (defScope s_weighted_sum) _ _ = true; decide +kernel))
      (fun s H C cl fp => pg_tup (n := 2) rfl (pgs_cons (pg_name (i := 1) sc_weighted_sum.nd rfl (Or.inl rfl) (Or.inr rfl)) (pgs_cons (pg_name (i := 2) sc_weighted_sum.nd rfl (Or.inl rfl) (Or.inr rfl)) pgs_nil)))
      (fun s H C cl fp => pts_nil) (fun s H C cl fp => pe_op op_mul (pv 1) (pv 2))) pa_nil))), ?_⟩
    refine ⟨_, rfl, a, _, 1, rfl, rfl, by decide, hA, fun D hD => ?_⟩
    refine lc_enumS (K := K) (a := a) (k := 1) (xs := zn ws) (fun i H1 => Same H H1 ∧ H1 D = some (.lst (zn ((prods 1 ws).take i)))) ⟨Same.put hD, upd_same⟩ (fun i H1 _ ⟨s1, _⟩ => s1.seq hA) ?_ ?_
    · rintro i x H1 T1 hx ⟨s1, hD1⟩ hT
      obtain ⟨n, hn, rfl⟩ := zn_get hx
      have hi : i < ws.length := (List.getElem?_eq_some_iff.mp hn).1
      have nD : D ≠ T1 := ne_of_none hD1 hT
      refine ⟨T1, _, rfl, SqT.of upd_same, rfl, _, _, rfl, _, _, rfl, rfl, rfl, _, rfl, _, rfl, _, _, rfl, rfl, .inl ⟨by omega, by omega⟩, _, (by rw [upd_ne nD]; exact hD1), ?_, ?_, ?_⟩
      · rw [zn_take_len (by rw [prods_length]; omega)]
        rw [sizeLine_eq]
        omega
      · exact fun b o e => by
          rw [upd_ne (ne_of_none e hD), upd_ne (ne_of_none (s1 b o e) hT)]
          exact s1 b o e
      · have e := zn_take_succ (prods_get (i := 1) hn)
        rw [upd_same, e]
        have e2 : ((((1 + i) * n : Nat)) : Int) = ((1 : Nat) : Int) + (i : Int) * 1 * 0 + 0 + ((((1 + i) * n : Nat)) : Int) - 1 := by omega
        simp [Int.natCast_mul, Int.natCast_add]
    · rintro H1 ⟨s1, hD1⟩
      refine ⟨D, (prods 1 ws).map fun (n : Nat) => (n : Int), rfl, SqL.of ?_, ?_⟩
      · rw [hD1, List.take_of_length_le (by rw [prods_length, zn_length]; exact Nat.le_refl _)]
        rfl
      · rw [zn_sum, prods_sum]
        exact k H1 s1
def spCsum (K : PySem.W.Frag) : Sp := fun vs H Q _ => ∃ (a : Addr) (l : Bytes), vs = [.ref a] ∧ SqL K H a (zs (toI l)) ∧ l.all isSign = true ∧ l.length ≤ 100000 ∧ ∀ H', Same H H' → Q (.int (sumFrom 1 l : Int)) H'
theorem toI_get {l : Bytes} {i : Nat} {x : V} (h : (zs (toI l))[i]? = some x) : ∃ c, l[i]? = some c ∧ x = .int (c.toNat : Int) := by
  unfold zs toI at h
  rw [List.getElem?_map, List.getElem?_map] at h
  cases e : l[i]? with
  | none => rw [e] at h; cases h
  | some c =>
    rw [e] at h
    exact ⟨c, rfl, (Option.some.inj h).symm⟩
theorem sign_at {l : Bytes} {i : Nat} {c : UInt8} (a : l.all isSign = true) (h : l[i]? = some c) : worth c = some (wo c) := by
  obtain ⟨k, hk⟩ := worth_of_sign (List.all_eq_true.mp a c (List.mem_of_getElem? h))
  unfold wo
  rw [hk]
  rfl
theorem do_check_sum (T : Txt K mg) : Does P w K mg base 3 "check_sum" ["signs"] (spCsum K) := by
  have W : Does P w K mg base 2 "worth_of" ["sign"] spWorth := do_worth_of T
  have S : Does P w K mg base 2 "weighted_sum" ["worths"] (spWsum K) := (do_weighted_sum T).mono (by decide)
  refine T.d_check_sum.does sc_check_sum (fun vs H Q E h => ?_) (fun f cdv A outer s H vs Q E hr h => ?_)
  · obtain ⟨a, l, rfl, _⟩ := h
    rfl
  · obtain ⟨a, l, rfl, hA, hs, hz, k⟩ := h
    refine ⟨_, pss_one (ps_ret (pe_do S hr (pa_cons (pe_lc (own := [("sign", 1)]) rfl sc_check_sum.nd (pi_list (pv 0)) (blkOk_by (by show blkC N_check_sum (defScope s_check_sum) _ _ = true; decide +kernel)) (fun s H C cl fp => pg_name (i := 1) sc_check_sum.nd rfl (Or.inl rfl)) (fun s H C cl fp => pts_nil)
      (fun s H C cl fp => pe_do W hr (pa_cons (pv 1) pa_nil))) pa_nil))), ?_⟩
    refine ⟨_, rfl, a, rfl, ⟨_, hA⟩, fun D hD => ?_⟩
    have zl : (toI l).length = l.length := toI_length l
    refine lc_gen (K := K) (a := a) (xs := zs (toI l)) (fun i acc _ => acc = zn ((l.map wo).take i) ∧ i ≤ l.length) hD hA (by rw [List.length_map, zl, sizeLine_eq]; omega) ?_ ⟨rfl, Nat.zero_le _⟩ ?_ ?_
    · rintro i acc _ ⟨rfl, hi⟩
      exact zn_take_len (by rw [List.length_map]; exact hi)
    · rintro i x acc H1 hx s1 hD1 ⟨rfl, hi⟩ Kt nx
      obtain ⟨c, hc, rfl⟩ := toI_get hx
      have hi : i < l.length := (List.getElem?_eq_some_iff.mp hc).1
      refine ⟨rfl, _, rfl, c, wo c, rfl, sign_at hs hc, nx _ _ (Same.refl _) fun H5 _ => ⟨?_, by omega⟩⟩
      exact (zn_take_succ (by rw [List.getElem?_map, hc]; rfl)).symm
    · rintro acc H1 s1 hD1 ⟨rfl, _⟩
      refine ⟨D, l.map wo, rfl, SqL.of ?_, by rw [List.length_map]; exact hz, fun H2 s2 => ?_⟩
      · rw [hD1, List.take_of_length_le (by simp [zs, zl])]
      · rw [← sumFrom_wsum]
        exact k H2 (s1.trans s2)
end
end Hb

set_option Elab.async false
set_option linter.all false
set_option maxRecDepth 100000
set_option maxHeartbeats 4000000
namespace Hb
open PySem L2 RgBoard TL
section
variable {P : Program} {w : World} {K : PySem.W.Frag} {mg : Str → Option Value} {base : Heap}
def spSignOf : Sp := fun vs H Q _ => ∃ n : Nat, vs = [.int (n : Int)] ∧ n ≤ 36 ∧ Q (.int ((signOf n).toNat : Int)) H
theorem do_sign_of (T : Txt K mg) : Does P w K mg base 1 "sign_of" ["worth"] spSignOf := by
  refine T.d_sign_of.does sc_sign_of (fun vs H Q E h => ?_) (fun f cdv A outer s H vs Q E hr h => ?_)
  · obtain ⟨n, rfl, _⟩ := h
    rfl
  · obtain ⟨n, rfl, hn, k⟩ := h
    have hs := signOf_toNat n hn
    refine ⟨_, pss_cons (ps_if (pt_cmpR op_eq (pv 0) pe_int (nomark _)) (pss_one (ps_ret (pe_top T.c_BLANK))) pss_nil)
      (pss_cons (ps_if (pt_cmpR op_lt (pv 0) (pe_top T.c_WORTH_OF_FIRST_DIGIT) (nomark _)) (pss_one (ps_ret (pe_op op_add (pe_op op_sub (pv 0) (pe_top T.c_WORTH_OF_FIRST_LETTER)) (pe_top T.c_FIRST_LETTER)))) pss_nil)
      (pss_one (ps_ret (pe_op op_add (pe_op op_sub (pv 0) (pe_top T.c_WORTH_OF_FIRST_DIGIT)) (pe_top T.c_FIRST_DIGIT))))), ?_⟩
    refine ⟨_, rfl, rfl, _, rfl, ?_⟩
    refine ite_b (fun h => ?_) (fun h => ?_)
    · have h' : V.int (n : Int) = V.int 0 := of_decide_eq_true h
      injection h' with h'
      have e : n = 0 := by omega
      subst e
      exact k
    · have h' : ¬ V.int (n : Int) = V.int 0 := of_decide_eq_false h
      have h2 : n ≠ 0 := fun z => h' (by rw [z]; rfl)
      rw [if_neg h2] at hs
      refine ⟨_, rfl, _, _, rfl, rfl, _, rfl, ?_⟩
      refine ite_b (fun h => ?_) (fun h => ?_)
      · have h3 : (n : Int) < 27 := of_decide_eq_true h
        rw [if_pos (show n ≤ 26 by omega)] at hs
        refine ⟨_, rfl, _, _, rfl, rfl, _, _, rfl, rfl, ?_⟩
        have e : (((signOf n).toNat : Nat) : Int) = (n : Int) - 1 + 97 := by omega
        rw [e] at k
        exact k
      · have h3 : ¬ (n : Int) < 27 := of_decide_eq_false h
        rw [if_neg (show ¬ n ≤ 26 by omega)] at hs
        refine ⟨_, rfl, _, _, rfl, rfl, _, _, rfl, rfl, ?_⟩
        have e : (((signOf n).toNat : Nat) : Int) = (n : Int) - 27 + 48 := by omega
        rw [e] at k
        exact k
end
end Hb

set_option Elab.async false
set_option linter.all false
set_option maxRecDepth 100000
set_option maxHeartbeats 4000000
namespace Hb
open PySem L2 RgBoard TL
section
variable {P : Program} {w : World} {K : PySem.W.Frag} {mg : Str → Option Value} {base : Heap}
/-! ### signs_of -/
def spSigns : Sp := fun vs H Q _ => ∃ x : Str, vs = [.str x] ∧ x.cps.size ≤ sizeLine ∧ NewL H (zs ((tl x).map fun (n : Nat) => (n : Int))) Q
theorem do_signs_of (T : Txt K mg) : Does P w K mg base 1 "signs_of" ["text"] spSigns := by
  refine T.d_signs_of.does sc_signs_of (fun vs H Q E h => ?_) (fun f cdv A outer s H vs Q E hr h => ?_)
  · obtain ⟨x, rfl, _⟩ := h
    rfl
  · obtain ⟨x, rfl, hz, k⟩ := h
    refine ⟨_, pss_one (ps_ret (pe_lc (own := [("letter", 1)]) rfl sc_signs_of.nd (pi_str (pv 0)) (blkOk_by (by show blkC N_signs_of (defScope s_signs_of) _ _ = true; decide +kernel)) (fun s H C cl fp => pg_name (i := 1) sc_signs_of.nd rfl (Or.inl rfl)) (fun s H C cl fp => pts_nil)
      (fun s H C cl fp => pe_callB call_ord rfl T.b_ord (by decide +kernel) (pa_cons (pv 1) pa_nil)))), ?_⟩
    refine ⟨_, rfl, x, rfl, fun D hD => ?_⟩
    refine lc_signs (fun i H1 => Same H H1 ∧ H1 D = some (.lst (zs (((tl x).take i).map fun (n : Nat) => (n : Int))))) ⟨Same.put hD, upd_same⟩ ?_ ?_
    · rintro i c H1 hc ⟨s1, hA⟩
      have hi : i < x.cps.size := (Array.getElem?_eq_some_iff.mp hc).1
      have hc' : (tl x)[i]? = some c := by rw [show (tl x)[i]? = x.cps[i]? by simp [tl]]; exact hc
      refine ⟨rfl, _, rfl, _, rfl, rfl, _, hA, ?_, SameB.of hD s1 SameB.put, ?_⟩
      · simp only [zs, List.length_map, List.length_take]
        omega
      · rw [upd_same, List.take_add_one, hc']
        simp [zs]
    · rintro H1 ⟨s1, hA⟩
      refine k D H1 s1 hD ?_
      rw [hA, List.take_of_length_le (by simp [tl])]
end
end Hb

set_option Elab.async false
set_option linter.all false
set_option maxRecDepth 100000
set_option maxHeartbeats 4000000
namespace Hb
open PySem L2 RgBoard TL
section
variable {P : Program} {w : World} {K : PySem.W.Frag} {mg : Str → Option Value} {base : Heap}
/-! ### is_sign, are_signs -/
def spIsSign : Sp := fun vs H Q _ => ∃ c : UInt8, vs = [.int (c.toNat : Int)] ∧ Q (.bl (isSign c)) H
theorem isSign_eq (c : UInt8) : isSign c = (decide (V.int (c.toNat : Int) = V.int 32) || ((decide ((97 : Int) ≤ (c.toNat : Int)) && decide ((c.toNat : Int) ≤ 122)) || (decide ((48 : Int) ≤ (c.toNat : Int)) && decide ((c.toNat : Int) ≤ 57)))) := by
  have e : decide (V.int (c.toNat : Int) = V.int 32) = decide (c.toNat = 32) := by
    refine decide_eq_decide.mpr ⟨fun h => ?_, fun h => by rw [h]; rfl⟩
    injection h with h
    omega
  rw [e, Bool.eq_iff_iff]
  simp only [Bool.and_eq_true, Bool.or_eq_true, isSign_iff, decide_eq_true_eq]
  omega
theorem do_is_sign (T : Txt K mg) : Does P w K mg base 2 "is_sign" ["byte"] spIsSign := by
  have L : Does P w K mg base 1 "is_letter" ["byte"] (spRange 97 122) := do_is_letter T
  have D : Does P w K mg base 1 "is_digit" ["byte"] (spRange 48 57) := do_is_digit T
  refine T.d_is_sign.does sc_is_sign (fun vs H Q E h => ?_) (fun f cdv A outer s H vs Q E hr h => ?_)
  · obtain ⟨c, rfl, _⟩ := h
    rfl
  · obtain ⟨c, rfl, k⟩ := h
    rw [isSign_eq] at k
    refine ⟨_, pss_one (ps_ret (pe_or (pe_cmpR op_eq (pv 0) (pe_top T.c_BLANK) (nomark _)) (pe_or (pe_do L hr (pa_cons (pv 0) pa_nil)) (pe_one (pe_do D hr (pa_cons (pv 0) pa_nil)))))), ?_⟩
    refine ⟨_, rfl, rfl, _, rfl, ?_⟩
    refine ite_b (fun h => ?_) (fun h => ?_)
    · rw [h, Bool.true_or] at k
      exact k
    · rw [h, Bool.false_or] at k
      refine ⟨_, rfl, _, rfl, _, rfl, ?_⟩
      refine ite_b (fun h => ?_) (fun h => ?_)
      · rw [h, Bool.true_or] at k
        exact k
      · rw [h, Bool.false_or] at k
        exact ⟨_, rfl, _, rfl, k⟩
def spAre (K : PySem.W.Frag) : Sp := fun vs H Q _ => ∃ (a : Addr) (l : Bytes) (lo hi : Nat), vs = [.ref a, .int (lo : Int), .int (hi : Int)] ∧ SqL K H a (zs (toI l)) ∧ l.length ≤ 100000 ∧ ∀ H', Same H H' → Q (.bl (signs lo hi l)) H'
theorem do_are_signs (T : Txt K mg) : Does P w K mg base 3 "are_signs" ["given", "fewest", "most"] (spAre K) := by
  have S : Does P w K mg base 2 "is_sign" ["byte"] spIsSign := do_is_sign T
  refine T.d_are_signs.does sc_are_signs (fun vs H Q E h => ?_) (fun f cdv A outer s H vs Q E hr h => ?_)
  · obtain ⟨a, l, lo, hi, rfl, _⟩ := h
    rfl
  · obtain ⟨a, b, lo, hi, rfl, hA, hz, k⟩ := h
    have zl : (zs (toI b)).length = b.length := by rw [List.length_map, toI_length]
    unfold signs at k
    refine ⟨_, pss_one (ps_ret (pe_and (pe_chain op_le op_le (pv 1) (pe_callB call_len_seq rfl T.b_len PySem.boot_len (pa_cons (pv 0) pa_nil)) (pv 2))
      (pe_one (pe_callB (cr_all rfl) rfl T.b_all (by decide +kernel) (pa_cons (pe_lc (own := [("byte", 3)]) rfl sc_are_signs.nd (pi_list (pv 0)) (blkOk_by (by show blkC N_are_signs (defScope s_are_signs) _ _ = true; decide +kernel)) (fun s H C cl fp => pg_name (i := 3) sc_are_signs.nd rfl (Or.inl rfl)) (fun s H C cl fp => pts_nil)
        (fun s H C cl fp => pe_do S hr (pa_cons (pv 3) pa_nil))) pa_nil))))), ?_⟩
    refine ⟨_, rfl, _, rfl, a, _, rfl, .inl hA, _, _, rfl, rfl, _, rfl, ?_⟩
    rw [zl]
    refine ite_b (fun h1 => ?_) (fun h1 => ?_)
    · have h1 : (lo : Int) ≤ (b.length : Int) := of_decide_eq_true h1
      rw [decide_eq_true (show lo ≤ b.length by omega), Bool.true_and] at k
      refine ⟨_, rfl, _, _, rfl, rfl, _, rfl, ?_⟩
      refine ite_b (fun h2 => ?_) (fun h2 => ?_)
      · have h2 : (b.length : Int) ≤ (hi : Int) := of_decide_eq_true h2
        rw [decide_eq_true (show b.length ≤ hi by omega), Bool.true_and] at k
        refine ⟨_, rfl, a, rfl, ⟨_, hA⟩, fun D hD => ?_⟩
        refine lc_gen (K := K) (a := a) (xs := zs (toI b)) (fun i acc _ => acc = ((b.take i).map fun c => V.bl (isSign c)) ∧ i ≤ b.length) hD hA (by rw [zl, sizeLine_eq]; omega) ?_ ⟨rfl, Nat.zero_le _⟩ ?_ ?_
        · rintro i acc _ ⟨rfl, hi⟩
          rw [List.length_map, List.length_take]
          omega
        · rintro i x acc H1 hx s1 hD1 ⟨rfl, hi⟩ Kt nx
          obtain ⟨c, hc, rfl⟩ := toI_get hx
          have hi : i < b.length := (List.getElem?_eq_some_iff.mp hc).1
          exact ⟨rfl, _, rfl, c, rfl, nx _ _ (Same.refl _) fun H5 _ => ⟨by rw [List.take_add_one, hc]; simp, by omega⟩⟩
        · rintro acc H1 s1 hD1 ⟨rfl, _⟩
          refine ⟨D, b.map isSign, rfl, SqL.of ?_, ?_⟩
          · rw [hD1, List.take_of_length_le (by rw [zl]; exact Nat.le_refl _), List.map_map]
            rfl
          · have e : (b.map isSign).all id = b.all isSign := by
              rw [List.all_map]
              rfl
            rw [e]
            exact k H1 s1
      · have h2 : ¬ (b.length : Int) ≤ (hi : Int) := of_decide_eq_false h2
        rw [decide_eq_false (show ¬ b.length ≤ hi by omega), Bool.false_and] at k
        exact k H (Same.refl _)
    · have h1 : ¬ (lo : Int) ≤ (b.length : Int) := of_decide_eq_false h1
      rw [decide_eq_false (show ¬ lo ≤ b.length by omega), Bool.false_and] at k
      exact ⟨_, rfl, k H (Same.refl _)⟩
end
end Hb

set_option Elab.async false
set_option linter.all false
set_option maxRecDepth 100000
set_option maxHeartbeats 4000000
namespace Hb
open PySem L2 RgBoard TL
section
variable {P : Program} {w : World} {K : PySem.W.Frag} {mg : Str → Option Value} {base : Heap}
/-! ### is_line -/
def spIsLine (K : PySem.W.Frag) : Sp := fun vs H Q _ => ∃ (a : Addr) (l : Bytes), vs = [.ref a] ∧ SqL K H a (zs (toI l)) ∧ l.all isSign = true ∧ l.length ≤ 100000 ∧ ∀ H', Same H H' → Q (.bl (sum l == 0)) H'
theorem sum_int (l : Bytes) : decide (V.int (((sumFrom 1 l : Nat) : Int) % 37) = V.int 0) = (sum l == 0) := by
  unfold sum PRIME
  rw [Bool.eq_iff_iff, decide_eq_true_eq, beq_iff_eq]
  constructor
  · intro h
    injection h with h
    omega
  · intro h
    rw [show ((sumFrom 1 l : Nat) : Int) % 37 = 0 by omega]
theorem do_is_line (T : Txt K mg) : Does P w K mg base 4 "is_line" ["signs"] (spIsLine K) := by
  have C : Does P w K mg base 3 "check_sum" ["signs"] (spCsum K) := do_check_sum T
  refine T.d_is_line.does sc_is_line (fun vs H Q E h => ?_) (fun f cdv A outer s H vs Q E hr h => ?_)
  · obtain ⟨a, l, rfl, _⟩ := h
    rfl
  · obtain ⟨a, l, rfl, hA, hs, hz, k⟩ := h
    refine ⟨_, pss_one (ps_ret (pe_cmpR op_eq (pe_op op_mod (pe_do C hr (pa_cons (pv 0) pa_nil)) (pe_top T.c_SIGN_COUNT)) pe_int (nomark _))), ?_⟩
    refine ⟨_, rfl, a, l, rfl, hA, hs, hz, fun H1 s1 => ⟨_, _, rfl, rfl, (by show (0 : Int) < 37; decide), rfl, ?_⟩⟩
    have := k H1 s1
    rw [← sum_int] at this
    exact this
end
end Hb

set_option Elab.async false
set_option linter.all false
set_option maxRecDepth 100000
set_option maxHeartbeats 4000000
namespace Hb
open PySem L2 RgBoard TL
section
variable {P : Program} {w : World} {K : PySem.W.Frag} {mg : Str → Option Value} {base : Heap}

/-! ### a row's parts -/
def spField (K : PySem.W.Frag) (f : Row → Nat) : Sp := fun vs H Q _ => ∃ (a : Addr) (r : Row), vs = [.ref a] ∧ SqL K H a (zs (rowI r)) ∧ Q (.int (f r : Int)) H
theorem do_place_of (T : Txt K mg) : Does P w K mg base 1 "place_of" ["row"] (spField K Row.place) := by
  refine T.d_place_of.does sc_place_of (fun vs H Q E h => ?_) (fun f cdv A outer s H vs Q E hr h => ?_)
  · obtain ⟨a, r, rfl, _⟩ := h
    rfl
  · obtain ⟨a, r, rfl, hA, k⟩ := h
    refine ⟨_, pss_one (ps_ret (pe_ix ix_list (pv 0) pe_int (fun _ _ => rfl))), ?_⟩
    exact ⟨_, rfl, a, _, _, V.int (r.place : Int), rfl, rfl, hA, at_of (j := 0) rfl rfl, k⟩
theorem do_numerator_of (T : Txt K mg) : Does P w K mg base 1 "numerator_of" ["row"] (spField K Row.num) := by
  refine T.d_numerator_of.does sc_numerator_of (fun vs H Q E h => ?_) (fun f cdv A outer s H vs Q E hr h => ?_)
  · obtain ⟨a, r, rfl, _⟩ := h
    rfl
  · obtain ⟨a, r, rfl, hA, k⟩ := h
    refine ⟨_, pss_one (ps_ret (pe_ix ix_list (pv 0) pe_int (fun _ _ => rfl))), ?_⟩
    exact ⟨_, rfl, a, _, _, V.int (r.num : Int), rfl, rfl, hA, at_of (j := 1) rfl rfl, k⟩
theorem do_denominator_of (T : Txt K mg) : Does P w K mg base 1 "denominator_of" ["row"] (spField K Row.den) := by
  refine T.d_denominator_of.does sc_denominator_of (fun vs H Q E h => ?_) (fun f cdv A outer s H vs Q E hr h => ?_)
  · obtain ⟨a, r, rfl, _⟩ := h
    rfl
  · obtain ⟨a, r, rfl, hA, k⟩ := h
    refine ⟨_, pss_one (ps_ret (pe_ix ix_list (pv 0) pe_int (fun _ _ => rfl))), ?_⟩
    exact ⟨_, rfl, a, _, _, V.int (r.den : Int), rfl, rfl, hA, at_of (j := 2) rfl rfl, k⟩
def spName (K : PySem.W.Frag) : Sp := fun vs H Q _ => ∃ (a : Addr) (r : Row), vs = [.ref a] ∧ SqL K H a (zs (rowI r)) ∧ NewL H (zs (toI r.name)) Q
theorem cutV_from {xs : List V} {k : Nat} (h : k ≤ xs.length) : cutV xs (some (k : Int)) none = xs.drop k := by
  unfold cutV
  rw [HT.sIx_nat, HT.sIx_none, Nat.min_eq_left h, List.take_of_length_le (by rw [List.length_drop]; omega)]
theorem do_name_of (T : Txt K mg) : Does P w K mg base 1 "name_of" ["row"] (spName K) := by
  refine T.d_name_of.does sc_name_of (fun vs H Q E h => ?_) (fun f cdv A outer s H vs Q E hr h => ?_)
  · obtain ⟨a, r, rfl, _⟩ := h
    rfl
  · obtain ⟨a, r, rfl, hA, k⟩ := h
    refine ⟨_, pss_one (ps_ret (pe_slice sl_list (pv 0) (po_some pe_int) po_none)), ?_⟩
    refine ⟨_, rfl, 3, rfl, a, _, rfl, hA, fun p hp => k p _ (Same.put hp) hp ?_⟩
    rw [upd_same]
    have e : cutV (zs (rowI r)) (some ((3 : Nat) : Int)) none = zs (toI r.name) := by
      rw [cutV_from (by simp [rowI])]
      rfl
    exact congrArg (fun z => some (HO.lst z)) e

/-! ### is_name -/
theorem nameSign_eq (c : UInt8) : (isSign c && c != 32) = ((decide ((97 : Int) ≤ (c.toNat : Int)) && decide ((c.toNat : Int) ≤ 122)) || (decide ((48 : Int) ≤ (c.toNat : Int)) && decide ((c.toNat : Int) ≤ 57))) := by
  rw [Bool.eq_iff_iff]
  simp only [Bool.and_eq_true, Bool.or_eq_true, bne_iff_ne, isSign_iff, decide_eq_true_eq]
  have e : c = 32 ↔ c.toNat = 32 := ⟨fun h => by rw [h]; rfl, fun h => UInt8.toNat_inj.mp h⟩
  rw [Ne, e]
  omega
def spIsName (K : PySem.W.Frag) : Sp := fun vs H Q _ => ∃ (a : Addr) (b : Bytes), vs = [.ref a] ∧ SqL K H a (zs (toI b)) ∧ b.length ≤ 100000 ∧ ∀ H', Same H H' → Q (.bl (nameOk b)) H'
theorem do_is_name (T : Txt K mg) : Does P w K mg base 2 "is_name" ["name"] (spIsName K) := by
  have L : Does P w K mg base 1 "is_letter" ["byte"] (spRange 97 122) := do_is_letter T
  have D : Does P w K mg base 1 "is_digit" ["byte"] (spRange 48 57) := do_is_digit T
  refine T.d_is_name.does sc_is_name (fun vs H Q E h => ?_) (fun f cdv A outer s H vs Q E hr h => ?_)
  · obtain ⟨a, l, rfl, _⟩ := h
    rfl
  · obtain ⟨a, b, rfl, hA, hz, k⟩ := h
    have zl : (zs (toI b)).length = b.length := by rw [List.length_map, toI_length]
    refine ⟨_, pss_cons (ps_if (pt_not (pt_chain op_le op_le pe_int (pe_callB call_len_seq rfl T.b_len PySem.boot_len (pa_cons (pv 0) pa_nil)) (pe_top T.c_LONGEST_NAME))) (pss_one (ps_ret pe_bl)) pss_nil)
      (pss_one (ps_ret (pe_callB (cr_all rfl) rfl T.b_all (by decide +kernel) (pa_cons (pe_lc (own := [("byte", 1)]) rfl sc_is_name.nd (pi_list (pv 0)) (blkOk_by (by show blkC N_is_name (defScope s_is_name) _ _ = true; decide +kernel)) (fun s H C cl fp => pg_name (i := 1) sc_is_name.nd rfl (Or.inl rfl)) (fun s H C cl fp => pts_nil)
        (fun s H C cl fp => pe_or (pe_do L hr (pa_cons (pv 1) pa_nil)) (pe_one (pe_do D hr (pa_cons (pv 1) pa_nil))))) pa_nil)))), ?_⟩
    refine ⟨_, rfl, a, _, rfl, .inl hA, _, _, rfl, rfl, _, rfl, ?_⟩
    rw [zl]
    have kf : (decide (1 ≤ b.length) && decide (b.length ≤ 12)) = false → Q (.bl false) H := fun h => by
      have e : nameOk b = false := by
        unfold nameOk
        rw [← Bool.and_assoc, h, Bool.false_and]
      have := k H (Same.refl _)
      rw [e] at this
      exact this
    refine ite_b (fun h1 => ?_) (fun h1 => ?_)
    · have h1 : (1 : Int) ≤ (b.length : Int) := of_decide_eq_true h1
      refine ⟨_, _, rfl, rfl, _, rfl, ?_⟩
      refine ite_b (fun h2 => ?_) (fun h2 => ?_)
      · have h2 : decide ((b.length : Int) ≤ 12) = false := by simpa using h2
        have h2 : ¬ (b.length : Int) ≤ 12 := of_decide_eq_false h2
        refine kf ?_
        rw [decide_eq_false (show ¬ b.length ≤ 12 by omega), Bool.and_false]
      · have h2 : decide ((b.length : Int) ≤ 12) = true := by simpa using h2
        have h2 : (b.length : Int) ≤ 12 := of_decide_eq_true h2
        refine ⟨_, rfl, a, rfl, ⟨_, hA⟩, fun D hD => ?_⟩
        refine lc_gen (K := K) (a := a) (xs := zs (toI b)) (fun i acc _ => acc = ((b.take i).map fun c => V.bl (isSign c && c != 32)) ∧ i ≤ b.length) hD hA (by rw [zl, sizeLine_eq]; omega) ?_ ⟨rfl, Nat.zero_le _⟩ ?_ ?_
        · rintro i acc _ ⟨rfl, hi⟩
          rw [List.length_map, List.length_take]
          omega
        · rintro i x acc H1 hx s1 hD1 ⟨rfl, hi⟩ Kt nx
          obtain ⟨c, hc, rfl⟩ := toI_get hx
          have hi : i < b.length := (List.getElem?_eq_some_iff.mp hc).1
          have kk : ∀ z : Bool, z = (isSign c && c != 32) → Kt (.bl z) H1 := fun z hz => nx _ _ (Same.refl _) fun H5 _ => ⟨by rw [List.take_add_one, hc, hz]; simp, by omega⟩
          refine ⟨rfl, _, rfl, _, rfl, _, rfl, ?_⟩
          rw [nameSign_eq] at kk
          refine ite_b (fun h => ?_) (fun h => ?_)
          · exact kk _ (by rw [h, Bool.true_or])
          · exact ⟨_, rfl, _, rfl, kk _ (by rw [h, Bool.false_or])⟩
        · rintro acc H1 s1 hD1 ⟨rfl, _⟩
          refine ⟨D, b.map fun c => (isSign c && c != 32), rfl, SqL.of ?_, ?_⟩
          · rw [hD1, List.take_of_length_le (by rw [zl]; exact Nat.le_refl _), List.map_map]
            rfl
          · have e : (b.map fun c => (isSign c && c != 32)).all id = nameOk b := by
              unfold nameOk
              rw [decide_eq_true (show 1 ≤ b.length by omega), decide_eq_true (show b.length ≤ 12 by omega), Bool.true_and, Bool.true_and, List.all_map]
              rfl
            rw [e]
            exact k H1 s1
    · have h1 : ¬ (1 : Int) ≤ (b.length : Int) := of_decide_eq_false h1
      refine ⟨_, rfl, ?_⟩
      refine kf ?_
      rw [decide_eq_false (show ¬ 1 ≤ b.length by omega), Bool.false_and]

/-! ### greatest_divisor, is_total, is_total_less -/
def intAt (σ : St) (i : Nat) : Nat := match σ[i]? with
  | some (some (V.int i)) => i.toNat
  | _ => 0
def spGcd : Sp := fun vs H Q _ => ∃ n m : Nat, vs = [.int (n : Int), .int (m : Int)] ∧ Q (.int (Nat.gcd n m : Int)) H
theorem do_greatest_divisor (T : Txt K mg) : Does P w K mg base 1 "greatest_divisor" ["first", "second"] spGcd := by
  refine T.d_greatest_divisor.does sc_greatest_divisor (fun vs H Q E h => ?_) (fun f cdv A outer s H vs Q E hr h => ?_)
  · obtain ⟨n, m, rfl, _⟩ := h
    rfl
  · obtain ⟨n, m, rfl, k⟩ := h
    refine ⟨_, pss_cons (ps_set (i := 2) sc_greatest_divisor.nd rfl (Or.inl rfl) (pv 0)) (pss_cons (ps_set (i := 3) sc_greatest_divisor.nd rfl (Or.inl rfl) (pv 1))
      (pss_cons (ps_while PassesOwn.never (pt_cmpR op_ne (pv 3) pe_int (nomark _)) (pss_cons (ps_set (i := 4) sc_greatest_divisor.nd rfl (Or.inl rfl) (pe_op op_mod (pv 2) (pv 3))) (pss_cons (ps_set (i := 2) sc_greatest_divisor.nd rfl (Or.inl rfl) (pv 3)) (pss_one (ps_set (i := 3) sc_greatest_divisor.nd rfl (Or.inl rfl) (pv 4))))))
      (pss_one (ps_ret (pv 2))))), ?_⟩
    refine ⟨_, rfl, _, rfl, ?_⟩
    refine while_by (fun σ H1 => H1 = H ∧ ∃ (g l : Nat) (z : Option V), σ = [some (.int (n : Int)), some (.int (m : Int)), some (.int (g : Int)), some (.int (l : Int)), z] ∧ Nat.gcd g l = Nat.gcd n m)
      (fun σ _ => intAt σ 3) ⟨rfl, n, m, _, rfl, rfl⟩ ?_ (fun σ H Q Q' hq ⟨v, e, s, k, e2, q⟩ => ⟨v, e, s, k, e2, hq _ _ q⟩)
    rintro σ H1 ⟨rfl, g, l, z, rfl, hg⟩
    refine ⟨_, rfl, rfl, _, rfl, ?_⟩
    refine ite_b (fun h => ?_) (fun h => ?_)
    · have h0 : l ≠ 0 := fun e => by
        rw [e] at h
        exact absurd h (by decide)
      have hl : 0 < l := Nat.pos_of_ne_zero h0
      refine ⟨_, rfl, _, rfl, _, _, rfl, rfl, (by show (0 : Int) < (l : Int); omega), _, rfl, _, rfl, ?_⟩
      refine ⟨⟨rfl, l, g % l, some (.int ((g : Int) % (l : Int))), ?_, ?_⟩, ?_⟩
      · rw [Int.natCast_emod]
        rfl
      · rw [← hg, Nat.gcd_comm g l, Nat.gcd_rec l g, Nat.gcd_comm]
      · show ((g : Int) % (l : Int)).toNat < ((l : Nat) : Int).toNat
        have := Int.emod_lt_of_pos (g : Int) (show (0 : Int) < l by omega)
        have := Int.emod_nonneg (g : Int) (show (l : Int) ≠ 0 by omega)
        omega
    · have h0 : l = 0 := by
        have h : (V.int (l : Int)) = V.int 0 := by simpa using h
        injection h with h
        omega
      rw [h0, Nat.gcd_zero_right] at hg
      refine ⟨_, rfl, ?_⟩
      rw [hg]
      exact k
def totalOk (n d : Nat) : Bool := decide (n ≤ 999999) && (decide (1 ≤ d) && (decide (d ≤ 9999) && Nat.gcd n d == 1))
def spTotal : Sp := fun vs H Q _ => ∃ n d : Nat, vs = [.int (n : Int), .int (d : Int)] ∧ Q (.bl (totalOk n d)) H
theorem do_is_total (T : Txt K mg) : Does P w K mg base 2 "is_total" ["numerator", "denominator"] spTotal := by
  have G : Does P w K mg base 1 "greatest_divisor" ["first", "second"] spGcd := do_greatest_divisor T
  refine T.d_is_total.does sc_is_total (fun vs H Q E h => ?_) (fun f cdv A outer s H vs Q E hr h => ?_)
  · obtain ⟨n, m, rfl, _⟩ := h
    rfl
  · obtain ⟨n, d, rfl, k⟩ := h
    unfold totalOk at k
    refine ⟨_, pss_cons (ps_if (pt_cmpR op_gt (pv 0) (pe_top T.c_GREATEST_NUMERATOR) (nomark _)) (pss_one (ps_ret pe_bl)) pss_nil)
      (pss_cons (ps_if (pt_not (pt_chain op_le op_le pe_int (pv 1) (pe_top T.c_GREATEST_DENOMINATOR))) (pss_one (ps_ret pe_bl)) pss_nil)
      (pss_one (ps_ret (pe_cmpR op_eq (pe_do G hr (pa_cons (pv 0) (pa_cons (pv 1) pa_nil))) pe_int (nomark _))))), ?_⟩
    refine ⟨_, rfl, _, _, rfl, rfl, _, rfl, ?_⟩
    refine ite_b (fun h => ?_) (fun h => ?_)
    · have h : (999999 : Int) < (n : Int) := of_decide_eq_true h
      rw [decide_eq_false (show ¬ n ≤ 999999 by omega), Bool.false_and] at k
      exact k
    · have h : ¬ (999999 : Int) < (n : Int) := of_decide_eq_false h
      rw [decide_eq_true (show n ≤ 999999 by omega), Bool.true_and] at k
      refine ⟨_, rfl, _, _, rfl, rfl, _, rfl, ?_⟩
      refine ite_b (fun h1 => ?_) (fun h1 => ?_)
      · have h1 : (1 : Int) ≤ (d : Int) := of_decide_eq_true h1
        rw [decide_eq_true (show 1 ≤ d by omega), Bool.true_and] at k
        refine ⟨_, _, rfl, rfl, _, rfl, ?_⟩
        refine ite_b (fun h2 => ?_) (fun h2 => ?_)
        · have h2 : decide ((d : Int) ≤ 9999) = false := by simpa using h2
          have h2 : ¬ (d : Int) ≤ 9999 := of_decide_eq_false h2
          rw [decide_eq_false (show ¬ d ≤ 9999 by omega), Bool.false_and] at k
          exact k
        · have h2 : decide ((d : Int) ≤ 9999) = true := by simpa using h2
          have h2 : (d : Int) ≤ 9999 := of_decide_eq_true h2
          rw [decide_eq_true (show d ≤ 9999 by omega), Bool.true_and] at k
          refine ⟨_, rfl, _, rfl, n, d, rfl, rfl, ?_⟩
          have e : decide (V.int (Nat.gcd n d : Int) = V.int 1) = (Nat.gcd n d == 1) := by
            rw [Bool.eq_iff_iff, decide_eq_true_eq, beq_iff_eq]
            constructor
            · intro h
              injection h with h
              omega
            · intro h
              rw [h]
              rfl
          rw [e]
          exact k
      · have h1 : ¬ (1 : Int) ≤ (d : Int) := of_decide_eq_false h1
        rw [decide_eq_false (show ¬ 1 ≤ d by omega), Bool.false_and] at k
        exact ⟨_, rfl, k⟩
def spLess (K : PySem.W.Frag) : Sp := fun vs H Q _ => ∃ (a b : Addr) (r o : Row), vs = [.ref a, .ref b] ∧ SqL K H a (zs (rowI r)) ∧ SqL K H b (zs (rowI o)) ∧ r.num < 2 ^ 32 ∧ o.num < 2 ^ 32 ∧ Q (.bl (!decide (o.num * r.den ≤ r.num * o.den))) H
theorem do_is_total_less (T : Txt K mg) : Does P w K mg base 2 "is_total_less" ["row", "other"] (spLess K) := by
  have NU : Does P w K mg base 1 "numerator_of" ["row"] (spField K Row.num) := do_numerator_of T
  have DE : Does P w K mg base 1 "denominator_of" ["row"] (spField K Row.den) := do_denominator_of T
  refine T.d_is_total_less.does sc_is_total_less (fun vs H Q E h => ?_) (fun f cdv A outer s H vs Q E hr h => ?_)
  · obtain ⟨a, b, r, o, rfl, _⟩ := h
    rfl
  · obtain ⟨a, b, r, o, rfl, hA, hB, sr, so, k⟩ := h
    have h1 := sr
    have h2 := so
    refine ⟨_, pss_one (ps_ret (pe_cmpR op_lt (pe_op op_mul (pe_do NU hr (pa_cons (pv 0) pa_nil)) (pe_do DE hr (pa_cons (pv 1) pa_nil))) (pe_op op_mul (pe_do NU hr (pa_cons (pv 1) pa_nil)) (pe_do DE hr (pa_cons (pv 0) pa_nil))) (nomark _))), ?_⟩
    refine ⟨_, rfl, a, r, rfl, hA, _, rfl, b, o, rfl, hB, _, _, rfl, rfl, .inl ⟨by omega, by omega⟩, ?_⟩
    refine ⟨_, rfl, b, o, rfl, hB, _, rfl, a, r, rfl, hA, _, _, rfl, rfl, .inl ⟨by omega, by omega⟩, _, _, rfl, rfl, ?_⟩
    have e : decide ((r.num : Int) * (o.den : Int) < (o.num : Int) * (r.den : Int)) = !decide (o.num * r.den ≤ r.num * o.den) := by
      rw [← Int.natCast_mul, ← Int.natCast_mul, Bool.eq_iff_iff, decide_eq_true_eq, Bool.not_eq_true', decide_eq_false_iff_not]
      omega
    rw [← e] at k
    exact k
end
end Hb

set_option Elab.async false
set_option linter.all false
set_option maxRecDepth 100000
set_option maxHeartbeats 4000000
namespace Hb
open PySem L2 RgBoard TL
/-! ### the mathematics of a row behind others -/
theorem ok_eq (r : Row) : r.ok = (nameOk r.name && totalOk r.num r.den) := rfl
theorem rb_bad {rs : List Row} {r : Row} (h : r.ok = false) : rightBehind rs r = false := by
  unfold rightBehind
  rw [h, Bool.and_false]
theorem rb_nil {r : Row} (h : r.ok = true) : rightBehind [] r = (r.place == 1) := by
  unfold rightBehind fitsBehind
  rw [h]
  simp
theorem rb_last {rs : List Row} {r x : Row} (h : r.ok = true) (hl : rs.length < 64) (e : rs.getLast? = some x) :
    rightBehind rs r = (!(rs.any fun (x : Row) => x.name == r.name) && ((r.place == x.place || r.place == rs.length + 1) && decide (x.num * r.den ≤ r.num * x.den))) := by
  unfold rightBehind fitsBehind
  rw [h, e, decide_eq_true hl, Bool.and_true, Bool.true_and]
  rfl
theorem any_names (rs : List Row) (r : Row) : ((rs.map fun x => toI x.name).any fun ns => decide (ns = toI r.name)) = (rs.any fun (x : Row) => x.name == r.name) := by
  rw [List.any_map]
  congr 1
  funext x
  show decide (toI x.name = toI r.name) = (x.name == r.name)
  rw [Bool.eq_iff_iff, decide_eq_true_eq, beq_iff_eq]
  exact ⟨toI_inj, fun h => by rw [h]⟩
theorem int_eq (a b : Nat) : decide (V.int (a : Int) = V.int (b : Int)) = (a == b) := by
  rw [Bool.eq_iff_iff, decide_eq_true_eq, beq_iff_eq]
  constructor
  · intro h
    injection h with h
    omega
  · intro h
    rw [h]
theorem paired_map {α β γ : Type} {F : α → β → Prop} {G : α → γ → Prop} {f : β → γ} (h : ∀ a b, F a b → G a (f b)) : ∀ {l : List α} {m : List β}, Paired F l m → Paired G l (m.map f)
  | _, _, .nil => .nil
  | _, _, .cons r t => .cons (h _ _ r) (paired_map h t)
section
variable {P : Program} {w : World} {K : PySem.W.Frag} {mg : Str → Option Value} {base : Heap}
/-- rows stand at these addresses -/
def RowsAt (K : PySem.W.Frag) (H : Hp) (as : List Addr) (rs : List Row) : Prop := Paired (fun a r => SqL K H a (zs (rowI r))) as rs
theorem RowsAt.same {H H' : Hp} {as : List Addr} {rs : List Row} (h : RowsAt K H as rs) (s : Same H H') : RowsAt K H' as rs := Paired.imp' (fun _ _ q => s.seq q) h
theorem RowsAt.len {H : Hp} {as : List Addr} {rs : List Row} (h : RowsAt K H as rs) : as.length = rs.length := Paired.length h
theorem refs_get {as : List Addr} {i : Nat} {x : V} (h : (as.map V.ref)[i]? = some x) : ∃ a, as[i]? = some a ∧ x = .ref a := by
  rw [List.getElem?_map] at h
  cases e : as[i]? with
  | none => rw [e] at h; cases h
  | some a =>
    rw [e] at h
    exact ⟨a, rfl, (Option.some.inj h).symm⟩
def spBehind (K : PySem.W.Frag) : Sp := fun vs H Q _ => ∃ (a b : Addr) (r : Row) (as : List Addr) (rs : List Row), vs = [.ref a, .ref b] ∧ SqL K H a (zs (rowI r)) ∧ SqL K H b (as.map V.ref) ∧ RowsAt K H as rs ∧ r.name.length ≤ 1000 ∧ (∀ x ∈ rs, x.num < 2 ^ 32) ∧ rs.length < 64 ∧
  ∀ H', Same H H' → Q (.bl (rightBehind rs r)) H'
theorem do_is_right_behind (T : Txt K mg) : Does P w K mg base 3 "is_right_behind" ["row", "before"] (spBehind K) := by
  have NM : Does P w K mg base 2 "name_of" ["row"] (spName K) := (do_name_of T).mono (by decide)
  have PL : Does P w K mg base 2 "place_of" ["row"] (spField K Row.place) := (do_place_of T).mono (by decide)
  have NU : Does P w K mg base 2 "numerator_of" ["row"] (spField K Row.num) := (do_numerator_of T).mono (by decide)
  have DE : Does P w K mg base 2 "denominator_of" ["row"] (spField K Row.den) := (do_denominator_of T).mono (by decide)
  have IN : Does P w K mg base 2 "is_name" ["name"] (spIsName K) := do_is_name T
  have IT : Does P w K mg base 2 "is_total" ["numerator", "denominator"] spTotal := do_is_total T
  have LE : Does P w K mg base 2 "is_total_less" ["row", "other"] (spLess K) := do_is_total_less T
  refine T.d_is_right_behind.does sc_is_right_behind (fun vs H Q E h => ?_) (fun f cdv A outer s H vs Q E hr h => ?_)
  · obtain ⟨a, b, r, as, rs, rfl, _⟩ := h
    rfl
  · obtain ⟨a, b, r, as, rs, rfl, hA, hB, hR, sr, srs, hl, k⟩ := h
    have ln := hR.len
    refine ⟨_, pss_cons (ps_if (PW.pt (pw_or (pt_not (pt_val (pe_do IN hr (pa_cons (pe_do NM hr (pa_cons (pv 0) pa_nil)) pa_nil)))) (pw_or1 (pt_not (pt_val (pe_do IT hr (pa_cons (pe_do NU hr (pa_cons (pv 0) pa_nil)) (pa_cons (pe_do DE hr (pa_cons (pv 0) pa_nil)) pa_nil)))))))) (pss_one (ps_ret pe_bl)) pss_nil)
      (pss_cons (ps_if (pt_cmpR op_eq (pe_callB call_len_seq rfl T.b_len PySem.boot_len (pa_cons (pv 1) pa_nil)) pe_int (nomark _)) (pss_one (ps_ret (pe_cmpR op_eq (pe_do PL hr (pa_cons (pv 0) pa_nil)) pe_int (nomark _)))) pss_nil)
      (pss_cons (ps_set (i := 2) sc_is_right_behind.nd rfl (by first | exact Or.inl rfl | exact Or.inr rfl) (pe_ix ix_list (pv 1) (pe_un un_neg pe_int) (fun _ _ => rfl)))
      (pss_cons (ps_if (PW.pt (pw_and (pt_cmpR op_ne (pe_do PL hr (pa_cons (pv 0) pa_nil)) (pe_do PL hr (pa_cons (pv 2) pa_nil)) (nomark _)) (pw_and1 (pt_cmpR op_ne (pe_do PL hr (pa_cons (pv 0) pa_nil)) (pe_op op_add (pe_callB call_len_seq rfl T.b_len PySem.boot_len (pa_cons (pv 1) pa_nil)) pe_int) (nomark _))))) (pss_one (ps_ret pe_bl)) pss_nil)
      (pss_cons (ps_if (pt_val (pe_do LE hr (pa_cons (pv 0) (pa_cons (pv 2) pa_nil)))) (pss_one (ps_ret pe_bl)) pss_nil)
      (pss_one (ps_ret (pe_cmpR (op_notInL hr.in1.units) (pe_do NM hr (pa_cons (pv 0) pa_nil)) (pe_lc (own := [("earlier", 3)]) rfl sc_is_right_behind.nd (pi_list (pv 1)) (blkOk_by (by show blkC N_is_right_behind (defScope s_is_right_behind) _ _ = true; decide +kernel)) (fun s H C cl fp => pg_name (i := 3) sc_is_right_behind.nd rfl (Or.inl rfl)) (fun s H C cl fp => pts_nil)
        (fun s H C cl fp => pe_do NM hr (pa_cons (pv 3) pa_nil))) (by with_unfolding_all rfl)))))))), ?_⟩
    refine ⟨_, rfl, a, r, rfl, hA, fun p H1 s1 hp e1 => ?_⟩
    refine ⟨p, r.name, rfl, SqL.of e1, by omega, fun H2 s2 => ?_⟩
    have S2 : Same H H2 := s1.trans s2
    have kf : r.ok = false → Q (.bl false) H2 := fun h => by
      have := k H2 S2
      rw [rb_bad h] at this
      exact this
    refine ⟨_, rfl, ?_⟩
    refine ite_b (fun h => ?_) (fun h => ?_)
    · have h : nameOk r.name = false := by simpa using h
      refine iteT (kf ?_)
      rw [ok_eq, h, Bool.false_and]
    · have hn : nameOk r.name = true := by simpa using h
      refine ⟨_, rfl, a, r, rfl, S2.seq hA, _, rfl, a, r, rfl, S2.seq hA, r.num, r.den, rfl, _, rfl, ?_⟩
      refine ite_b (fun h => ?_) (fun h => ?_)
      · have h : totalOk r.num r.den = false := by simpa using h
        refine kf ?_
        rw [ok_eq, h, Bool.and_false]
      · have ht : totalOk r.num r.den = true := by simpa using h
        have hok : r.ok = true := by rw [ok_eq, hn, ht]; rfl
        have sr2 : r.num < 2 ^ 32 := by
          unfold totalOk at ht
          simp only [Bool.and_eq_true, decide_eq_true_eq] at ht
          omega
        refine ⟨_, rfl, b, _, rfl, .inl (S2.seq hB), rfl, _, rfl, ?_⟩
        rw [List.length_map, ln]
        refine ite_b (fun h => ?_) (fun h => ?_)
        · have h : V.int (rs.length : Int) = V.int 0 := of_decide_eq_true h
          injection h with h
          have e : rs = [] := List.eq_nil_of_length_eq_zero (by omega)
          subst e
          refine ⟨_, rfl, a, r, rfl, S2.seq hA, rfl, ?_⟩
          have := k H2 S2
          rw [rb_nil hok, ← int_eq] at this
          exact this
        · have h : ¬ V.int (rs.length : Int) = V.int 0 := of_decide_eq_false h
          have h0 : rs ≠ [] := fun e => h (by rw [e]; rfl)
          obtain ⟨x, ex⟩ : ∃ x, rs.getLast? = some x := ⟨_, List.getLast?_eq_some_getLast h0⟩
          obtain ⟨l0, el⟩ : ∃ l0, rs = l0 ++ [x] := by
            obtain ⟨ys, e⟩ := List.getLast?_eq_some_iff.mp ex
            exact ⟨ys, e⟩
          have hx : rs[l0.length]? = some x := by rw [el]; simp
          have ll : rs.length = l0.length + 1 := by rw [el]; simp
          obtain ⟨c, hc⟩ : ∃ c, as[l0.length]? = some c := ⟨_, List.getElem?_eq_getElem (by omega)⟩
          obtain ⟨x', hx', hX⟩ := paired_get hR hc
          rw [hx] at hx'
          cases hx'
          have ac : atI (as.map V.ref) (-1) = some (.ref c) := by
            have e : as = as.take l0.length ++ [c] := by
              have := List.take_add_one (l := as) (i := l0.length)
              rw [hc] at this
              rw [List.take_of_length_le (show as.length ≤ l0.length + 1 by omega)] at this
              simpa using this
            rw [e, List.map_append]
            exact atI_last _ _
          have sx : x.num < 2 ^ 32 := srs x (List.mem_of_getLast? ex)
          have kk := rb_last hok hl ex
          refine ⟨_, rfl, _, rfl, b, _, _, _, rfl, rfl, S2.seq hB, ac, ?_⟩
          refine ⟨_, rfl, a, r, rfl, S2.seq hA, _, rfl, c, x, rfl, S2.seq hX, rfl, _, rfl, ?_⟩
          have kf2 : (r.place == x.place || r.place == rs.length + 1) = false → Q (.bl false) H2 := fun h => by
            have := k H2 S2
            rw [kk, h, Bool.false_and, Bool.and_false] at this
            exact this
          have ll2 : ((as.map V.ref).length : Int) + 1 = ((rs.length + 1 : Nat) : Int) := by rw [List.length_map, ln]; omega
          have e2 : ∀ z : Int, z = ((rs.length + 1 : Nat) : Int) → decide (V.int (r.place : Int) = V.int z) = (r.place == rs.length + 1) := fun z hz => by subst hz; exact int_eq _ _
          refine ite_b (fun h => ⟨_, rfl, a, r, rfl, S2.seq hA, _, rfl, b, _, rfl, .inl (S2.seq hB), _, _, rfl, rfl, rfl, _, rfl, ite_b (fun h2 => kf2 ?_) (fun h2 => ?_)⟩) (fun h => iteF ?_)
          · dsimp only at h2
            rw [e2 _ ll2] at h2
            rw [int_eq] at h
            rw [Bool.not_eq_true'] at h h2
            rw [h, h2]
            rfl
          all_goals
            have hc2 : (r.place == x.place || r.place == rs.length + 1) = true := by
              first
                | (dsimp only at h2; rw [e2 _ ll2, Bool.not_eq_false'] at h2; rw [h2, Bool.or_true])
                | (rw [int_eq, Bool.not_eq_false'] at h; rw [h, Bool.true_or])
            rw [hc2, Bool.true_and] at kk
            refine ⟨_, rfl, _, rfl, a, c, r, x, rfl, S2.seq hA, S2.seq hX, sr2, sx, _, rfl, ?_⟩
            refine ite_b (fun h3 => ?_) (fun h3 => ?_)
            · rw [Bool.not_eq_true'] at h3
              rw [h3, Bool.and_false] at kk
              have := k H2 S2
              rw [kk] at this
              exact this
            · rw [Bool.not_eq_false'] at h3
              rw [h3, Bool.and_true, ← any_names] at kk
              refine ⟨_, rfl, a, r, rfl, S2.seq hA, fun p0 H3 s3 hp0 e3 => ?_⟩
              have S3 : Same H H3 := S2.trans s3
              refine ⟨_, rfl, b, rfl, ⟨_, S3.seq hB⟩, fun D hD => ?_⟩
              refine lc_gen (K := K) (a := b) (xs := as.map V.ref) (fun i acc Hi => ∃ bs, acc = bs.map V.ref ∧ i ≤ rs.length ∧ Paired (fun q y => q ≠ D ∧ Hi q = some (.lst (zs (toI y.name)))) bs (rs.take i)) hD (S3.seq hB) (by rw [List.length_map, ln, sizeLine_eq]; omega) ?_ ⟨[], rfl, Nat.zero_le _, .nil⟩ ?_ ?_
              · rintro i acc Hi ⟨bs, rfl, hi, pr⟩
                rw [List.length_map, Paired.length pr, List.length_take]
                omega
              · rintro i v acc H4 hv s4 hD4 ⟨bs, rfl, hi, pr⟩ Kt nx
                obtain ⟨c', hc', rfl⟩ := refs_get hv
                obtain ⟨y, hy, hY⟩ := paired_get hR hc'
                have hi : i < rs.length := (List.getElem?_eq_some_iff.mp hy).1
                refine ⟨rfl, _, rfl, c', y, rfl, (S3.trans s4).seq hY, fun q H5 s5 hq e5 => nx _ _ s5 fun H6 s6 => ⟨bs ++ [q], by simp, by omega, ?_⟩⟩
                have qD : q ≠ D := fun e => by rw [e, hD4] at hq; cases hq
                rw [List.take_add_one, hy]
                exact Paired.snoc (Paired.imp' (fun _ _ z => ⟨z.1, s6 _ _ z.1 (s5 _ _ z.2)⟩) pr) ⟨qD, s6 _ _ qD e5⟩
              · rintro acc H4 s4 hD4 ⟨bs, rfl, _, pr⟩
                rw [List.take_of_length_le (by rw [List.length_map]; omega)] at pr
                refine ⟨p0, toI r.name, D, bs, rs.map fun (y : Row) => toI y.name, rfl, SqL.of (s4 _ _ e3), rfl, SqL.of hD4, paired_map (G := fun b ns => SqL K H4 b (zs ns)) (f := fun (y : Row) => toI y.name) (fun _ _ z => SqL.of z.2) pr, ?_⟩
                have := k H4 (S3.trans s4)
                rw [kk] at this
                exact this
end
end Hb

set_option Elab.async false
set_option linter.all false
set_option maxRecDepth 100000
set_option maxHeartbeats 4000000
namespace Hb
open PySem L2 RgBoard TL
/-! ### new lists -/
theorem cat_new {H : Hp} {l b : Addr} {xs ys : List V} {Q : VK} (hl : H l = some (.lst xs)) (hb : H b = some (.lst ys)) (hz : xs.length + ys.length ≤ 100000) (k : NewL H (xs ++ ys) Q) : rCat (.ref l) (.ref b) H Q :=
  ⟨l, b, xs, ys, rfl, rfl, hl, hb, by rw [sizeLine_eq]; omega, fun p hp => k p _ (Same.put hp) hp upd_same⟩
theorem snoc_new {H : Hp} {l : Addr} {xs : List V} {v : V} {Q : VK} (hl : H l = some (.lst xs)) (hz : xs.length + 1 ≤ 100000) (k : NewL H (xs ++ [v]) Q) : [v].length ≤ sizeLine ∧ ∀ q, H q = none → rCat (.ref l) (.ref q) (upd H q (.lst [v])) Q :=
  ⟨by show 1 ≤ sizeLine; decide, fun q hq => cat_new (by rw [upd_ne (ne_of_none hl hq)]; exact hl) upd_same hz fun p H' s hp e => k p H' ((Same.put hq).trans s) ((Same.put hq).free hp) e⟩
theorem log_small {n : Nat} (h : n < 2 ^ 200) : ((n : Int).natAbs).log2 < 1920 := by
  rw [Int.natAbs_natCast]
  by_cases h0 : n = 0
  · rw [h0]
    decide
  · have := (Nat.log2_lt h0).mpr h
    omega
theorem tl_dig (n : Nat) : (tl (Str.ofString (toString ((n : Nat) : Int)))).map (fun (m : Nat) => (m : Int)) = dig n := by
  rw [tl_num]
  unfold numL dig
  rw [List.map_map]
  rfl
structure RowMid (r : Row) : Prop where
  pl : r.place < 10 ^ 40
  nu : r.num < 10 ^ 40
  de : r.den < 10 ^ 40
  nl : r.name.length ≤ 100
theorem lt_two {n : Nat} (h : n < 10 ^ 40) : n < 2 ^ 200 := by omega
theorem num_size {n : Nat} (h : n < 10 ^ 40) : (Str.ofString (toString ((n : Nat) : Int))).cps.size ≤ 40 := by
  have := numL_len (n := n) (k := 40) (by decide) h
  rw [← tl_num] at this
  simpa [tl] using this
theorem dig_len {n k : Nat} (hk : 0 < k) (h : n < 10 ^ k) : (dig n).length ≤ k := by
  rw [dig_length]
  exact decimal_len n k hk h
section
variable {P : Program} {w : World} {K : PySem.W.Frag} {mg : Str → Option Value} {base : Heap}

/-! ### words_of -/
def spWords (K : PySem.W.Frag) : Sp := fun vs H Q _ => ∃ (a : Addr) (r : Row), vs = [.ref a] ∧ SqL K H a (zs (rowI r)) ∧ RowMid r ∧ NewL H (zs (toI r.text)) Q
theorem do_words_of (T : Txt K mg) : Does P w K mg base 2 "words_of" ["row"] (spWords K) := by
  have NM : Does P w K mg base 1 "name_of" ["row"] (spName K) := do_name_of T
  have PL : Does P w K mg base 1 "place_of" ["row"] (spField K Row.place) := do_place_of T
  have NU : Does P w K mg base 1 "numerator_of" ["row"] (spField K Row.num) := do_numerator_of T
  have DE : Does P w K mg base 1 "denominator_of" ["row"] (spField K Row.den) := do_denominator_of T
  have SG : Does P w K mg base 1 "signs_of" ["text"] spSigns := do_signs_of T
  refine T.d_words_of.does sc_words_of (fun vs H Q E h => ?_) (fun f cdv A outer s H vs Q E hr h => ?_)
  · obtain ⟨a, r, rfl, _⟩ := h
    rfl
  · obtain ⟨a, r, rfl, hA, hf, k⟩ := h
    have l1 : (dig r.place).length ≤ 40 := dig_len (by decide) hf.pl
    have l2 : (dig r.num).length ≤ 40 := dig_len (by decide) hf.nu
    have l3 : (dig r.den).length ≤ 40 := dig_len (by decide) hf.de
    have l4 : (toI r.name).length ≤ 100 := by rw [toI_length]; exact hf.nl
    have b1 := hf.pl
    have b2 := hf.nu
    have b3 := hf.de
    refine ⟨_, pss_cons (ps_set (i := 1) sc_words_of.nd rfl (by first | exact Or.inl rfl | exact Or.inr rfl)
        (pe_op op_cat (pe_op op_cat (pe_op op_cat (pe_op op_cat (pe_do SG hr (pa_cons (pe_callTy call_str_int rfl T.b_str (by decide +kernel) (pa_cons (pe_do PL hr (pa_cons (pv 0) pa_nil)) pa_nil)) pa_nil)) (pe_lst (pa_cons (pe_top T.c_BLANK) pa_nil))) (pe_do NM hr (pa_cons (pv 0) pa_nil))) (pe_lst (pa_cons (pe_top T.c_BLANK) pa_nil)))
          (pe_do SG hr (pa_cons (pe_callTy call_str_int rfl T.b_str (by decide +kernel) (pa_cons (pe_do NU hr (pa_cons (pv 0) pa_nil)) pa_nil)) pa_nil))))
      (pss_cons (ps_if (pt_cmpR op_ne (pe_do DE hr (pa_cons (pv 0) pa_nil)) pe_int (nomark _))
        (pss_one (ps_expr (pe_bm PySem.F.plainAttrs_list PySem.F.slot_list_extend PySem.F.type_list_extend mt_extend (pv 1) (pa_cons (pe_op op_cat (pe_do SG hr (pa_cons pe_str pa_nil)) (pe_do SG hr (pa_cons (pe_callTy call_str_int rfl T.b_str (by decide +kernel) (pa_cons (pe_do DE hr (pa_cons (pv 0) pa_nil)) pa_nil)) pa_nil))) pa_nil)))) pss_nil)
      (pss_one (ps_ret (pv 1)))), ?_⟩
    refine ⟨_, rfl, a, r, rfl, hA, _, rfl, log_small (lt_two b1), _, rfl, ?_, fun p1 H1 s1 hp1 e1 => ?_⟩
    · have := num_size b1
      rw [sizeLine_eq]
      exact Nat.le_trans this (by decide)
    have e1 : H1 p1 = some (.lst (zs (dig r.place))) := by rw [e1]; exact congrArg (fun z => some (HO.lst (zs z))) (tl_dig r.place)
    refine snoc_new e1 (by rw [List.length_map]; omega) fun p2 H2 s2 hp2 e2 => ?_
    have S2 := s1.trans s2
    refine ⟨_, rfl, a, r, rfl, S2.seq hA, fun p3 H3 s3 hp3 e3 => ?_⟩
    have S3 := S2.trans s3
    refine cat_new (s3 _ _ e2) e3 (by simp only [List.length_append, List.length_map, List.length_singleton]; omega) fun p4 H4 s4 hp4 e4 => ?_
    have S4 := S3.trans s4
    refine snoc_new e4 (by simp only [List.length_append, List.length_map, List.length_singleton]; omega) fun p5 H5 s5 hp5 e5 => ?_
    have S5 := S4.trans s5
    refine ⟨_, rfl, a, r, rfl, S5.seq hA, _, rfl, log_small (lt_two b2), _, rfl, ?_, fun p6 H6 s6 hp6 e6 => ?_⟩
    · have := num_size b2
      rw [sizeLine_eq]
      exact Nat.le_trans this (by decide)
    have e6 : H6 p6 = some (.lst (zs (dig r.num))) := by rw [e6]; exact congrArg (fun z => some (HO.lst (zs z))) (tl_dig r.num)
    have S6 := S5.trans s6
    refine cat_new (s6 _ _ e5) e6 (by simp only [List.length_append, List.length_map, List.length_singleton]; omega) fun p H7 s7 hp e7 => ?_
    have S7 := S6.trans s7
    have hp0 : H p = none := S6.free hp
    have et : (zs (dig r.place) ++ [V.int 32] ++ zs (toI r.name) ++ [V.int 32] ++ zs (dig r.num)) = zs (dig r.place ++ [32] ++ toI r.name ++ [32] ++ dig r.num) := by simp [zs]
    rw [et] at e7
    refine ⟨_, rfl, a, r, rfl, S7.seq hA, rfl, _, rfl, ?_⟩
    refine ite_b (fun h => ?_) (fun h => ?_)
    · have hd : r.den ≠ 1 := fun e => by
        rw [e] at h
        exact absurd h (by decide)
      refine ⟨_, rfl, .inl ⟨rfl, _, SqL.of e7⟩, ?_⟩
      refine ⟨_, rfl, by rw [sizeLine_eq]; decide, fun q1 H8 s8 hq1 e8 => ?_⟩
      have S8 := S7.trans s8
      refine ⟨_, rfl, a, r, rfl, S8.seq hA, _, rfl, log_small (lt_two b3), _, rfl, ?_, fun q2 H9 s9 hq2 e9 => ?_⟩
      · have := num_size b3
        rw [sizeLine_eq]
        exact Nat.le_trans this (by decide)
      have e9 : H9 q2 = some (.lst (zs (dig r.den))) := by rw [e9]; exact congrArg (fun z => some (HO.lst (zs z))) (tl_dig r.den)
      have S9 := S8.trans s9
      have e8 : H8 q1 = some (.lst (zs [32, 111, 102, 32])) := by rw [e8]; rfl
      refine cat_new (s9 _ _ e8) e9 (by simp only [List.length_map, List.length_cons, List.length_nil]; omega) fun q3 H10 s10 hq3 e10 => ?_
      have S10 := S9.trans s10
      have e7' : H10 p = _ := s10 _ _ (s9 _ _ (s8 _ _ e7))
      refine ⟨p, q3, _, _, rfl, rfl, e7', e10, ?_, ?_⟩
      · simp only [zs, List.length_append, List.length_map, List.length_cons, List.length_nil]
        rw [sizeLine_eq]
        omega
      · refine ⟨_, rfl, k p _ (SameB.of hp0 S10 SameB.put) hp0 ?_⟩
        rw [upd_same, toI_text, if_neg hd]
        simp [zs]
    · have hd : r.den = 1 := by
        have h : V.int (r.den : Int) = V.int 1 := by simpa using h
        injection h with h
        omega
      refine ⟨_, rfl, k p _ S7 hp0 ?_⟩
      rw [e7, toI_text, if_pos hd]
      simp [zs]

/-! ### page_words -/
def spPageW : Sp := fun vs H Q _ => ∃ i n : Nat, vs = [.int (i : Int), .int (n : Int)] ∧ i < 100 ∧ n < 100 ∧ NewL H (zs (toI (spaced [ascii "page", decimal i, ascii "of", decimal n]))) Q
theorem tl_page (i n : Nat) : (tl (Str.empty ++ Str.ofString "page " ++ Str.ofString (toString ((i : Nat) : Int)) ++ Str.ofString " of " ++ Str.ofString (toString ((n : Nat) : Int)))).map (fun (m : Nat) => (m : Int)) = toI (spaced [ascii "page", decimal i, ascii "of", decimal n]) := by
  rw [toI_page]
  simp only [tl_append, List.map_append, tl_dig]
  rfl
theorem do_page_words (T : Txt K mg) : Does P w K mg base 2 "page_words" ["number", "page_count"] spPageW := by
  have SG : Does P w K mg base 1 "signs_of" ["text"] spSigns := do_signs_of T
  refine T.d_page_words.does sc_page_words (fun vs H Q E h => ?_) (fun f cdv A outer s H vs Q E hr h => ?_)
  · obtain ⟨i, n, rfl, _⟩ := h
    rfl
  · obtain ⟨i, n, rfl, hi, hn, k⟩ := h
    have sz : sizeLine = 16777216 := sizeLine_eq
    have n1 := num_size (n := i) (by omega)
    have n2 := num_size (n := n) (by omega)
    have lt1 : (tl (Str.ofString (toString ((i : Nat) : Int)))).length ≤ 40 := by simpa [tl] using n1
    have lt2 : (tl (Str.ofString (toString ((n : Nat) : Int)))).length ≤ 40 := by simpa [tl] using n2
    have c0 : (tl Str.empty).length = 0 := rfl
    have c1 : (tl (Str.ofString "page ")).length = 5 := by decide +kernel
    have c2 : (tl (Str.ofString " of ")).length = 4 := by decide +kernel
    refine ⟨_, pss_one (ps_ret (pe_do SG hr (pa_cons (pe_fs (by rw [len_tl, tl_append, List.length_append, c0, c1, sz]; decide) (pv 0) (pv 1)) pa_nil))), ?_⟩
    refine ⟨_, rfl, _, rfl, log_small (by omega), ?_, ?_, _, rfl, _, rfl, log_small (by omega), ?_, _, rfl, ?_, ?_⟩
    · simp only [len_tl, tl_append, List.length_append]
      omega
    · simp only [len_tl, tl_append, List.length_append]
      omega
    · simp only [len_tl, tl_append, List.length_append]
      omega
    · show (Str.length _) ≤ _
      simp only [len_tl, tl_append, List.length_append]
      omega
    · rw [← tl_page] at k
      exact k
end
end Hb

set_option Elab.async false
set_option linter.all false
set_option maxRecDepth 100000
set_option maxHeartbeats 4000000
namespace Hb
open PySem L2 RgBoard TL
theorem last_at {l : Bytes} {c : UInt8} (h : l.getLast? = some c) : atI (zs (toI l)) (-1) = some (.int (c.toNat : Int)) := by
  obtain ⟨ys, rfl⟩ := List.getLast?_eq_some_iff.mp h
  rw [toI_append]
  show atI ((toI ys ++ toI [c]).map V.int) (-1) = _
  rw [List.map_append]
  exact atI_last _ _
theorem lastWorth_at {l : Bytes} {c : UInt8} (h : l.getLast? = some c) : lastWorth l = wo c := by
  unfold lastWorth
  rw [h]
  rfl
section
variable {P : Program} {w : World} {K : PySem.W.Frag} {mg : Str → Option Value} {base : Heap}
/-- lines stand at these addresses -/
def LinesAt (H : Hp) (bs : List Addr) (ls : List Bytes) : Prop := Paired (fun b l => H b = some (.lst (zs (toI l)))) bs ls
theorem LinesAt.same {H H' : Hp} {bs : List Addr} {ls : List Bytes} (h : LinesAt H bs ls) (s : Same H H') : LinesAt H' bs ls := Paired.imp' (fun _ _ q => s _ _ q) h
theorem LinesAt.len {H : Hp} {bs : List Addr} {ls : List Bytes} (h : LinesAt H bs ls) : bs.length = ls.length := Paired.length h

/-- .. and none of them stood before -/
def NewLines (H0 H : Hp) (bs : List Addr) (ls : List Bytes) : Prop := Paired (fun b l => H0 b = none ∧ H b = some (.lst (zs (toI l)))) bs ls

/-! ### end_words -/
def spEnd (K : PySem.W.Frag) : Sp := fun vs H Q _ => ∃ (a : Addr) (bs : List Addr) (ls : List Bytes), vs = [.ref a] ∧ SqL K H a (bs.map V.ref) ∧ LinesAt H bs ls ∧ (∀ l ∈ ls, l.all isSign = true ∧ l ≠ []) ∧ ls.length ≤ 1000 ∧ NewL H (zs (toI (endText ls))) Q
theorem do_end_words (T : Txt K mg) : Does P w K mg base 3 "end_words" ["row_lines"] (spEnd K) := by
  have W : Does P w K mg base 2 "worth_of" ["sign"] spWorth := do_worth_of T
  have S : Does P w K mg base 2 "weighted_sum" ["worths"] (spWsum K) := (do_weighted_sum T).mono (by decide)
  have SO : Does P w K mg base 2 "sign_of" ["worth"] spSignOf := (do_sign_of T).mono (by decide)
  have SG : Does P w K mg base 2 "signs_of" ["text"] spSigns := (do_signs_of T).mono (by decide)
  refine T.d_end_words.does sc_end_words (fun vs H Q E h => ?_) (fun f cdv A outer s H vs Q E hr h => ?_)
  · obtain ⟨a, bs, ls, rfl, _⟩ := h
    rfl
  · obtain ⟨a, bs, ls, rfl, hA, hL, hs, hz, k⟩ := h
    have ln := hL.len
    refine ⟨_, pss_cons (ps_setLc (i := 1) (own := [("line", 2)]) rfl sc_end_words.nd rfl rfl (sw_true rfl rfl rfl rfl) (pi_list (pv 0)) (blkOk_by (by show blkC N_end_words (defScope s_end_words) _ _ = true; decide +kernel))
        (fun s H C cl fp => pg_name (i := 2) sc_end_words.nd rfl (Or.inl rfl)) (fun s H C cl fp => pts_nil) (fun s H C cl fp => pe_do W hr (pa_cons (pe_ix (r := rIxL K) ix_list (pv 2) (pe_un un_neg pe_int) (fun _ _ => rfl)) pa_nil)))
      (pss_cons (ps_set (i := 3) sc_end_words.nd rfl (by first | exact Or.inl rfl | exact Or.inr rfl) (pe_do SO hr (pa_cons (pe_op op_mod (pe_callB (cr_sum rfl) rfl T.b_sum (by decide +kernel) (pa_cons (pv 1) pa_nil)) (pe_top T.c_SIGN_COUNT)) pa_nil)))
      (pss_cons (ps_set (i := 4) sc_end_words.nd rfl (by first | exact Or.inl rfl | exact Or.inr rfl) (pe_do SO hr (pa_cons (pe_op op_mod (pe_do S hr (pa_cons (pv 1) pa_nil)) (pe_top T.c_SIGN_COUNT)) pa_nil)))
      (pss_one (ps_ret (pe_op op_cat (pe_do SG hr (pa_cons pe_str pa_nil)) (pe_lst (pa_cons (pv 3) (pa_cons (pv 4) pa_nil)))))))), ?_⟩
    refine ⟨_, rfl, a, rfl, ⟨_, hA⟩, fun D hD => ?_⟩
    refine lc_gen (K := K) (a := a) (xs := bs.map V.ref) (fun i acc _ => acc = zn ((ls.map lastWorth).take i) ∧ i ≤ ls.length) hD hA (by rw [List.length_map, ln, sizeLine_eq]; omega) ?_ ⟨rfl, Nat.zero_le _⟩ ?_ ?_
    · rintro i acc _ ⟨rfl, hi⟩
      exact zn_take_len (by rw [List.length_map]; exact hi)
    · rintro i x acc H1 hx s1 hD1 ⟨rfl, hi⟩ Kt nx
      obtain ⟨b, hb, rfl⟩ := refs_get hx
      obtain ⟨l, hl, hB⟩ := paired_get hL hb
      have hi : i < ls.length := (List.getElem?_eq_some_iff.mp hl).1
      obtain ⟨hsl, hne⟩ := hs l (List.mem_of_getElem? hl)
      obtain ⟨c, hc⟩ : ∃ c, l.getLast? = some c := ⟨_, List.getLast?_eq_some_getLast hne⟩
      have hw : worth c = some (wo c) := by
        obtain ⟨k, hk⟩ := worth_of_sign (List.all_eq_true.mp hsl c (List.mem_of_getLast? hc))
        unfold wo
        rw [hk]
        rfl
      refine ⟨rfl, _, rfl, _, rfl, b, _, _, _, rfl, rfl, SqL.of (s1 _ _ hB), last_at hc, c, wo c, rfl, hw, nx _ _ (Same.refl _) fun H5 _ => ⟨?_, by omega⟩⟩
      exact (zn_take_succ (by rw [List.getElem?_map, hl, ← lastWorth_at hc]; rfl)).symm
    · rintro acc H1 s1 hD1 ⟨rfl, _⟩
      rw [List.take_of_length_le (by rw [List.length_map, List.length_map, ln]; exact Nat.le_refl _)] at hD1
      have m1 : (ls.map lastWorth).sum % 37 < 37 := Nat.mod_lt _ (by decide)
      have m2 : wsum 1 (ls.map lastWorth) % 37 < 37 := Nat.mod_lt _ (by decide)
      refine ⟨_, rfl, D, (ls.map lastWorth).map fun (n : Nat) => (n : Int), rfl, SqL.of hD1, _, _, rfl, rfl, (by show (0 : Int) < 37; decide), (ls.map lastWorth).sum % 37, ?_, by omega, ?_⟩
      · rw [zn_sum]
        show [V.int _] = [V.int _]
        congr 2
      · refine ⟨_, rfl, D, ls.map lastWorth, rfl, SqL.of hD1, by rw [List.length_map]; omega, fun H2 s2 => ?_⟩
        refine ⟨_, _, rfl, rfl, (by show (0 : Int) < 37; decide), wsum 1 (ls.map lastWorth) % 37, ?_, by omega, ?_⟩
        · show [V.int _] = [V.int _]
          congr 2
        · refine ⟨_, rfl, by rw [sizeLine_eq]; decide, fun p H3 s3 hp e3 => ?_⟩
          refine ⟨_, rfl, _, rfl, by show 2 ≤ sizeLine; decide, fun q hq => ?_⟩
          have S3 := (s1.trans s2).trans s3
          have e3 : H3 p = some (.lst (zs [101, 110, 100, 32])) := by rw [e3]; rfl
          refine cat_new (by rw [upd_ne (ne_of_none e3 hq)]; exact e3) upd_same (by show 4 + 2 ≤ 100000; decide) fun r H4 s4 hr e4 => ?_
          refine k r H4 ((S3.trans (Same.put hq)).trans s4) ((S3.trans (Same.put hq)).free hr) ?_
          rw [e4, endText_eq]
          rfl

/-! ### page_lines, page_count_of -/
end
end Hb

set_option Elab.async false
set_option linter.all false
set_option maxRecDepth 100000
set_option maxHeartbeats 4000000
namespace Hb
open PySem L2 RgBoard TL
section
variable {P : Program} {w : World} {K : PySem.W.Frag} {mg : Str → Option Value} {base : Heap}
/-! ### split_at_blanks -/
theorem paired_last {α β : Type} {F : α → β → Prop} : ∀ {ps : List β} {bs : List α} {q : β}, Paired F bs (ps ++ [q]) → ∃ bs' b, bs = bs' ++ [b] ∧ Paired F bs' ps ∧ F b q
  | [], _, _, .cons r .nil => ⟨[], _, rfl, .nil, r⟩
  | _ :: ps, _, _, .cons r t => by
    obtain ⟨bs', b, e, h1, h2⟩ := paired_last t
    exact ⟨_ :: bs', b, by rw [e]; rfl, .cons r h1, h2⟩
theorem paired_imp_mem {α β : Type} {F G : α → β → Prop} : ∀ {l : List α} {m : List β}, (∀ a ∈ l, ∀ b, F a b → G a b) → Paired F l m → Paired G l m
  | _, _, _, .nil => .nil
  | _, _, h, .cons r t => .cons (h _ List.mem_cons_self _ r) (paired_imp_mem (fun a ha => h a (List.mem_cons_of_mem _ ha)) t)
/-- new lists at these addresses, none of them p -/
def NewAt (H0 H : Hp) (p : Addr) (bs : List Addr) (ls : List Bytes) : Prop := Paired (fun b l => H0 b = none ∧ b ≠ p ∧ H b = some (.lst (zs (toI l)))) bs ls
def spSplit (K : PySem.W.Frag) : Sp := fun vs H Q _ => ∃ (a : Addr) (t : Bytes), vs = [.ref a] ∧ SqL K H a (zs (toI t)) ∧ t.length ≤ 100 ∧
  ∀ (p : Addr) (bs : List Addr) (H' : Hp), Same H H' → H p = none → H' p = some (.lst (bs.map V.ref)) → NewAt H H' p bs (cutAt 32 t) → Q (.ref p) H'
theorem do_split_at_blanks (T : Txt K mg) : Does P w K mg base 1 "split_at_blanks" ["signs"] (spSplit K) := by
  refine T.d_split_at_blanks.does sc_split_at_blanks (fun vs H Q E h => ?_) (fun f cdv A outer s H vs Q E hr h => ?_)
  · obtain ⟨a, t, rfl, _⟩ := h
    rfl
  · obtain ⟨a, t, rfl, hA, hz, k⟩ := h
    have zl : (zs (toI t)).length = t.length := by rw [List.length_map, toI_length]
    refine ⟨_, pss_cons (ps_set (i := 1) sc_split_at_blanks.nd rfl (by first | exact Or.inl rfl | exact Or.inr rfl) (pe_lst (pa_cons (pe_lst pa_nil) pa_nil)))
      (pss_cons (ps_for PassesOwn.never rfl (pi_list (pv 0)) (pg_name (i := 2) sc_split_at_blanks.nd rfl (Or.inl rfl))
        (pss_one (ps_if (pt_cmpR op_eq (pv 2) (pe_top T.c_BLANK) (nomark _))
          (pss_one (ps_expr (pe_bm PySem.F.plainAttrs_list PySem.F.slot_list_append PySem.F.type_list_append mt_append (pv 1) (pa_cons (pe_lst pa_nil) pa_nil))))
          (pss_one (ps_expr (pe_bm PySem.F.plainAttrs_list PySem.F.slot_list_append PySem.F.type_list_append mt_append (pe_ix ix_list (pv 1) (pe_un un_neg pe_int) (fun _ _ => rfl)) (pa_cons (pv 2) pa_nil)))))))
      (pss_one (ps_ret (pv 1)))), ?_⟩
    refine ⟨Nat.zero_le _, fun b0 hb0 => ⟨by show 1 ≤ sizeLine; decide, fun p hp => ?_⟩⟩
    have hpb : b0 ≠ p := fun e => by rw [e, upd_same] at hp; cases hp
    have hp0 : H p = none := (Same.put hb0).free hp
    refine ⟨_, rfl, a, rfl, ⟨_, ((Same.put hb0).trans (Same.put hp)).seq hA⟩, ?_⟩
    refine for_list (K := K) (a := a) (xs := zs (toI t)) (fun i σ H1 => Same H H1 ∧ (∃ x, σ = [some (.ref a), some (.ref p), x]) ∧ i ≤ t.length ∧ ∃ bs : List Addr, bs.Nodup ∧ H1 p = some (.lst (bs.map V.ref)) ∧ NewAt H H1 p bs (cutAt 32 (t.take i)))
      ⟨(Same.put hb0).trans (Same.put hp), ⟨_, rfl⟩, Nat.zero_le _, [b0], by simp, upd_same, .cons ⟨hb0, hpb, by rw [upd_ne hpb, upd_same]; rfl⟩ .nil⟩ (fun i σ H1 _ ⟨s1, _⟩ => s1.seq hA) ?_ ?_
    · rintro i v σ H1 hv ⟨s1, ⟨x, rfl⟩, hi, bs, nd, h1, hN⟩
      obtain ⟨c, hc, rfl⟩ := toI_get hv
      have hi : i < t.length := (List.getElem?_eq_some_iff.mp hc).1
      have ht : t.take (i + 1) = t.take i ++ [c] := by rw [List.take_add_one, hc]; rfl
      have hcl : (cutAt 32 (t.take i)).length ≤ 101 := by
        have := cut_count (x := 32) (w := t.take i)
        rw [List.length_take] at this
        omega
      have hbl := Paired.length hN
      refine ⟨_, rfl, rfl, _, rfl, ?_⟩
      refine ite_b (fun h => ?_) (fun h => ?_)
      · have h' : V.int (c.toNat : Int) = V.int 32 := of_decide_eq_true h
        injection h' with h'
        have ec : c = 32 := UInt8.toNat_inj.mp (by show c.toNat = 32; omega)
        refine ⟨_, rfl, .inl ⟨rfl, _, SqL.of h1⟩, Nat.zero_le _, fun b hb => ?_⟩
        have bp : b ≠ p := fun e => by rw [e, h1] at hb; cases hb
        refine ⟨p, _, _, rfl, rfl, by rw [upd_ne bp.symm]; exact h1, by rw [List.length_map, sizeLine_eq]; omega, ?_⟩
        refine ⟨fun b' o e => ?_, ⟨_, rfl⟩, hi, bs ++ [b], ?_, by rw [upd_same]; simp, ?_⟩
        · have h2 : b' ≠ p := fun e' => by rw [e', hp0] at e; cases e
          rw [upd_ne h2, upd_ne (ne_of_none (s1 _ _ e) hb)]
          exact s1 _ _ e
        · refine List.nodup_append.mpr ⟨nd, by simp, fun x hx y hy e => ?_⟩
          rw [List.mem_singleton.mp hy] at e
          obtain ⟨_, _, _, _, z⟩ := paired_mem hN x hx
          rw [e, hb] at z
          cases z
        · rw [ht, ec, cut_blank]
          refine Paired.snoc (paired_imp_mem (fun b' hb' l z => ⟨z.1, z.2.1, ?_⟩) hN) ⟨s1.free hb, bp, by rw [upd_ne bp, upd_same]; rfl⟩
          rw [upd_ne z.2.1, upd_ne (ne_of_none z.2.2 hb)]
          exact z.2.2
      · have h' : ¬ V.int (c.toNat : Int) = V.int 32 := of_decide_eq_false h
        have ec : c ≠ 32 := fun e => h' (by rw [e]; rfl)
        obtain ⟨ps, q, ecut⟩ := cut_last 32 (t.take i)
        rw [ecut] at hN
        obtain ⟨bs', b, eb, hN', hb0', hbp, hb⟩ := paired_last hN
        subst eb
        have hql : q.length ≤ 100 := by
          have := (cut_mem (x := 32) (w := t.take i) (p := q) (by rw [ecut]; simp)).2
          rw [List.length_take] at this
          omega
        have atb : atI ((bs' ++ [b]).map V.ref) (-1) = some (.ref b) := by
          rw [List.map_append]
          exact atI_last _ _
        refine ⟨_, rfl, _, rfl, p, _, _, _, rfl, rfl, SqL.of h1, atb, .inl ⟨rfl, _, SqL.of hb⟩, _, rfl, b, _, _, rfl, rfl, hb, by rw [List.length_map, toI_length, sizeLine_eq]; omega, ?_⟩
        have ndb := List.nodup_append.mp nd
        refine ⟨fun b' o e => ?_, ⟨_, rfl⟩, hi, bs' ++ [b], nd, by rw [upd_ne hbp.symm]; exact h1, ?_⟩
        · have h2 : b' ≠ b := fun e' => by rw [e', hb0'] at e; cases e
          rw [upd_ne h2]
          exact s1 _ _ e
        · rw [ht, cut_sign ec ecut]
          refine Paired.snoc (paired_imp_mem (fun b' hb' l z => ⟨z.1, z.2.1, ?_⟩) hN') ⟨hb0', hbp, ?_⟩
          · have h2 : b' ≠ b := fun e' => ndb.2.2 b' hb' b (by simp) e'
            rw [upd_ne h2]
            exact z.2.2
          · rw [upd_same, toI_append]
            simp [zs, toI]
    · rintro σ H1 ⟨s1, ⟨x, rfl⟩, _, bs, _, h1, hN⟩
      rw [zl, List.take_of_length_le (Nat.le_refl _)] at hN
      exact ⟨_, rfl, k p bs H1 s1 hp0 h1 hN⟩
end
end Hb

set_option Elab.async false
set_option linter.all false
set_option maxRecDepth 100000
set_option maxHeartbeats 4000000
namespace Hb
open PySem L2 RgBoard TL
section
variable {P : Program} {w : World} {K : PySem.W.Frag} {mg : Str → Option Value} {base : Heap}
/-! ### number_of -/
def spNum (K : PySem.W.Frag) : Sp := fun vs H Q _ => ∃ (a : Addr) (b : Bytes), vs = [.ref a] ∧ SqL K H a (zs (toI b)) ∧ (∀ c ∈ b, 48 ≤ c.toNat) ∧ Q (.int (natIn b : Int)) H
theorem do_number_of (T : Txt K mg) : Does P w K mg base 1 "number_of" ["digits"] (spNum K) := by
  refine T.d_number_of.does sc_number_of (fun vs H Q E h => ?_) (fun f cdv A outer s H vs Q E hr h => ?_)
  · obtain ⟨a, t, rfl, _⟩ := h
    rfl
  · obtain ⟨a, b, rfl, hA, hc, k⟩ := h
    have zl : (zs (toI b)).length = b.length := by rw [List.length_map, toI_length]
    refine ⟨_, pss_cons (ps_set (i := 1) sc_number_of.nd rfl (by first | exact Or.inl rfl | exact Or.inr rfl) pe_int)
      (pss_cons (ps_for PassesOwn.never rfl (pi_list (pv 0)) (pg_name (i := 2) sc_number_of.nd rfl (Or.inl rfl))
        (pss_one (ps_set (i := 1) sc_number_of.nd rfl (by first | exact Or.inl rfl | exact Or.inr rfl) (pe_op op_sub (pe_op op_add (pe_op op_mul (pv 1) pe_int) (pv 2)) (pe_top T.c_FIRST_DIGIT)))))
      (pss_one (ps_ret (pv 1)))), ?_⟩
    refine ⟨_, rfl, a, rfl, ⟨_, hA⟩, ?_⟩
    refine for_list (K := K) (a := a) (xs := zs (toI b)) (fun i σ H1 => H1 = H ∧ ∃ x, σ = [some (.ref a), some (.int (natIn (b.take i) : Int)), x]) ⟨rfl, _, rfl⟩ (fun i σ H1 _ ⟨e, _⟩ => by rw [e]; exact hA) ?_ ?_
    · rintro i v σ H1 hv ⟨rfl, x, rfl⟩
      obtain ⟨c, hc', rfl⟩ := toI_get hv
      have h48 := hc c (List.mem_of_getElem? hc')
      refine ⟨_, rfl, _, _, rfl, rfl, .inr ⟨by decide, by decide⟩, _, rfl, _, _, rfl, rfl, _, _, rfl, rfl, rfl, some (.int (c.toNat : Int)), ?_⟩
      have e : ((natIn (b.take (i + 1)) : Nat) : Int) = ((natIn (b.take i) : Nat) : Int) * 10 + (c.toNat : Int) - 48 := by
        rw [natIn_take hc']
        omega
      rw [e]
      rfl
    · rintro σ H1 ⟨rfl, x, rfl⟩
      refine ⟨_, rfl, ?_⟩
      rw [zl, List.take_of_length_le (Nat.le_refl _)]
      exact k
end
end Hb

set_option Elab.async false
set_option linter.all false
set_option maxRecDepth 100000
set_option maxHeartbeats 4000000
namespace Hb
open PySem L2 RgBoard TL
section
variable {P : Program} {w : World} {K : PySem.W.Frag} {mg : Str → Option Value} {base : Heap}
/-! ### row_of -/
theorem cut_cases (t : Bytes) : (∃ p n k, cutAt 32 t = [p, n, k]) ∨ (∃ p n k o d, cutAt 32 t = [p, n, k, o, d]) ∨ ((cutAt 32 t).length ≠ 3 ∧ (cutAt 32 t).length ≠ 5 ∧ rowMaybe t = none) := by
  unfold rowMaybe
  generalize cutAt 32 t = l
  match l with
  | [] => exact .inr (.inr ⟨by simp, by simp, rfl⟩)
  | [_] => exact .inr (.inr ⟨by simp, by simp, rfl⟩)
  | [_, _] => exact .inr (.inr ⟨by simp, by simp, rfl⟩)
  | [p, n, k] => exact .inl ⟨p, n, k, rfl⟩
  | [_, _, _, _] => exact .inr (.inr ⟨by simp, by simp, rfl⟩)
  | [p, n, k, o, d] => exact .inr (.inl ⟨p, n, k, o, d, rfl⟩)
  | _ :: _ :: _ :: _ :: _ :: _ :: r => exact .inr (.inr ⟨by simp, by simp, rfl⟩)
def spRowOf (K : PySem.W.Frag) : Sp := fun vs H Q _ => ∃ (a : Addr) (t : Bytes), vs = [.ref a] ∧ SqL K H a (zs (toI t)) ∧ t.all isSign = true ∧ t.length ≤ 35 ∧
  (∀ H', rowCand t = none → Same H H' → Q .non H') ∧ ∀ (r : Row) (p : Addr) (H' : Hp), rowCand t = some r → Same H H' → H p = none → H' p = some (.lst (zs (rowI r))) → Q (.ref p) H'
theorem do_row_of (T : Txt K mg) : Does P w K mg base 3 "row_of" ["words"] (spRowOf K) := by
  have SP : Does P w K mg base 2 "split_at_blanks" ["signs"] (spSplit K) := (do_split_at_blanks T).mono (by decide)
  have SG : Does P w K mg base 2 "signs_of" ["text"] spSigns := (do_signs_of T).mono (by decide)
  have NO : Does P w K mg base 2 "number_of" ["digits"] (spNum K) := (do_number_of T).mono (by decide)
  have WO : Does P w K mg base 2 "words_of" ["row"] (spWords K) := do_words_of T
  refine T.d_row_of.does sc_row_of (fun vs H Q E h => ?_) (fun f cdv A outer s H vs Q E hr h => ?_)
  · obtain ⟨a, t, rfl, _⟩ := h
    rfl
  · obtain ⟨a, t, rfl, hA, hs, hz, kn, ks⟩ := h
    refine ⟨_, pss_cons (ps_set (i := 1) sc_row_of.nd rfl (by first | exact Or.inl rfl | exact Or.inr rfl) (pe_do SP hr (pa_cons (pv 0) pa_nil)))
      (pss_cons (ps_if (pt_cmpR op_eq (pe_callB call_len_seq rfl T.b_len PySem.boot_len (pa_cons (pv 1) pa_nil)) pe_int (nomark _))
        (pss_one (ps_set (i := 1) sc_row_of.nd rfl (by first | exact Or.inl rfl | exact Or.inr rfl) (pe_op op_cat (pv 1) (pe_lst (pa_cons (pe_do SG hr (pa_cons pe_str pa_nil)) (pa_cons (pe_do SG hr (pa_cons pe_str pa_nil)) pa_nil)))))) pss_nil)
      (pss_cons (ps_if (pt_cmpR op_ne (pe_callB call_len_seq rfl T.b_len PySem.boot_len (pa_cons (pv 1) pa_nil)) pe_int (nomark _)) (pss_one (ps_ret pe_non)) pss_nil)
      (pss_cons (ps_setLc (i := 2) (own := [("digits", 3)]) rfl sc_row_of.nd rfl rfl (sw_true rfl rfl rfl rfl) (pi_list (pe_lst (pa_cons (pe_ix ix_list (pv 1) pe_int (fun _ _ => rfl)) (pa_cons (pe_ix ix_list (pv 1) pe_int (fun _ _ => rfl)) (pa_cons (pe_ix ix_list (pv 1) pe_int (fun _ _ => rfl)) pa_nil))))) (blkOk_by (by show blkC N_row_of (defScope s_row_of) _ _ = true; decide +kernel))
        (fun s H C cl fp => pg_name (i := 3) sc_row_of.nd rfl (Or.inl rfl)) (fun s H C cl fp => pts_nil) (fun s H C cl fp => pe_do NO hr (pa_cons (pv 3) pa_nil)))
      (pss_cons (ps_set (i := 4) sc_row_of.nd rfl (by first | exact Or.inl rfl | exact Or.inr rfl) (pe_op op_cat (pv 2) (pe_ix ix_list (pv 1) pe_int (fun _ _ => rfl))))
      (pss_one (ps_ret (pe_ifExp (pt_cmpR (op_eqI hr.units) (pe_do WO hr (pa_cons (pv 4) pa_nil)) (pv 0) (nomark _)) (pv 4) pe_non))))))), ?_⟩
    refine ⟨_, rfl, a, t, rfl, hA, by omega, fun q bs H1 s1 hq eq hN => ?_⟩
    have hbl := Paired.length hN
    have small : ∀ p ∈ cutAt 32 t, (∀ c ∈ p, 48 ≤ c.toNat ∧ c.toNat ≤ 122) ∧ p.length ≤ 35 := fun p hp => by
      obtain ⟨h1, h2⟩ := cut_mem hp
      refine ⟨fun c hc => ?_, by omega⟩
      obtain ⟨h3, h4⟩ := h1 c hc
      have h5 := sign_small (List.all_eq_true.mp hs c h3)
      exact ⟨h5.2 h4, h5.1⟩
    refine ⟨_, rfl, q, _, rfl, .inl (SqL.of eq), rfl, _, rfl, ?_⟩
    rw [List.length_map, hbl]
    rcases cut_cases t with ⟨p, n, k, ec⟩ | ⟨p, n, k, o, d, ec⟩ | ⟨h3, h5, em⟩
    · -- three parts
      rw [ec] at hN small
      have hrm : rowMaybe t = some ⟨n, natIn p, natIn k, 1⟩ := by unfold rowMaybe; rw [ec]
      match bs, hN with
      | [c0, c1, c2], .cons z0 (.cons z1 (.cons z2 .nil)) =>
        rw [ec]
        refine iteT ?_
        refine ⟨_, rfl, _, rfl, by rw [sizeLine_eq]; decide, fun u1 H2 s2 hu1 e2 => ?_⟩
        refine ⟨_, rfl, by rw [sizeLine_eq]; decide, fun u2 H3 s3 hu2 e3 => ⟨by show 2 ≤ sizeLine; decide, fun u3 hu3 => ?_⟩⟩
        have e2 : H2 u1 = some (.lst (zs [111, 102])) := by rw [e2]; rfl
        have e3 : H3 u2 = some (.lst (zs [49])) := by rw [e3]; rfl
        have S3 := (s2.trans s3).trans (Same.put (o := .lst [V.ref u1, V.ref u2]) hu3)
        refine cat_new (S3 _ _ eq) upd_same (by show 3 + 2 ≤ _; decide) fun q' H4 s4 hq' e4 => ?_
        have S4 := S3.trans s4
        have T4 := s1.trans S4
        have y0 := S4 _ _ z0.2.2
        have y1 := S4 _ _ z1.2.2
        have y2 := S4 _ _ z2.2.2
        have y4 : H4 u2 = some (.lst (zs (toI [49]))) := s4 _ _ ((Same.put hu3) _ _ e3)
        have hd : natIn [49] = 1 := by decide
        have b0 := small p (by simp)
        have b1 := small n (by simp)
        have b2 := small k (by simp)
        have b4 : (∀ c ∈ ([49] : Bytes), 48 ≤ c.toNat ∧ c.toNat ≤ 122) ∧ ([49] : Bytes).length ≤ 35 := by decide
        have hrm : rowMaybe t = some ⟨n, natIn p, natIn k, natIn [49]⟩ := hrm
        generalize ([49] : Bytes) = d at y4 b4 hrm
        have e5 : H4 q' = some (.lst [.ref c0, .ref c1, .ref c2, .ref u1, .ref u2]) := e4
        refine ⟨_, rfl, q', _, rfl, .inl (SqL.of e5), rfl, _, rfl, ?_⟩
        refine iteF ?_
        refine ⟨_, rfl, q', _, _, V.ref c0, rfl, rfl, SqL.of e5, at_of (j := 0) rfl rfl, _, rfl, q', _, _, V.ref c2, rfl, rfl, SqL.of e5, at_of (j := 2) rfl rfl, _, rfl, q', _, _, V.ref u2, rfl, rfl, SqL.of e5, at_of (j := 4) rfl rfl, by show 3 ≤ sizeLine; decide, fun v hv => ?_⟩
        refine ⟨v, rfl, ⟨_, SqL.of upd_same⟩, fun D hD => ?_⟩
        have S5 := T4.trans (Same.put (o := .lst [V.ref c0, V.ref c2, V.ref u2]) hv)
        refine lc_gen (K := K) (a := v) (xs := [V.ref c0, V.ref c2, V.ref u2]) (fun i acc _ => acc = (zn [natIn p, natIn k, natIn d]).take i ∧ i ≤ 3) hD (SqL.of upd_same) (by show 3 ≤ sizeLine; decide) ?_ ⟨rfl, Nat.zero_le _⟩ ?_ ?_
        · rintro i acc _ ⟨rfl, hi⟩
          rw [List.length_take, zn_length]
          show min i 3 = i
          omega
        · rintro i x acc H5 hx s5 hD5 ⟨rfl, hi⟩ Kt nx
          have w0 := s5 _ _ ((Same.put (o := .lst [V.ref c0, V.ref c2, V.ref u2]) hv) _ _ y0)
          have w2 := s5 _ _ ((Same.put (o := .lst [V.ref c0, V.ref c2, V.ref u2]) hv) _ _ y2)
          have w4 := s5 _ _ ((Same.put (o := .lst [V.ref c0, V.ref c2, V.ref u2]) hv) _ _ y4)
          match i, hx with
          | 0, hx =>
            cases (Option.some.inj hx : V.ref c0 = x)
            exact ⟨rfl, _, rfl, c0, p, rfl, SqL.of w0, fun c hc => (b0.1 c hc).1, nx _ _ (Same.refl _) fun H6 _ => ⟨rfl, by decide⟩⟩
          | 1, hx =>
            cases (Option.some.inj hx : V.ref c2 = x)
            exact ⟨rfl, _, rfl, c2, k, rfl, SqL.of w2, fun c hc => (b2.1 c hc).1, nx _ _ (Same.refl _) fun H6 _ => ⟨rfl, by decide⟩⟩
          | 2, hx =>
            cases (Option.some.inj hx : V.ref u2 = x)
            exact ⟨rfl, _, rfl, u2, d, rfl, SqL.of w4, fun c hc => (b4.1 c hc).1, nx _ _ (Same.refl _) fun H6 _ => ⟨rfl, by decide⟩⟩
          | j + 3, hx => simp at hx
        · rintro acc H5 s5 hD5 ⟨rfl, _⟩
          have S6 := S5.trans s5
          have hD5 : H5 D = some (.lst (zn [natIn p, natIn k, natIn d])) := hD5
          have w1 := s5 _ _ ((Same.put (o := .lst [V.ref c0, V.ref c2, V.ref u2]) hv) _ _ y1)
          have w5 := s5 _ _ ((Same.put (o := .lst [V.ref c0, V.ref c2, V.ref u2]) hv) _ _ e5)
          refine ⟨_, rfl, _, rfl, q', _, _, V.ref c1, rfl, rfl, SqL.of w5, at_of (j := 1) rfl rfl, ?_⟩
          refine cat_new hD5 w1 (by rw [zn_length, List.length_map, toI_length]; show 3 + _ ≤ _; omega) fun g H6 s6 hg e6 => ?_
          have S7 := S6.trans s6
          have e6 : H6 g = some (.lst (zs (rowI ⟨n, natIn p, natIn k, natIn d⟩))) := e6
          have fg : H g = none := S6.free hg
          refine ⟨_, rfl, g, ⟨n, natIn p, natIn k, natIn d⟩, rfl, SqL.of e6, ⟨natIn_lt b0.2 fun c hc => (b0.1 c hc).2, natIn_lt b2.2 fun c hc => (b2.1 c hc).2, natIn_lt b4.2 fun c hc => (b4.1 c hc).2, by show n.length ≤ 100; omega⟩, fun y H7 s7 hy e7 => ?_⟩
          have S8 := S7.trans s7
          refine ⟨_, rfl, y, a, _, _, rfl, rfl, SqL.of e7, S8.seq hA, _, rfl, ?_⟩
          by_cases ht : Row.text ⟨n, natIn p, natIn k, natIn d⟩ = t
          · have hcand : rowCand t = some ⟨n, natIn p, natIn k, natIn d⟩ := by
              unfold rowCand
              rw [hrm, Option.filter, if_pos (beq_iff_eq.mpr ht)]
            rw [ht, decide_eq_true rfl]
            exact iteT ⟨_, rfl, ks _ g _ hcand S8 fg (s7 _ _ e6)⟩
          · have hcand : rowCand t = none := by
              unfold rowCand
              rw [hrm, Option.filter, if_neg (fun z => ht (beq_iff_eq.mp z))]
            rw [decide_eq_false (fun z => ht (toI_inj z))]
            exact iteF (kn _ hcand S8)
    · -- five parts
      rw [ec] at hN small
      have hrm : rowMaybe t = some ⟨n, natIn p, natIn k, natIn d⟩ := by unfold rowMaybe; rw [ec]
      match bs, hN with
      | [c0, c1, c2, c3, u2], .cons z0 (.cons z1 (.cons z2 (.cons z3 (.cons z4 .nil)))) =>
        rw [ec]
        refine iteF ?_
        have T4 := s1
        have y0 := z0.2.2
        have y1 := z1.2.2
        have y2 := z2.2.2
        have y4 := z4.2.2
        have b0 := small p (by simp)
        have b1 := small n (by simp)
        have b2 := small k (by simp)
        have b4 := small d (by simp)
        have e5 : H1 q = some (.lst [.ref c0, .ref c1, .ref c2, .ref c3, .ref u2]) := eq
        refine ⟨_, rfl, q, _, rfl, .inl (SqL.of e5), rfl, _, rfl, ?_⟩
        refine iteF ?_
        refine ⟨_, rfl, q, _, _, V.ref c0, rfl, rfl, SqL.of e5, at_of (j := 0) rfl rfl, _, rfl, q, _, _, V.ref c2, rfl, rfl, SqL.of e5, at_of (j := 2) rfl rfl, _, rfl, q, _, _, V.ref u2, rfl, rfl, SqL.of e5, at_of (j := 4) rfl rfl, by show 3 ≤ sizeLine; decide, fun v hv => ?_⟩
        refine ⟨v, rfl, ⟨_, SqL.of upd_same⟩, fun D hD => ?_⟩
        have S5 := T4.trans (Same.put (o := .lst [V.ref c0, V.ref c2, V.ref u2]) hv)
        refine lc_gen (K := K) (a := v) (xs := [V.ref c0, V.ref c2, V.ref u2]) (fun i acc _ => acc = (zn [natIn p, natIn k, natIn d]).take i ∧ i ≤ 3) hD (SqL.of upd_same) (by show 3 ≤ sizeLine; decide) ?_ ⟨rfl, Nat.zero_le _⟩ ?_ ?_
        · rintro i acc _ ⟨rfl, hi⟩
          rw [List.length_take, zn_length]
          show min i 3 = i
          omega
        · rintro i x acc H5 hx s5 hD5 ⟨rfl, hi⟩ Kt nx
          have w0 := s5 _ _ ((Same.put (o := .lst [V.ref c0, V.ref c2, V.ref u2]) hv) _ _ y0)
          have w2 := s5 _ _ ((Same.put (o := .lst [V.ref c0, V.ref c2, V.ref u2]) hv) _ _ y2)
          have w4 := s5 _ _ ((Same.put (o := .lst [V.ref c0, V.ref c2, V.ref u2]) hv) _ _ y4)
          match i, hx with
          | 0, hx =>
            cases (Option.some.inj hx : V.ref c0 = x)
            exact ⟨rfl, _, rfl, c0, p, rfl, SqL.of w0, fun c hc => (b0.1 c hc).1, nx _ _ (Same.refl _) fun H6 _ => ⟨rfl, by decide⟩⟩
          | 1, hx =>
            cases (Option.some.inj hx : V.ref c2 = x)
            exact ⟨rfl, _, rfl, c2, k, rfl, SqL.of w2, fun c hc => (b2.1 c hc).1, nx _ _ (Same.refl _) fun H6 _ => ⟨rfl, by decide⟩⟩
          | 2, hx =>
            cases (Option.some.inj hx : V.ref u2 = x)
            exact ⟨rfl, _, rfl, u2, d, rfl, SqL.of w4, fun c hc => (b4.1 c hc).1, nx _ _ (Same.refl _) fun H6 _ => ⟨rfl, by decide⟩⟩
          | j + 3, hx => simp at hx
        · rintro acc H5 s5 hD5 ⟨rfl, _⟩
          have S6 := S5.trans s5
          have hD5 : H5 D = some (.lst (zn [natIn p, natIn k, natIn d])) := hD5
          have w1 := s5 _ _ ((Same.put (o := .lst [V.ref c0, V.ref c2, V.ref u2]) hv) _ _ y1)
          have w5 := s5 _ _ ((Same.put (o := .lst [V.ref c0, V.ref c2, V.ref u2]) hv) _ _ e5)
          refine ⟨_, rfl, _, rfl, q, _, _, V.ref c1, rfl, rfl, SqL.of w5, at_of (j := 1) rfl rfl, ?_⟩
          refine cat_new hD5 w1 (by rw [zn_length, List.length_map, toI_length]; show 3 + _ ≤ _; omega) fun g H6 s6 hg e6 => ?_
          have S7 := S6.trans s6
          have e6 : H6 g = some (.lst (zs (rowI ⟨n, natIn p, natIn k, natIn d⟩))) := e6
          have fg : H g = none := S6.free hg
          refine ⟨_, rfl, g, ⟨n, natIn p, natIn k, natIn d⟩, rfl, SqL.of e6, ⟨natIn_lt b0.2 fun c hc => (b0.1 c hc).2, natIn_lt b2.2 fun c hc => (b2.1 c hc).2, natIn_lt b4.2 fun c hc => (b4.1 c hc).2, by show n.length ≤ 100; omega⟩, fun y H7 s7 hy e7 => ?_⟩
          have S8 := S7.trans s7
          refine ⟨_, rfl, y, a, _, _, rfl, rfl, SqL.of e7, S8.seq hA, _, rfl, ?_⟩
          by_cases ht : Row.text ⟨n, natIn p, natIn k, natIn d⟩ = t
          · have hcand : rowCand t = some ⟨n, natIn p, natIn k, natIn d⟩ := by
              unfold rowCand
              rw [hrm, Option.filter, if_pos (beq_iff_eq.mpr ht)]
            rw [ht, decide_eq_true rfl]
            exact iteT ⟨_, rfl, ks _ g _ hcand S8 fg (s7 _ _ e6)⟩
          · have hcand : rowCand t = none := by
              unfold rowCand
              rw [hrm, Option.filter, if_neg (fun z => ht (beq_iff_eq.mp z))]
            rw [decide_eq_false (fun z => ht (toI_inj z))]
            exact iteF (kn _ hcand S8)
    · have d3 : decide (V.int ((cutAt 32 t).length : Int) = V.int 3) = false := decide_eq_false fun z => by
        injection z with z
        omega
      rw [d3]
      refine iteF ⟨_, rfl, q, _, rfl, .inl (SqL.of eq), rfl, _, rfl, ?_⟩
      rw [List.length_map, hbl]
      have d5 : decide (V.int ((cutAt 32 t).length : Int) = V.int 5) = false := decide_eq_false fun z => by
        injection z with z
        omega
      rw [d5]
      refine iteT (kn _ ?_ s1)
      unfold rowCand
      rw [em]
      rfl
end
end Hb

set_option Elab.async false
set_option linter.all false
set_option maxRecDepth 100000
set_option maxHeartbeats 4000000
namespace Hb
open PySem L2 RgBoard TL
section
variable {P : Program} {w : World} {K : PySem.W.Frag} {mg : Str → Option Value} {base : Heap}
/-! ### pieces_of -/
def spPieces (K : PySem.W.Frag) : Sp := fun vs H Q _ => ∃ (a : Addr) (t : Bytes), vs = [.ref a] ∧ SqL K H a (zs (toI t)) ∧ t.length ≤ 100000 ∧
  ∀ (p : Addr) (bs : List Addr) (H' : Hp), Same H H' → H p = none → H' p = some (.lst (bs.map V.ref)) → NewAt H H' p bs (pieces t) → Q (.ref p) H'
theorem do_pieces_of (T : Txt K mg) : Does P w K mg base 1 "pieces_of" ["text"] (spPieces K) := by
  refine T.d_pieces_of.does sc_pieces_of (fun vs H Q E h => ?_) (fun f cdv A outer s H vs Q E hr h => ?_)
  · obtain ⟨a, t, rfl, _⟩ := h
    rfl
  · obtain ⟨a, t, rfl, hA, hz, k⟩ := h
    have zl : (zs (toI t)).length = t.length := by rw [List.length_map, toI_length]
    have toD : ∀ n, (zs (toI t)).drop n = zs (toI (t.drop n)) := fun n => by unfold zs toI; rw [List.map_drop, List.map_drop]
    have toT : ∀ (l : Bytes) n, (zs (toI l)).take n = zs (toI (l.take n)) := fun l n => by unfold zs toI; rw [List.map_take, List.map_take]
    refine ⟨_, pss_cons (ps_set (i := 1) sc_pieces_of.nd rfl (by first | exact Or.inl rfl | exact Or.inr rfl) (pe_lst pa_nil))
      (pss_cons (ps_set (i := 2) sc_pieces_of.nd rfl (by first | exact Or.inl rfl | exact Or.inr rfl) pe_int)
      (pss_cons (ps_for PassesOwn.never rfl (pi_enum rfl T.b_enumerate (pa_cons (pv 0) pa_nil)) (pg_tup (n := 2) rfl (pgs_cons (pg_name (i := 3) sc_pieces_of.nd rfl (Or.inl rfl)) (pgs_cons (pg_name (i := 4) sc_pieces_of.nd rfl (Or.inl rfl)) pgs_nil)))
        (pss_one (ps_if (pt_cmpR op_eq (pv 4) (pe_top T.c_LINE_FEED) (nomark _))
          (pss_cons (ps_expr (pe_bm PySem.F.plainAttrs_list PySem.F.slot_list_append PySem.F.type_list_append mt_append (pv 1) (pa_cons (pe_slice sl_list (pv 0) (po_some (pv 2)) (po_some (pe_op op_add (pv 3) pe_int))) pa_nil)))
            (pss_one (ps_set (i := 2) sc_pieces_of.nd rfl (by first | exact Or.inl rfl | exact Or.inr rfl) (pe_op op_add (pv 3) pe_int)))) pss_nil)))
      (pss_cons (ps_if (pt_cmpR op_lt (pv 2) (pe_callB call_len_seq rfl T.b_len PySem.boot_len (pa_cons (pv 0) pa_nil)) (nomark _))
          (pss_one (ps_expr (pe_bm PySem.F.plainAttrs_list PySem.F.slot_list_append PySem.F.type_list_append mt_append (pv 1) (pa_cons (pe_slice sl_list (pv 0) (po_some (pv 2)) po_none) pa_nil)))) pss_nil)
      (pss_one (ps_ret (pv 1)))))), ?_⟩
    refine ⟨Nat.zero_le _, fun p hp => ?_⟩
    have S0 : Same H (upd H p (.lst [])) := Same.put hp
    refine ⟨_, rfl, a, _, rfl, S0.seq hA, ?_⟩
    refine for_enum (K := K) (a := a) (xs := zs (toI t)) (fun i σ H1 => Same H H1 ∧ ∃ (st : Nat) (bs : List Addr) (ps : List Bytes) (x y : Option V), σ = [some (.ref a), some (.ref p), some (.int (st : Int)), x, y] ∧ H1 p = some (.lst (bs.map V.ref)) ∧ NewAt H H1 p bs ps ∧ st ≤ i ∧ i ≤ t.length ∧ ps ++ pieces (t.drop st) = pieces t ∧ (10 : UInt8) ∉ (t.drop st).take (i - st) ∧ ps.length ≤ i)
      ⟨S0, 0, [], [], _, _, rfl, upd_same, .nil, Nat.le_refl _, Nat.zero_le _, by simp, by simp, Nat.le_refl _⟩ (fun i σ H1 _ ⟨s1, _⟩ => s1.seq hA) ?_ ?_
    · rintro i v T1 σ H1 hv ⟨s1, st, bs, ps, x, y, rfl, h1, hN, hst, hi, hps, h10, hpl⟩ hT
      obtain ⟨c, hc, rfl⟩ := toI_get hv
      have hi : i < t.length := (List.getElem?_eq_some_iff.mp hc).1
      have hbl := Paired.length hN
      have sT : Same H1 (upd H1 T1 (.tup [.int (i : Nat), .int (c.toNat : Int)])) := Same.put hT
      have hdt : (t.drop st).take (i + 1 - st) = (t.drop st).take (i - st) ++ [c] := by
        rw [show i + 1 - st = (i - st) + 1 by omega, List.take_add_one, List.getElem?_drop, show st + (i - st) = i by omega, hc]
        rfl
      refine ⟨T1, _, rfl, SqT.of upd_same, rfl, _, _, rfl, _, _, rfl, rfl, ?_⟩
      refine ⟨_, rfl, rfl, _, rfl, ?_⟩
      refine ite_b (fun h => ?_) (fun h => ?_)
      · have h' : V.int (c.toNat : Int) = V.int 10 := of_decide_eq_true h
        injection h' with h'
        have ec : c = 10 := UInt8.toNat_inj.mp (by show c.toNat = 10; omega)
        have S1 := s1.trans sT
        refine ⟨_, rfl, .inl ⟨rfl, _, SqL.of (sT _ _ h1)⟩, _, rfl, _, rfl, _, rfl, _, rfl, _, _, rfl, rfl, _, rfl, a, _, rfl, S1.seq hA, fun b hb => ?_⟩
        have bp : b ≠ p := fun e => by rw [e, sT _ _ h1] at hb; cases hb
        have ecut : cutV (zs (toI t)) (some (st : Int)) (some ((i : Int) + 1)) = zs (toI ((t.drop st).take (i - st) ++ [10])) := by
          rw [show ((i : Int) + 1) = ((i + 1 : Nat) : Int) by omega]
          have hx : st ≤ (zs (toI t)).length := by rw [zl]; omega
          unfold cutV
          rw [HT.sIx_nat, HT.sIx_nat, Nat.min_eq_left hx, zl, Nat.min_eq_left (show i + 1 ≤ t.length by omega), toD, toT, hdt, ec]
        have sb := Same.put (o := .lst (cutV (zs (toI t)) (some (st : Int)) (some ((i : Int) + 1)))) hb
        refine ⟨p, _, _, rfl, rfl, sb _ _ (sT _ _ h1), by rw [List.length_map, sizeLine_eq]; omega, ?_⟩
        refine ⟨_, rfl, _, _, rfl, rfl, ?_⟩
        refine ⟨fun b' o e => ?_, i + 1, bs ++ [b], ps ++ [(t.drop st).take (i - st) ++ [10]], _, _, rfl, by rw [upd_same]; simp, ?_, Nat.le_refl _, by omega, ?_, by simp, by rw [List.length_append]; show _ + 1 ≤ _; omega⟩
        · have h2 : b' ≠ p := fun e' => by rw [e', hp] at e; cases e
          rw [upd_ne h2]
          exact sb _ _ (S1 _ _ e)
        · refine Paired.snoc (Paired.imp' (fun b' l z => ⟨z.1, z.2.1, by rw [upd_ne z.2.1]; exact sb _ _ (sT _ _ z.2.2)⟩) hN) ⟨S1.free hb, bp, ?_⟩
          rw [upd_ne bp, upd_same, ecut]
        · have e1 : t.drop st = (t.drop st).take (i - st) ++ 10 :: t.drop (i + 1) := by
            have e2 : t.drop i = c :: t.drop (i + 1) := by
              obtain ⟨h1, h2⟩ := List.getElem?_eq_some_iff.mp hc
              rw [← h2]
              exact List.drop_eq_getElem_cons h1
            have e3 : (t.drop st).drop (i - st) = t.drop i := by rw [List.drop_drop]; congr 1; omega
            rw [← ec, ← e2, ← e3, List.take_append_drop]
          rw [e1, pieces_more h10] at hps
          rw [List.append_assoc]
          exact hps
      · have h' : ¬ V.int (c.toNat : Int) = V.int 10 := of_decide_eq_false h
        have ec : c ≠ 10 := fun e => h' (by rw [e]; rfl)
        refine ⟨s1.trans sT, st, bs, ps, _, _, rfl, sT _ _ h1, Paired.imp' (fun b' l z => ⟨z.1, z.2.1, sT _ _ z.2.2⟩) hN, by omega, by omega, hps, ?_, by omega⟩
        rw [hdt]
        intro hm
        rcases List.mem_append.mp hm with hm | hm
        · exact h10 hm
        · exact ec (List.mem_singleton.mp hm).symm
    · rintro σ H1 ⟨s1, st, bs, ps, x, y, rfl, h1, hN, hst, hi, hps, h10, hpl⟩
      rw [zl] at hst hi h10 hpl
      have hbl := Paired.length hN
      have e0 : (t.drop st).take (t.length - st) = t.drop st := List.take_of_length_le (by rw [List.length_drop]; exact Nat.le_refl _)
      rw [e0] at h10
      refine ⟨_, rfl, _, rfl, a, _, rfl, .inl (s1.seq hA), _, _, rfl, rfl, _, rfl, ?_⟩
      rw [zl]
      refine ite_b (fun h => ?_) (fun h => ?_)
      · have h : (st : Int) < (t.length : Int) := of_decide_eq_true h
        refine ⟨_, rfl, .inl ⟨rfl, _, SqL.of h1⟩, _, rfl, _, rfl, _, rfl, a, _, rfl, s1.seq hA, fun b hb => ?_⟩
        have bp : b ≠ p := fun e => by rw [e, h1] at hb; cases hb
        have ecut : cutV (zs (toI t)) (some (st : Int)) none = zs (toI (t.drop st)) := by
          have hx : st ≤ (zs (toI t)).length := by rw [zl]; omega
          rw [cutV_from hx, toD]
        have sb := Same.put (o := .lst (cutV (zs (toI t)) (some (st : Int)) none)) hb
        refine ⟨p, _, _, rfl, rfl, sb _ _ h1, by rw [List.length_map, sizeLine_eq]; omega, ?_⟩
        refine ⟨_, rfl, k p (bs ++ [b]) _ (fun b' o e => ?_) hp (by rw [upd_same]; simp) ?_⟩
        · have h2 : b' ≠ p := fun e' => by rw [e', hp] at e; cases e
          rw [upd_ne h2]
          exact sb _ _ (s1 _ _ e)
        · have hne : t.drop st ≠ [] := fun e => by
            have := congrArg List.length e
            rw [List.length_drop] at this
            simp at this
            omega
          rw [← hps, pieces_last h10 hne]
          refine Paired.snoc (Paired.imp' (fun b' l z => ⟨z.1, z.2.1, by rw [upd_ne z.2.1]; exact sb _ _ z.2.2⟩) hN) ⟨s1.free hb, bp, ?_⟩
          rw [upd_ne bp, upd_same, ecut]
      · have h : ¬ (st : Int) < (t.length : Int) := of_decide_eq_false h
        have e1 : t.drop st = [] := List.drop_eq_nil_of_le (by omega)
        rw [e1] at hps
        have e2 : ps = pieces t := by rw [← hps]; simp [pieces]
        rw [e2] at hN
        exact ⟨_, rfl, k p bs H1 s1 hp h1 hN⟩
end
end Hb

set_option Elab.async false
set_option linter.all false
set_option maxRecDepth 100000
set_option maxHeartbeats 4000000
namespace Hb
open PySem L2 RgBoard TL
section
variable {P : Program} {w : World} {K : PySem.W.Frag} {mg : Str → Option Value} {base : Heap}
/-! ### a reading as an object -/
theorem putF_nil (f : Str) (v : V) : putF f v [] = [(f, v)] := rfl
theorem putF_eq (f : Str) (v x : V) (r : List (Str × V)) : putF f v ((f, x) :: r) = (f, v) :: r := by
  show (if f = f then (f, v) :: r else _) = _
  rw [if_pos rfl]
theorem putF_ne {f g : Str} (v x : V) (r : List (Str × V)) (h : g ≠ f) : putF f v ((g, x) :: r) = (g, x) :: putF f v r := by
  show (if g = f then _ else (g, x) :: putF f v r) = _
  rw [if_neg h]
theorem look_eq (f : Str) (x : V) (r : List (Str × V)) : List.lookup f ((f, x) :: r) = some x := by simp [List.lookup]
theorem look_ne {f g : Str} (x : V) (r : List (Str × V)) (h : g ≠ f) : List.lookup f ((g, x) :: r) = List.lookup f r := by
  have : (f == g) = false := beq_eq_false_iff_ne.mpr (Ne.symm h)
  simp [List.lookup, this]
theorem n01 : ("page_count" : Str) ≠ "page_number" := by decide +kernel
theorem n02 : ("page_count" : Str) ≠ "on_page" := by decide +kernel
theorem n03 : ("page_count" : Str) ≠ "rows" := by decide +kernel
theorem n04 : ("page_count" : Str) ≠ "row_lines" := by decide +kernel
theorem n12 : ("page_number" : Str) ≠ "on_page" := by decide +kernel
theorem n13 : ("page_number" : Str) ≠ "rows" := by decide +kernel
theorem n14 : ("page_number" : Str) ≠ "row_lines" := by decide +kernel
theorem n23 : ("on_page" : Str) ≠ "rows" := by decide +kernel
theorem n24 : ("on_page" : Str) ≠ "row_lines" := by decide +kernel
theorem n34 : ("rows" : Str) ≠ "row_lines" := by decide +kernel
def rf (s : Reading) (lr ll : Addr) : List (Str × V) := [("page_count", .int (s.pages : Int)), ("page_number", .int (s.page : Int)), ("on_page", .bl s.isOpen), ("rows", .ref lr), ("row_lines", .ref ll)]
theorem rf_page_count (s : Reading) (lr ll : Addr) : (rf s lr ll).lookup ("page_count" : Str) = some (.int (s.pages : Int)) := by
  unfold rf
  rw [look_eq]
theorem rf_page_number (s : Reading) (lr ll : Addr) : (rf s lr ll).lookup ("page_number" : Str) = some (.int (s.page : Int)) := by
  unfold rf
  rw [look_ne _ _ n01, look_eq]
theorem rf_on_page (s : Reading) (lr ll : Addr) : (rf s lr ll).lookup ("on_page" : Str) = some (.bl s.isOpen) := by
  unfold rf
  rw [look_ne _ _ n02, look_ne _ _ n12, look_eq]
theorem rf_rows (s : Reading) (lr ll : Addr) : (rf s lr ll).lookup ("rows" : Str) = some (.ref lr) := by
  unfold rf
  rw [look_ne _ _ n03, look_ne _ _ n13, look_ne _ _ n23, look_eq]
theorem rf_row_lines (s : Reading) (lr ll : Addr) : (rf s lr ll).lookup ("row_lines" : Str) = some (.ref ll) := by
  unfold rf
  rw [look_ne _ _ n04, look_ne _ _ n14, look_ne _ _ n24, look_ne _ _ n34, look_eq]
theorem rf_no (s : Reading) (lr ll : Addr) {m : Str} (h0 : "page_count" ≠ m) (h1 : "page_number" ≠ m) (h2 : "on_page" ≠ m) (h3 : "rows" ≠ m) (h4 : "row_lines" ≠ m) : (rf s lr ll).lookup m = none := by
  unfold rf
  rw [look_ne _ _ h0, look_ne _ _ h1, look_ne _ _ h2, look_ne _ _ h3, look_ne _ _ h4]
  rfl
theorem rf_len (s : Reading) (lr ll : Addr) : (rf s lr ll).length < 1000 := by show 5 < 1000; decide
theorem put_page_count (s : Reading) (lr ll : Addr) (n : Nat) : putF "page_count" (.int (n : Int)) (rf s lr ll) = rf { s with pages := n } lr ll := by
  show putF "page_count" (.int (n : Int)) [("page_count", V.int (s.pages : Int)), ("page_number", V.int (s.page : Int)), ("on_page", V.bl s.isOpen), ("rows", V.ref lr), ("row_lines", V.ref ll)] = _
  rw [putF_eq]
  rfl
theorem put_page_number (s : Reading) (lr ll : Addr) (n : Nat) : putF "page_number" (.int (n : Int)) (rf s lr ll) = rf { s with page := n } lr ll := by
  show putF "page_number" (.int (n : Int)) [("page_count", V.int (s.pages : Int)), ("page_number", V.int (s.page : Int)), ("on_page", V.bl s.isOpen), ("rows", V.ref lr), ("row_lines", V.ref ll)] = _
  rw [putF_ne _ _ _ n01, putF_eq]
  rfl
theorem put_on_page (s : Reading) (lr ll : Addr) (b : Bool) : putF "on_page" (.bl b) (rf s lr ll) = rf { s with isOpen := b } lr ll := by
  show putF "on_page" (.bl b) [("page_count", V.int (s.pages : Int)), ("page_number", V.int (s.page : Int)), ("on_page", V.bl s.isOpen), ("rows", V.ref lr), ("row_lines", V.ref ll)] = _
  rw [putF_ne _ _ _ n02, putF_ne _ _ _ n12, putF_eq]
  rfl
theorem put_row_lines (s : Reading) (lr ll : Addr) (q : Addr) : putF "row_lines" (.ref q) (rf s lr ll) = rf s lr q := by
  show putF "row_lines" (.ref q) [("page_count", V.int (s.pages : Int)), ("page_number", V.int (s.page : Int)), ("on_page", V.bl s.isOpen), ("rows", V.ref lr), ("row_lines", V.ref ll)] = _
  rw [putF_ne _ _ _ n04, putF_ne _ _ _ n14, putF_ne _ _ _ n24, putF_ne _ _ _ n34, putF_eq]
  rfl
theorem put_all (p1 p2 : V) (b : V) (l1 l2 : V) : putF "row_lines" l2 (putF "rows" l1 (putF "on_page" b (putF "page_number" p2 (putF "page_count" p1 [])))) = ([("page_count", p1), ("page_number", p2), ("on_page", b), ("rows", l1), ("row_lines", l2)] : List (Str × V)) := by
  rw [putF_nil, putF_ne _ _ _ n01, putF_nil, putF_ne _ _ _ n02, putF_ne _ _ _ n12, putF_nil, putF_ne _ _ _ n03, putF_ne _ _ _ n13, putF_ne _ _ _ n23, putF_nil, putF_ne _ _ _ n04, putF_ne _ _ _ n14, putF_ne _ _ _ n24, putF_ne _ _ _ n34, putF_nil]
theorem few {f : Str} {v : V} {fs : List (Str × V)} {n : Nat} (h : fs.length ≤ n) : (putF f v fs).length ≤ n + 1 := Nat.le_trans (length_putF f v fs) (Nat.succ_le_succ h)
/-- a Reading stands at p; its rows' list at lr, its lines' at ll -/
structure RdAt (C : Addr) (H : Hp) (p dx lr ll : Addr) (s : Reading) : Prop where
  ob : H p = some (.ins C dx (rf s lr ll))
  rws : ∃ as : List Addr, H lr = some (.lst (as.map V.ref)) ∧ Paired (fun a r => H a = some (.lst (zs (rowI r)))) as s.rows
  lns : ∃ bs : List Addr, H ll = some (.lst (bs.map V.ref)) ∧ LinesAt H bs s.here
  ne : lr ≠ ll
  good : Good s
theorem RdAt.same {C : Addr} {H H' : Hp} {p dx lr ll : Addr} {s : Reading} (h : RdAt C H p dx lr ll s) (e : Same H H') : RdAt C H' p dx lr ll s := by
  obtain ⟨as, h1, h2⟩ := h.rws
  obtain ⟨bs, h3, h4⟩ := h.lns
  exact ⟨e _ _ h.ob, ⟨as, e _ _ h1, Paired.imp' (fun _ _ q => e _ _ q) h2⟩, ⟨bs, e _ _ h3, h4.same e⟩, h.ne, h.good⟩
theorem zs_refs {ns : List Int} {as : List Addr} (h : zs ns = as.map V.ref) : ns = [] := by
  cases ns with
  | nil => rfl
  | cons n ns =>
    cases as with
    | nil => cases h
    | cons a as => injection h with h _; cases h
theorem not_refs {H : Hp} {a l : Addr} {ns : List Int} {as : List Addr} (h1 : H a = some (.lst (zs ns))) (h2 : H l = some (.lst (as.map V.ref))) (hn : ns ≠ []) : a ≠ l := fun e => by
  rw [e, h2] at h1
  have h3 := Option.some.inj h1
  injection h3 with h3
  exact hn (zs_refs h3.symm)
theorem cutV_but {l : Bytes} (h : l ≠ []) : cutV (zs (toI l)) none (some (-1)) = zs (toI l.dropLast) := by
  have zl : (zs (toI l)).length = l.length := by rw [List.length_map, toI_length]
  have hl : 0 < l.length := List.length_pos_iff.mpr h
  unfold cutV
  rw [HT.sIx_none, zl]
  have e : HT.sIx l.length l.length (some (-1)) = l.length - 1 := by
    show (if (-1 : Int) < 0 then (-1 + (l.length : Int)).toNat else min (-1 : Int).toNat l.length) = _
    rw [if_pos (by decide)]
    omega
  rw [e, List.drop_zero, Nat.sub_zero]
  unfold zs toI
  rw [← List.map_take, ← List.map_take, List.dropLast_eq_take]
end
end Hb

set_option Elab.async false
set_option linter.all false
set_option maxRecDepth 100000
set_option maxHeartbeats 4000000
namespace Hb
open PySem L2 RgBoard TL
section
variable {P : Program} {w : World} {K : PySem.W.Frag} {mg : Str → Option Value} {base : Heap}
variable {C : Addr}
/-! ### __init__, is_whole, page_counts, has_room, can_end -/
def spInit (C : Addr) : Sp := fun vs H Q _ => ∃ (p dx : Addr), vs = [.ref p] ∧ H p = some (.ins C dx []) ∧
  ∀ (lr ll : Addr) (H' : Hp), RdAt C H' p dx lr ll unread → H lr = none → H ll = none → (∀ b o, H b = some o → b ≠ p → H' b = some o) → Q .non H'
theorem ok_init {f : Addr} {fd : FuncData} (F : Fun K "__init__" "Reading.__init__" s_Reading___init__ f fd) (L : Cl K mg C) : FnOk P w K mg base CX0 1 f fd ["self"] (spInit C) := by
  refine F.ok sc_Reading___init__ (fun vs H Q E h => ?_) (fun cdv A outer s H vs Q E hr h => ?_)
  · obtain ⟨p, dx, rfl, _⟩ := h
    rfl
  · obtain ⟨p, dx, rfl, hp, k⟩ := h
    refine ⟨_, pss_cons (ps_fld (pv 0) pe_int rfl) (pss_cons (ps_fld (pv 0) pe_int rfl) (pss_cons (ps_fld (pv 0) pe_bl rfl) (pss_cons (ps_fld (pv 0) (pe_lst pa_nil) rfl) (pss_one (ps_fld (pv 0) (pe_lst pa_nil) rfl))))), ?_⟩
    refine ⟨_, rfl, p, C, dx, [], rfl, hp, L.cl, L.n_page_count, by show 0 < 1000; decide, ?_⟩
    refine ⟨_, rfl, p, C, dx, _, rfl, upd_same, L.cl, L.n_page_number, Nat.lt_of_le_of_lt (few (n := 0) (Nat.zero_le _)) (by decide), ?_⟩
    refine ⟨_, rfl, p, C, dx, _, rfl, upd_same, L.cl, L.n_on_page, Nat.lt_of_le_of_lt (few (few (n := 0) (Nat.zero_le _))) (by decide), ?_⟩
    refine ⟨Nat.zero_le _, fun lr hlr => ?_⟩
    have n1 : p ≠ lr := fun e => by rw [← e, upd_same] at hlr; cases hlr
    refine ⟨_, rfl, p, C, dx, _, rfl, by rw [upd_ne n1]; exact upd_same, L.cl, L.n_rows, Nat.lt_of_le_of_lt (few (few (few (n := 0) (Nat.zero_le _)))) (by decide), ?_⟩
    refine ⟨Nat.zero_le _, fun ll hll => ?_⟩
    have n2 : p ≠ ll := fun e => by rw [← e, upd_same] at hll; cases hll
    have n3 : lr ≠ ll := fun e => by rw [← e, upd_ne n1.symm, upd_same] at hll; cases hll
    refine ⟨_, rfl, p, C, dx, _, rfl, by rw [upd_ne n2]; exact upd_same, L.cl, L.n_row_lines, Nat.lt_of_le_of_lt (few (few (few (few (n := 0) (Nat.zero_le _))))) (by decide), ?_⟩
    have f1 : H lr = none := by
      rw [upd_ne n1.symm, upd_ne n1.symm, upd_ne n1.symm] at hlr
      exact hlr
    have f2 : H ll = none := by
      rw [upd_ne n2.symm, upd_ne n3.symm, upd_ne n2.symm, upd_ne n2.symm, upd_ne n2.symm] at hll
      exact hll
    refine k lr ll _ ⟨?_, ⟨[], ?_, .nil⟩, ⟨[], ?_, .nil⟩, n3, good_unread⟩ f1 f2 fun b o e hb => ?_
    · rw [upd_same, put_all]
      rfl
    · rw [upd_ne n1.symm, upd_ne n3, upd_ne n1.symm, upd_same]
      rfl
    · rw [upd_ne n2.symm, upd_same]
      rfl
    · rw [upd_ne hb, upd_ne (ne_of_none e f2), upd_ne hb, upd_ne (ne_of_none e f1), upd_ne hb, upd_ne hb, upd_ne hb]
      exact e
def spSelf (C : Addr) (g : Reading → Bool) : Sp := fun vs H Q _ => ∃ (p dx lr ll : Addr) (s : Reading), vs = [.ref p] ∧ RdAt C H p dx lr ll s ∧ Q (.bl (g s)) H
theorem do_is_whole (T : Txt K mg) (L : Cl K mg C) : MDoes P w K mg base C 1 "is_whole" ["self"] (spSelf C whole) := by
  refine L.m_is_whole.does sc_Reading_is_whole (fun vs H Q E h => ?_) (fun f cdv A outer s H vs Q E hr h => ?_)
  · obtain ⟨p, dx, lr, ll, s, rfl, _⟩ := h
    rfl
  · obtain ⟨p, dx, lr, ll, s, rfl, R, k⟩ := h
    refine ⟨_, pss_one (ps_ret (pe_and (pe_cmpR op_gt (pe_fld (pv 0) rfl) pe_int (nomark _)) (pe_and (pe_cmpR op_eq (pe_fld (pv 0) rfl) (pe_fld (pv 0) rfl) (nomark _)) (pe_one (pe_not (pe_fld (pv 0) rfl)))))), ?_⟩
    unfold whole at k
    refine ⟨_, rfl, p, C, dx, _, _, rfl, R.ob, L.cl, L.n_page_count, rf_page_count _ _ _, _, _, rfl, rfl, _, rfl, ?_⟩
    refine ite_b (fun h => ?_) (fun h => ?_)
    · have h : (0 : Int) < (s.pages : Int) := of_decide_eq_true h
      rw [decide_eq_true (show 0 < s.pages by omega), Bool.true_and] at k
      refine ⟨_, rfl, p, C, dx, _, _, rfl, R.ob, L.cl, L.n_page_number, rf_page_number _ _ _, _, rfl, p, C, dx, _, _, rfl, R.ob, L.cl, L.n_page_count, rf_page_count _ _ _, rfl, _, rfl, ?_⟩
      rw [int_eq]
      refine ite_b (fun h => ?_) (fun h => ?_)
      · rw [h, Bool.true_and] at k
        exact ⟨_, rfl, p, C, dx, _, _, rfl, R.ob, L.cl, L.n_on_page, rf_on_page _ _ _, _, rfl, k⟩
      · rw [h, Bool.false_and] at k
        exact k
    · have h : ¬ (0 : Int) < (s.pages : Int) := of_decide_eq_false h
      rw [decide_eq_false (show ¬ 0 < s.pages by omega), Bool.false_and] at k
      exact k
def spCounts (C : Addr) : Sp := fun vs H Q _ => ∃ (p dx lr ll : Addr) (s : Reading), vs = [.ref p] ∧ RdAt C H p dx lr ll s ∧ NewL H (zn (counts s)) Q
theorem do_page_counts (T : Txt K mg) (L : Cl K mg C) : MDoes P w K mg base C 1 "page_counts" ["self"] (spCounts C) := by
  refine L.m_page_counts.does sc_Reading_page_counts (fun vs H Q E h => ?_) (fun f cdv A outer s H vs Q E hr h => ?_)
  · obtain ⟨p, dx, lr, ll, s, rfl, _⟩ := h
    rfl
  · obtain ⟨p, dx, lr, ll, s, rfl, R, k⟩ := h
    refine ⟨_, pss_cons (ps_if (pt_cmpR op_eq (pe_fld (pv 0) rfl) pe_int (nomark _)) (pss_one (ps_ret (pe_listRange rfl rfl T.b_list rfl T.b_range (pa_cons pe_int (pa_cons (pe_op op_add (pe_top T.c_MOST_PAGES) pe_int) pa_nil))))) pss_nil)
      (pss_cons (ps_if (pt_cmpR op_lt (pe_fld (pv 0) rfl) (pe_fld (pv 0) rfl) (nomark _)) (pss_one (ps_ret (pe_lst (pa_cons (pe_fld (pv 0) rfl) pa_nil)))) pss_nil)
      (pss_one (ps_ret (pe_lst pa_nil)))), ?_⟩
    unfold counts at k
    refine ⟨_, rfl, p, C, dx, _, _, rfl, R.ob, L.cl, L.n_page_number, rf_page_number _ _ _, rfl, _, rfl, ?_⟩
    refine ite_b (fun h => ?_) (fun h => ?_)
    · have h : V.int (s.page : Int) = V.int 0 := of_decide_eq_true h
      injection h with h
      rw [if_pos (show s.page = 0 by omega)] at k
      exact ⟨_, _, rfl, rfl, 1, 5, rfl, ⟨by decide, by decide, by decide, by decide⟩, by decide, fun l hl => k l _ (Same.put hl) hl upd_same⟩
    · have h : ¬ V.int (s.page : Int) = V.int 0 := of_decide_eq_false h
      rw [if_neg (show ¬ s.page = 0 from fun e => h (by rw [e]; rfl))] at k
      refine ⟨_, rfl, p, C, dx, _, _, rfl, R.ob, L.cl, L.n_page_number, rf_page_number _ _ _, _, rfl, p, C, dx, _, _, rfl, R.ob, L.cl, L.n_page_count, rf_page_count _ _ _, _, _, rfl, rfl, _, rfl, ?_⟩
      refine ite_b (fun h => ?_) (fun h => ?_)
      · have h : (s.page : Int) < (s.pages : Int) := of_decide_eq_true h
        rw [if_pos (show s.page < s.pages by omega)] at k
        exact ⟨_, rfl, p, C, dx, _, _, rfl, R.ob, L.cl, L.n_page_count, rf_page_count _ _ _, by show 1 ≤ sizeLine; decide, fun l hl => k l _ (Same.put hl) hl upd_same⟩
      · have h : ¬ (s.page : Int) < (s.pages : Int) := of_decide_eq_false h
        rw [if_neg (show ¬ s.page < s.pages by omega)] at k
        exact ⟨Nat.zero_le _, fun l hl => k l _ (Same.put hl) hl upd_same⟩
def room (s : Reading) : Bool := decide (s.here.length < 20) && decide (s.rows.length < 64)
theorem do_has_room (T : Txt K mg) (L : Cl K mg C) : MDoes P w K mg base C 1 "has_room" ["self"] (spSelf C room) := by
  refine L.m_has_room.does sc_Reading_has_room (fun vs H Q E h => ?_) (fun f cdv A outer s H vs Q E hr h => ?_)
  · obtain ⟨p, dx, lr, ll, s, rfl, _⟩ := h
    rfl
  · obtain ⟨p, dx, lr, ll, s, rfl, R, k⟩ := h
    obtain ⟨as, ha, hR⟩ := R.rws
    obtain ⟨bs, hb, hL⟩ := R.lns
    have la := Paired.length hR
    have lb := hL.len
    refine ⟨_, pss_one (ps_ret (pe_and (pe_cmpR op_lt (pe_callB call_len_seq rfl T.b_len PySem.boot_len (pa_cons (pe_fld (pv 0) rfl) pa_nil)) (pe_top T.c_ROWS_ON_A_PAGE) (nomark _)) (pe_one (pe_cmpR op_lt (pe_callB call_len_seq rfl T.b_len PySem.boot_len (pa_cons (pe_fld (pv 0) rfl) pa_nil)) (pe_top T.c_MOST_ROWS) (nomark _))))), ?_⟩
    unfold room at k
    refine ⟨_, rfl, p, C, dx, _, _, rfl, R.ob, L.cl, L.n_row_lines, rf_row_lines _ _ _, ll, _, rfl, .inl (SqL.of hb), _, _, rfl, rfl, _, rfl, ?_⟩
    rw [List.length_map, lb]
    refine ite_b (fun h => ?_) (fun h => ?_)
    · have h : (s.here.length : Int) < 20 := of_decide_eq_true h
      rw [decide_eq_true (show s.here.length < 20 by omega), Bool.true_and] at k
      refine ⟨_, rfl, p, C, dx, _, _, rfl, R.ob, L.cl, L.n_rows, rf_rows _ _ _, lr, _, rfl, .inl (SqL.of ha), _, _, rfl, rfl, ?_⟩
      rw [List.length_map, la]
      have e : decide ((s.rows.length : Int) < 64) = decide (s.rows.length < 64) := decide_eq_decide.mpr (by omega)
      rw [← e] at k
      exact k
    · have h : ¬ (s.here.length : Int) < 20 := of_decide_eq_false h
      rw [decide_eq_false (show ¬ s.here.length < 20 by omega), Bool.false_and] at k
      exact k
theorem do_can_end (T : Txt K mg) (L : Cl K mg C) : MDoes P w K mg base C 1 "can_end" ["self"] (spSelf C canEnd) := by
  refine L.m_can_end.does sc_Reading_can_end (fun vs H Q E h => ?_) (fun f cdv A outer s H vs Q E hr h => ?_)
  · obtain ⟨p, dx, lr, ll, s, rfl, _⟩ := h
    rfl
  · obtain ⟨p, dx, lr, ll, s, rfl, R, k⟩ := h
    obtain ⟨bs, hb, hL⟩ := R.lns
    have lb := hL.len
    refine ⟨_, pss_cons (ps_if (pt_cmpR op_lt (pe_fld (pv 0) rfl) (pe_fld (pv 0) rfl) (nomark _)) (pss_one (ps_ret (pe_cmpR op_eq (pe_callB call_len_seq rfl T.b_len PySem.boot_len (pa_cons (pe_fld (pv 0) rfl) pa_nil)) (pe_top T.c_ROWS_ON_A_PAGE) (nomark _)))) pss_nil)
      (pss_one (ps_ret (pe_or (pe_cmpR op_gt (pe_callB call_len_seq rfl T.b_len PySem.boot_len (pa_cons (pe_fld (pv 0) rfl) pa_nil)) pe_int (nomark _)) (pe_one (pe_cmpR op_eq (pe_fld (pv 0) rfl) pe_int (nomark _)))))), ?_⟩
    unfold canEnd at k
    refine ⟨_, rfl, p, C, dx, _, _, rfl, R.ob, L.cl, L.n_page_number, rf_page_number _ _ _, _, rfl, p, C, dx, _, _, rfl, R.ob, L.cl, L.n_page_count, rf_page_count _ _ _, _, _, rfl, rfl, _, rfl, ?_⟩
    refine ite_b (fun h => ?_) (fun h => ?_)
    · have h : (s.page : Int) < (s.pages : Int) := of_decide_eq_true h
      rw [if_pos (show s.page < s.pages by omega)] at k
      refine ⟨_, rfl, p, C, dx, _, _, rfl, R.ob, L.cl, L.n_row_lines, rf_row_lines _ _ _, ll, _, rfl, .inl (SqL.of hb), rfl, ?_⟩
      rw [List.length_map, lb]
      rw [← int_eq] at k
      exact k
    · have h : ¬ (s.page : Int) < (s.pages : Int) := of_decide_eq_false h
      rw [if_neg (show ¬ s.page < s.pages by omega)] at k
      refine ⟨_, rfl, p, C, dx, _, _, rfl, R.ob, L.cl, L.n_row_lines, rf_row_lines _ _ _, ll, _, rfl, .inl (SqL.of hb), _, _, rfl, rfl, _, rfl, ?_⟩
      rw [List.length_map, lb]
      refine ite_b (fun h => ?_) (fun h => ?_)
      · have h : (0 : Int) < (s.here.length : Int) := of_decide_eq_true h
        rw [decide_eq_true (show 0 < s.here.length by omega), Bool.true_or] at k
        exact k
      · have h : ¬ (0 : Int) < (s.here.length : Int) := of_decide_eq_false h
        rw [decide_eq_false (show ¬ 0 < s.here.length by omega), Bool.false_or, ← int_eq] at k
        exact ⟨_, rfl, p, C, dx, _, _, rfl, R.ob, L.cl, L.n_page_count, rf_page_count _ _ _, rfl, k⟩
end
end Hb

set_option Elab.async false
set_option linter.all false
set_option maxRecDepth 100000
set_option maxHeartbeats 4000000
namespace Hb
open PySem L2 RgBoard TL
section
variable {P : Program} {w : World} {K : PySem.W.Frag} {mg : Str → Option Value} {base : Heap}
variable {C : Addr}
/-! ### take_page_line -/
def spPL (K : PySem.W.Frag) (C : Addr) : Sp := fun vs H Q _ => ∃ (p dx lr ll a : Addr) (s : Reading) (l : Bytes), vs = [.ref p, .ref a] ∧ RdAt C H p dx lr ll s ∧ H a = some (.lst (zs (toI l))) ∧ Ln l ∧
  (pageMore s l.dropLast = none → ∀ H', Same H H' → Q (.bl false) H') ∧
  ∀ (u : Reading) (ll' : Addr) (H' : Hp), pageMore s l.dropLast = some u → RdAt C H' p dx lr ll' u → H ll' = none → (∀ b o, H b = some o → b ≠ p → H' b = some o) → Q (.bl true) H'
theorem Ln.ne {l : Bytes} (h : Ln l) : l ≠ [] := fun e => by have := h.lo; rw [e] at this; simp at this
theorem do_take_page_line (T : Txt K mg) (L : Cl K mg C) : MDoes P w K mg base C 3 "take_page_line" ["self", "line"] (spPL K C) := by
  have PC : MDoes P w K mg base C 2 "page_counts" ["self"] (spCounts C) := (do_page_counts T L).mono (by decide)
  have PW : Does P w K mg base 2 "page_words" ["number", "page_count"] spPageW := do_page_words T
  refine L.m_take_page_line.does sc_Reading_take_page_line (fun vs H Q E h => ?_) (fun f cdv A outer s H vs Q E hr h => ?_)
  · obtain ⟨p, dx, lr, ll, a, s, l, rfl, _⟩ := h
    rfl
  · obtain ⟨p, dx, lr, ll, a, s, l, rfl, R, hA, hl, kn, ks⟩ := h
    have gle := R.good.le
    have gfew := R.good.few
    have hcs : ∀ m ∈ counts s, m ≤ 4 := fun m hm => by
      unfold counts at hm
      split at hm
      · simp at hm; omega
      · split at hm
        · simp at hm; omega
        · cases hm
    have hcl : (counts s).length ≤ 4 := by
      unfold counts
      split
      · decide
      · split
        · show 1 ≤ 4; decide
        · decide
    refine ⟨_, pss_cons (ps_set (i := 2) sc_Reading_take_page_line.nd rfl (by first | exact Or.inl rfl | exact Or.inr rfl) (pe_op op_add (pe_fld (pv 0) rfl) pe_int))
      (pss_cons (ps_for PassesOwn.never rfl (pi_list (pe_mdo0 (pv 0) L.cl PC hr)) (pg_name (i := 3) sc_Reading_take_page_line.nd rfl (Or.inl rfl))
        (pss_one (ps_if (pt_cmpR (op_eqI hr.units) (pe_slice sl_list (pv 1) po_none (po_some (pe_un un_neg pe_int))) (pe_do PW hr (pa_cons (pv 2) (pa_cons (pv 3) pa_nil))) (nomark _))
          (pss_cons (ps_fld (pv 0) (pv 3) rfl) (pss_cons (ps_fld (pv 0) (pv 2) rfl) (pss_cons (ps_fld (pv 0) pe_bl rfl) (pss_cons (ps_fld (pv 0) (pe_lst pa_nil) rfl) (pss_one (ps_ret pe_bl)))))) pss_nil)))
      (pss_one (ps_ret pe_bl))), ?_⟩
    refine ⟨_, rfl, p, C, dx, _, _, rfl, R.ob, L.cl, L.n_page_number, rf_page_number _ _ _, _, _, rfl, rfl, ?_⟩
    refine ⟨_, rfl, p, dx, _, rfl, R.ob, rf_no _ _ _ (by decide +kernel) (by decide +kernel) (by decide +kernel) (by decide +kernel) (by decide +kernel), p, dx, lr, ll, s, rfl, R, fun q H1 s1 hq e1 => ?_⟩
    refine ⟨q, rfl, ⟨_, SqL.of e1⟩, ?_⟩
    refine for_list (K := K) (a := q) (xs := zn (counts s)) (fun i σ H2 => Same H1 H2 ∧ (∃ x, σ = [some (.ref p), some (.ref a), some (.int ((s.page : Int) + 1)), x]) ∧ ∀ m ∈ (counts s).take i, (l.dropLast == pageW (s.page + 1) m) = false)
      ⟨Same.refl _, ⟨_, rfl⟩, by simp⟩ (fun i σ H2 _ ⟨s2, _⟩ => SqL.of (s2 _ _ e1)) ?_ ?_
    · rintro i v σ H2 hv ⟨s2, ⟨x, rfl⟩, hno⟩
      obtain ⟨m, hm, rfl⟩ := zn_get hv
      have hm4 := hcs m (List.mem_of_getElem? hm)
      have S2 := s1.trans s2
      refine ⟨_, rfl, _, rfl, _, rfl, a, _, rfl, SqL.of (S2 _ _ hA), fun c hc => ?_⟩
      have sc := Same.put (o := .lst (cutV (zs (toI l)) none (some (-1)))) hc
      have ec : (upd H2 c (.lst (cutV (zs (toI l)) none (some (-1))))) c = some (.lst (zs (toI l.dropLast))) := by rw [upd_same, cutV_but hl.ne]
      refine ⟨_, rfl, _, rfl, s.page + 1, m, ?_, by omega, by omega, fun d H3 s3 hd e3 => ?_⟩
      · rfl
      have S3 := (S2.trans sc).trans s3
      have T3 := (s2.trans sc).trans s3
      refine ⟨c, d, _, _, rfl, rfl, SqL.of (s3 _ _ ec), SqL.of e3, _, rfl, ?_⟩
      by_cases ht : l.dropLast = pageW (s.page + 1) m
      · have hfind : ((counts s).find? fun m => l.dropLast == pageW (s.page + 1) m) = some m := by
          have hsplit : counts s = (counts s).take i ++ m :: (counts s).drop (i + 1) := by
            obtain ⟨h1, h2⟩ := List.getElem?_eq_some_iff.mp hm
            rw [← h2, ← List.drop_eq_getElem_cons h1, List.take_append_drop]
          rw [hsplit, List.find?_append, List.find?_eq_none.mpr (fun y hy => by rw [hno y hy]; exact Bool.false_ne_true)]
          rw [Option.none_or, List.find?_cons, show (l.dropLast == pageW (s.page + 1) m) = true from beq_iff_eq.mpr ht]
        have hmore : pageMore s l.dropLast = some ⟨m, s.page + 1, true, [], s.rows⟩ := by
          unfold pageMore
          rw [hfind]
          rfl
        have hd : decide (toI l.dropLast = toI (spaced [ascii "page", decimal (s.page + 1), ascii "of", decimal m])) = true := decide_eq_true (by rw [ht]; rfl)
        rw [hd]
        refine iteT ?_
        have R3 := R.same S3
        have ob := R3.ob
        refine ⟨_, rfl, _, rfl, p, C, dx, _, rfl, ob, L.cl, L.n_page_count, rf_len _ _ _, ?_⟩
        rw [put_page_count]
        refine ⟨_, rfl, _, rfl, p, C, dx, _, rfl, upd_same, L.cl, L.n_page_number, rf_len _ _ _, ?_⟩
        rw [show V.int ((s.page : Int) + 1) = V.int ((s.page + 1 : Nat) : Int) by rfl, put_page_number]
        refine ⟨_, rfl, p, C, dx, _, rfl, upd_same, L.cl, L.n_on_page, rf_len _ _ _, ?_⟩
        rw [put_on_page]
        refine ⟨Nat.zero_le _, fun g hg => ?_⟩
        have pg : p ≠ g := fun e => by rw [← e, upd_same] at hg; cases hg
        refine ⟨_, rfl, p, C, dx, _, rfl, by rw [upd_ne pg]; exact upd_same, L.cl, L.n_row_lines, rf_len _ _ _, ?_⟩
        rw [put_row_lines]
        have fg : H3 g = none := by
          rw [upd_ne pg.symm, upd_ne pg.symm, upd_ne pg.symm] at hg
          exact hg
        have out : ∀ b o, H3 b = some o → b ≠ p → (upd (upd (upd (upd (upd H3 p (.ins C dx (rf { s with pages := m } lr ll))) p (.ins C dx (rf { { s with pages := m } with page := s.page + 1 } lr ll))) p (.ins C dx (rf { { { s with pages := m } with page := s.page + 1 } with isOpen := true } lr ll))) g (.lst [])) p (.ins C dx (rf { { { s with pages := m } with page := s.page + 1 } with isOpen := true } lr g))) b = some o := fun b o e hb => by
          rw [upd_ne hb, upd_ne (ne_of_none e fg), upd_ne hb, upd_ne hb, upd_ne hb]
          exact e
        obtain ⟨as, ha, hR⟩ := R3.rws
        have lrp : lr ≠ p := ne_of ha ob (by intro z; cases z)
        refine ks _ g _ hmore ⟨upd_same, ⟨as, out _ _ ha lrp, Paired.imp' (fun x r z => out _ _ z (ne_of z ob (by intro z; cases z))) hR⟩, ⟨[], by rw [upd_ne pg.symm, upd_same]; rfl, .nil⟩, fun e => ?_, good_page R.good hmore⟩ (S3.free fg) fun b o e hb => out b o (S3 _ _ e) hb
        rw [e, fg] at ha
        cases ha
      · have hd : decide (toI l.dropLast = toI (spaced [ascii "page", decimal (s.page + 1), ascii "of", decimal m])) = false := decide_eq_false fun z => ht (toI_inj z)
        rw [hd]
        refine iteF ⟨T3, ⟨_, rfl⟩, fun y hy => ?_⟩
        rw [List.take_add_one, hm] at hy
        rcases List.mem_append.mp hy with hy | hy
        · exact hno y hy
        · have : y = m := by simpa using hy
          rw [this]
          exact beq_eq_false_iff_ne.mpr ht
    · rintro σ H2 ⟨s2, ⟨x, rfl⟩, hno⟩
      rw [zn_length, List.take_of_length_le (Nat.le_refl _)] at hno
      have hmore : pageMore s l.dropLast = none := by
        unfold pageMore
        rw [List.find?_eq_none.mpr (fun y hy => by rw [hno y hy]; exact Bool.false_ne_true)]
        rfl
      exact kn hmore H2 (s1.trans s2)
end
end Hb

set_option Elab.async false
set_option linter.all false
set_option maxRecDepth 100000
set_option maxHeartbeats 4000000
namespace Hb
open PySem L2 RgBoard TL
section
variable {P : Program} {w : World} {K : PySem.W.Frag} {mg : Str → Option Value} {base : Heap}
variable {C : Addr}
/-! ### take_row -/
theorem paired_and {α β : Type} {F : α → β → Prop} : ∀ {l : List α} {m : List β}, Paired F l m → Paired (fun a b => F a b ∧ b ∈ m) l m
  | _, _, .nil => .nil
  | _, _, .cons r t => .cons ⟨r, List.mem_cons_self⟩ (Paired.imp' (fun _ _ z => ⟨z.1, List.mem_cons_of_mem _ z.2⟩) (paired_and t))
def spRw (K : PySem.W.Frag) (C : Addr) : Sp := fun vs H Q _ => ∃ (p dx lr ll a : Addr) (s : Reading) (l : Bytes), vs = [.ref p, .ref a] ∧ RdAt C H p dx lr ll s ∧ H a = some (.lst (zs (toI l))) ∧ Ln l ∧ s.isOpen = true ∧
  (rowMore s l = none → ∀ H', Same H H' → Q (.bl false) H') ∧
  ∀ (u : Reading) (H' : Hp), rowMore s l = some u → RdAt C H' p dx lr ll u → (∀ b o, H b = some o → b ≠ lr → b ≠ ll → H' b = some o) → Q (.bl true) H'
theorem do_take_row (T : Txt K mg) (L : Cl K mg C) : MDoes P w K mg base C 4 "take_row" ["self", "line"] (spRw K C) := by
  have RO : Does P w K mg base 3 "row_of" ["words"] (spRowOf K) := do_row_of T
  have HR : MDoes P w K mg base C 3 "has_room" ["self"] (spSelf C room) := (do_has_room T L).mono (by decide)
  have RB : Does P w K mg base 3 "is_right_behind" ["row", "before"] (spBehind K) := do_is_right_behind T
  refine L.m_take_row.does sc_Reading_take_row (fun vs H Q E h => ?_) (fun f cdv A outer s H vs Q E hr h => ?_)
  · obtain ⟨p, dx, lr, ll, a, s, l, rfl, _⟩ := h
    rfl
  · obtain ⟨p, dx, lr, ll, a, s, l, rfl, R, hA, hl, ho, kn, ks⟩ := h
    rw [rowMore_cand] at kn
    refine ⟨_, pss_cons (ps_set (i := 2) sc_Reading_take_row.nd rfl (by first | exact Or.inl rfl | exact Or.inr rfl) (pe_do RO hr (pa_cons (pe_slice sl_list (pv 1) po_none (po_some (pe_un un_neg pe_int))) pa_nil)))
      (pss_cons (ps_if (PW.pt (pw_or (pt_cmpR op_isN (pv 2) pe_non (nomark _)) (pw_or (pt_not (pt_val (pe_mdo0 (pv 0) L.cl HR hr))) (pw_or1 (pt_not (pt_val (pe_do RB hr (pa_cons (pv 2) (pa_cons (pe_fld (pv 0) rfl) pa_nil))))))))) (pss_one (ps_ret pe_bl)) pss_nil)
      (pss_cons (ps_expr (pe_bm PySem.F.plainAttrs_list PySem.F.slot_list_append PySem.F.type_list_append mt_append (pe_fld (pv 0) rfl) (pa_cons (pv 2) pa_nil)))
      (pss_cons (ps_expr (pe_bm PySem.F.plainAttrs_list PySem.F.slot_list_append PySem.F.type_list_append mt_append (pe_fld (pv 0) rfl) (pa_cons (pv 1) pa_nil)))
      (pss_one (ps_ret pe_bl))))), ?_⟩
    refine ⟨_, rfl, _, rfl, _, rfl, a, _, rfl, SqL.of hA, fun c hc => ?_⟩
    have sc := Same.put (o := .lst (cutV (zs (toI l)) none (some (-1)))) hc
    have ec : (upd H c (.lst (cutV (zs (toI l)) none (some (-1))))) c = some (.lst (zs (toI l.dropLast))) := by rw [upd_same, cutV_but hl.ne]
    have hsl : l.dropLast.all isSign = true := List.all_eq_true.mpr fun x hx => List.all_eq_true.mp hl.si x (List.dropLast_subset _ hx)
    refine ⟨c, l.dropLast, rfl, SqL.of ec, hsl, by rw [List.length_dropLast]; have := hl.hi; omega, fun H1 hcand s1 => ?_, fun r g H1 hcand s1 hg eg => ?_⟩
    · rw [hcand] at kn
      refine ⟨_, rfl, rfl, _, rfl, ?_⟩
      exact iteT (iteT (kn rfl H1 (sc.trans s1)))
    · have S1 := sc.trans s1
      have R1 := R.same S1
      have fg : H g = none := sc.free hg
      obtain ⟨as, ha, hR⟩ := R1.rws
      obtain ⟨bs, hb, hL⟩ := R1.lns
      have la := Paired.length hR
      have lb := hL.len
      have gr := R.good.rlen
      have gh := R.good.hlen
      rw [hcand] at kn
      refine ⟨_, rfl, rfl, _, rfl, ?_⟩
      refine iteF ?_
      refine ⟨_, rfl, p, dx, _, rfl, R1.ob, rf_no _ _ _ (by decide +kernel) (by decide +kernel) (by decide +kernel) (by decide +kernel) (by decide +kernel), p, dx, lr, ll, s, rfl, R1, _, rfl, ?_⟩
      refine ite_b (fun h => ?_) (fun h => ?_)
      · have h : room s = false := by simpa using h
        refine iteT (kn ?_ H1 S1)
        show (if _ then _ else _) = none
        rw [if_neg]
        rintro ⟨h1, h2, _⟩
        unfold room at h
        rw [decide_eq_true h1, decide_eq_true h2] at h
        cases h
      · have h : room s = true := by simpa using h
        unfold room at h
        simp only [Bool.and_eq_true, decide_eq_true_eq] at h
        have hnl : r.name.length ≤ 1000 := by
          unfold rowCand at hcand
          obtain ⟨h1, h2⟩ := Option.filter_eq_some_iff.mp hcand
          have h3 := congrArg List.length (beq_iff_eq.mp h2)
          have h4 : (toI r.text).length = r.text.length := toI_length _
          rw [toI_text] at h4
          simp only [List.length_append, toI_length] at h4
          rw [List.length_dropLast] at h3
          have := hl.hi
          omega
        refine ⟨_, rfl, _, rfl, p, C, dx, _, _, rfl, R1.ob, L.cl, L.n_rows, rf_rows _ _ _, g, lr, r, as, s.rows, rfl, SqL.of eg, SqL.of ha, Paired.imp' (fun _ _ z => SqL.of z) hR, hnl, fun x hx => ?_, h.2, fun H2 s2 => ⟨_, rfl, ?_⟩⟩
        · have h1 := (R.good.rok x hx).1
          unfold Row.ok at h1
          simp only [Bool.and_eq_true, decide_eq_true_eq] at h1
          omega
        have S2 := S1.trans s2
        refine ite_b (fun h3 => ?_) (fun h3 => ?_)
        · have h3 : rightBehind s.rows r = false := by simpa using h3
          refine kn ?_ H2 S2
          show (if _ then _ else _) = none
          rw [if_neg]
          rintro ⟨_, _, z⟩
          rw [h3] at z
          cases z
        · have h3 : rightBehind s.rows r = true := by simpa using h3
          have hmore : rowMore s l = some { s with here := s.here ++ [l], rows := s.rows ++ [r] } := by
            rw [rowMore_cand, hcand]
            show (if _ then _ else _) = _
            rw [if_pos ⟨h.1, h.2, h3⟩]
          have R2 := R1.same s2
          have ob := R2.ob
          have ha2 := s2 _ _ ha
          have hb2 := s2 _ _ hb
          have eg2 := s2 _ _ eg
          have hA2 := S2 _ _ hA
          have glr : g ≠ lr := not_refs eg2 ha2 (by simp [rowI])
          have gll : g ≠ ll := not_refs eg2 hb2 (by simp [rowI])
          have hln : toI l ≠ [] := fun e => hl.ne (List.eq_nil_of_length_eq_zero (by rw [← toI_length, e]; rfl))
          have alr : a ≠ lr := not_refs hA2 ha2 hln
          have all_ : a ≠ ll := not_refs hA2 hb2 hln
          have plr : p ≠ lr := ne_of ob ha2 (by intro z; cases z)
          have pll : p ≠ ll := ne_of ob hb2 (by intro z; cases z)
          refine ⟨_, rfl, p, C, dx, _, _, rfl, ob, L.cl, L.n_rows, rf_rows _ _ _, .inl ⟨rfl, _, SqL.of ha2⟩, _, rfl, lr, _, _, rfl, rfl, ha2, by rw [List.length_map, sizeLine_eq]; omega, ?_⟩
          refine ⟨_, rfl, p, C, dx, _, _, rfl, by rw [upd_ne plr]; exact ob, L.cl, L.n_row_lines, rf_row_lines _ _ _, .inl ⟨rfl, _, SqL.of (by rw [upd_ne R.ne.symm]; exact hb2)⟩, _, rfl, ll, _, _, rfl, rfl, by rw [upd_ne R.ne.symm]; exact hb2, by rw [List.length_map, sizeLine_eq]; omega, ?_⟩
          have out : ∀ b o, H2 b = some o → b ≠ lr → b ≠ ll → (upd (upd H2 lr (.lst (as.map V.ref ++ [.ref g]))) ll (.lst (bs.map V.ref ++ [.ref a]))) b = some o := fun b o e h1 h2 => by
            rw [upd_ne h2, upd_ne h1]
            exact e
          refine ks _ _ hmore ⟨?_, ⟨as ++ [g], ?_, ?_⟩, ⟨bs ++ [a], ?_, ?_⟩, R.ne, good_row R.good hl ho hmore⟩ fun b o e h1 h2 => out b o (S2 _ _ e) h1 h2
          · exact out _ _ ob plr pll
          · rw [upd_ne R.ne, upd_same]
            simp
          · refine Paired.snoc (Paired.imp' (fun x y z => ?_) hR) (out _ _ eg2 glr gll)
            have z2 := s2 _ _ z
            exact out _ _ z2 (not_refs z2 ha2 (by simp [rowI])) (not_refs z2 hb2 (by simp [rowI]))
          · rw [upd_same]
            simp
          · refine Paired.snoc (paired_imp_mem (fun x hx y z => ?_) (paired_and hL)) (out _ _ hA2 alr all_)
            have z2 := s2 _ _ z.1
            have hy : toI y ≠ [] := fun e => (R.good.here y z.2).2 (List.eq_nil_of_length_eq_zero (by rw [← toI_length, e]; rfl))
            exact out _ _ z2 (not_refs z2 ha2 hy) (not_refs z2 hb2 hy)
end
end Hb

set_option Elab.async false
set_option linter.all false
set_option maxRecDepth 100000
set_option maxHeartbeats 4000000
namespace Hb
open PySem L2 RgBoard TL
section
variable {P : Program} {w : World} {K : PySem.W.Frag} {mg : Str → Option Value} {base : Heap}
variable {C : Addr}
/-! ### take_end, take_line -/
def spEd (K : PySem.W.Frag) (C : Addr) : Sp := fun vs H Q _ => ∃ (p dx lr ll a : Addr) (s : Reading) (l : Bytes), vs = [.ref p, .ref a] ∧ RdAt C H p dx lr ll s ∧ H a = some (.lst (zs (toI l))) ∧ Ln l ∧
  (endMore s l.dropLast = none → ∀ H', Same H H' → Q (.bl false) H') ∧
  ∀ (u : Reading) (H' : Hp), endMore s l.dropLast = some u → RdAt C H' p dx lr ll u → (∀ b o, H b = some o → b ≠ p → H' b = some o) → Q (.bl true) H'
theorem do_take_end (T : Txt K mg) (L : Cl K mg C) : MDoes P w K mg base C 4 "take_end" ["self", "line"] (spEd K C) := by
  have CE : MDoes P w K mg base C 3 "can_end" ["self"] (spSelf C canEnd) := (do_can_end T L).mono (by decide)
  have EW : Does P w K mg base 3 "end_words" ["row_lines"] (spEnd K) := do_end_words T
  refine L.m_take_end.does sc_Reading_take_end (fun vs H Q E h => ?_) (fun f cdv A outer s H vs Q E hr h => ?_)
  · obtain ⟨p, dx, lr, ll, a, s, l, rfl, _⟩ := h
    rfl
  · obtain ⟨p, dx, lr, ll, a, s, l, rfl, R, hA, hl, kn, ks⟩ := h
    obtain ⟨bs, hb, hL⟩ := R.lns
    have gh := R.good.hlen
    refine ⟨_, pss_cons (ps_if (PW.pt (pw_or (pt_not (pt_val (pe_mdo0 (pv 0) L.cl CE hr))) (pw_or1 (pt_cmpR (op_neI hr.units) (pe_slice sl_list (pv 1) po_none (po_some (pe_un un_neg pe_int))) (pe_do EW hr (pa_cons (pe_fld (pv 0) rfl) pa_nil)) (nomark _))))) (pss_one (ps_ret pe_bl)) pss_nil)
      (pss_cons (ps_fld (pv 0) pe_bl rfl) (pss_one (ps_ret pe_bl))), ?_⟩
    refine ⟨_, rfl, p, dx, _, rfl, R.ob, rf_no _ _ _ (by decide +kernel) (by decide +kernel) (by decide +kernel) (by decide +kernel) (by decide +kernel), p, dx, lr, ll, s, rfl, R, _, rfl, ?_⟩
    refine ite_b (fun h => ?_) (fun h => ?_)
    · have h : canEnd s = false := by simpa using h
      refine iteT (kn ?_ H (Same.refl _))
      unfold endMore
      rw [if_neg]
      rintro ⟨z, _⟩
      rw [h] at z
      cases z
    · have h : canEnd s = true := by simpa using h
      refine ⟨_, rfl, _, rfl, _, rfl, a, _, rfl, SqL.of hA, fun c hc => ?_⟩
      have sc := Same.put (o := .lst (cutV (zs (toI l)) none (some (-1)))) hc
      have ec : (upd H c (.lst (cutV (zs (toI l)) none (some (-1))))) c = some (.lst (zs (toI l.dropLast))) := by rw [upd_same, cutV_but hl.ne]
      refine ⟨_, rfl, p, C, dx, _, _, rfl, sc _ _ R.ob, L.cl, L.n_row_lines, rf_row_lines _ _ _, ll, bs, s.here, rfl, SqL.of (sc _ _ hb), hL.same sc, R.good.here, by omega, fun d H1 s1 hd e1 => ?_⟩
      have S1 := sc.trans s1
      refine ⟨c, d, _, _, rfl, rfl, SqL.of (s1 _ _ ec), SqL.of e1, _, rfl, ?_⟩
      by_cases ht : l.dropLast = endText s.here
      · have hd : decide (toI l.dropLast = toI (endText s.here)) = true := decide_eq_true (by rw [ht])
        rw [hd]
        refine iteF ?_
        have hmore : endMore s l.dropLast = some { s with isOpen := false } := by
          unfold endMore
          rw [if_pos ⟨h, ht⟩]
        have R1 := R.same S1
        have ob := R1.ob
        refine ⟨_, rfl, p, C, dx, _, rfl, ob, L.cl, L.n_on_page, rf_len _ _ _, ?_⟩
        rw [put_on_page]
        have out : ∀ b o, H1 b = some o → b ≠ p → (upd H1 p (.ins C dx (rf { s with isOpen := false } lr ll))) b = some o := fun b o e hb => by
          rw [upd_ne hb]
          exact e
        obtain ⟨as, ha1, hR1⟩ := R1.rws
        obtain ⟨bs1, hb1, hL1⟩ := R1.lns
        refine ks _ _ hmore ⟨upd_same, ⟨as, out _ _ ha1 (ne_of ha1 ob (by intro z; cases z)), Paired.imp' (fun x r z => out _ _ z (ne_of z ob (by intro z; cases z))) hR1⟩, ⟨bs1, out _ _ hb1 (ne_of hb1 ob (by intro z; cases z)), Paired.imp' (fun x r z => out _ _ z (ne_of z ob (by intro z; cases z))) hL1⟩, R.ne, good_end R.good hmore⟩ fun b o e hb => out b o (S1 _ _ e) hb
      · have hd : decide (toI l.dropLast = toI (endText s.here)) = false := decide_eq_false fun z => ht (toI_inj z)
        rw [hd]
        refine iteT (kn ?_ H1 S1)
        unfold endMore
        rw [if_neg]
        rintro ⟨_, z⟩
        exact ht z
def spTL (K : PySem.W.Frag) (C : Addr) : Sp := fun vs H Q _ => ∃ (p dx lr ll a : Addr) (s : Reading) (l : Bytes), vs = [.ref p, .ref a] ∧ RdAt C H p dx lr ll s ∧ H a = some (.lst (zs (toI l))) ∧ Ln l ∧
  (lineMore s l = none → ∀ H', Same H H' → Q (.bl false) H') ∧
  ∀ (u : Reading) (ll' : Addr) (H' : Hp), lineMore s l = some u → RdAt C H' p dx lr ll' u → (ll' = ll ∨ H ll' = none) → (∀ b o, H b = some o → b ≠ p → b ≠ lr → b ≠ ll → H' b = some o) → Q (.bl true) H'
theorem do_take_line (T : Txt K mg) (L : Cl K mg C) : MDoes P w K mg base C 5 "take_line" ["self", "line"] (spTL K C) := by
  have PL : MDoes P w K mg base C 4 "take_page_line" ["self", "line"] (spPL K C) := (do_take_page_line T L).mono (by decide)
  have TR : MDoes P w K mg base C 4 "take_row" ["self", "line"] (spRw K C) := do_take_row T L
  have TE : MDoes P w K mg base C 4 "take_end" ["self", "line"] (spEd K C) := do_take_end T L
  refine L.m_take_line.does sc_Reading_take_line (fun vs H Q E h => ?_) (fun f cdv A outer s H vs Q E hr h => ?_)
  · obtain ⟨p, dx, lr, ll, a, s, l, rfl, _⟩ := h
    rfl
  · obtain ⟨p, dx, lr, ll, a, s, l, rfl, R, hA, hl, kn, ks⟩ := h
    have hmore := lineMore_eq R.good hl
    refine ⟨_, pss_cons (ps_if (pt_not (pt_val (pe_fld (pv 0) rfl))) (pss_one (ps_ret (pe_mdo (pv 0) L.cl PL hr (pa_cons (pv 1) pa_nil)))) pss_nil)
      (pss_one (ps_ret (pe_or (pe_mdo (pv 0) L.cl TR hr (pa_cons (pv 1) pa_nil)) (pe_one (pe_mdo (pv 0) L.cl TE hr (pa_cons (pv 1) pa_nil)))))), ?_⟩
    refine ⟨_, rfl, p, C, dx, _, _, rfl, R.ob, L.cl, L.n_on_page, rf_on_page _ _ _, _, rfl, ?_⟩
    refine ite_b (fun h => ?_) (fun h => ?_)
    · have h : s.isOpen = false := by simpa using h
      rw [if_pos h] at hmore
      refine ⟨_, rfl, p, dx, _, rfl, R.ob, rf_no _ _ _ (by decide +kernel) (by decide +kernel) (by decide +kernel) (by decide +kernel) (by decide +kernel), _, rfl, p, dx, lr, ll, a, s, l, rfl, R, hA, hl, fun e => kn (by rw [hmore]; exact e), fun u ll' H' e R' hf kp => ks u ll' H' (by rw [hmore]; exact e) R' (.inr hf) fun b o e hb _ _ => kp b o e hb⟩
    · have h : s.isOpen = true := by simpa using h
      rw [if_neg (by rw [h]; exact Bool.noConfusion)] at hmore
      refine ⟨_, rfl, p, dx, _, rfl, R.ob, rf_no _ _ _ (by decide +kernel) (by decide +kernel) (by decide +kernel) (by decide +kernel) (by decide +kernel), _, rfl, p, dx, lr, ll, a, s, l, rfl, R, hA, hl, h, fun e H1 s1 => ?_, fun u H' e R' kp => ?_⟩
      · rw [e, Option.none_or] at hmore
        refine ⟨_, rfl, iteF ?_⟩
        refine ⟨_, rfl, p, dx, _, rfl, s1 _ _ R.ob, rf_no _ _ _ (by decide +kernel) (by decide +kernel) (by decide +kernel) (by decide +kernel) (by decide +kernel), _, rfl, p, dx, lr, ll, a, s, l, rfl, R.same s1, s1 _ _ hA, hl, fun e H2 s2 => kn (by rw [hmore]; exact e) H2 (s1.trans s2), fun u H' e R' kp => ks u ll H' (by rw [hmore]; exact e) R' (.inl rfl) fun b o e hb _ _ => kp b o (s1 _ _ e) hb⟩
      · rw [e] at hmore
        exact ⟨_, rfl, iteT (ks u ll H' hmore R' (.inl rfl) fun b o e _ h1 h2 => kp b o e h1 h2)⟩
end
end Hb

set_option Elab.async false
set_option linter.all false
set_option maxRecDepth 100000
set_option maxHeartbeats 4000000
namespace Hb
open PySem L2 RgBoard TL
section
variable {P : Program} {w : World} {K : PySem.W.Frag} {mg : Str → Option Value} {base : Heap}
variable {C : Addr}
/-! ### take_piece -/
def spPc (K : PySem.W.Frag) (C : Addr) : Sp := fun vs H Q _ => ∃ (p dx lr ll a : Addr) (s : Reading) (pc : Bytes), vs = [.ref p, .ref a] ∧ RdAt C H p dx lr ll s ∧ H a = some (.lst (zs (toI pc))) ∧ pc ≠ [] ∧ pc.length ≤ 100000 ∧
  (∀ (e : Nat) (H' : Hp), pieceMore s pc = .error e → Same H H' → Q (.int (e : Int)) H') ∧
  ∀ (u : Reading) (ll' : Addr) (H' : Hp), pieceMore s pc = .ok u → RdAt C H' p dx lr ll' u → (ll' = ll ∨ H ll' = none) → (∀ b o, H b = some o → b ≠ p → b ≠ lr → b ≠ ll → H' b = some o) → Q (.int 0) H'
theorem do_take_piece (T : Txt K mg) (L : Cl K mg C) : Does P w K mg base 6 "take_piece" ["reading", "piece"] (spPc K C) := by
  have AR : Does P w K mg base 5 "are_signs" ["given", "fewest", "most"] (spAre K) := (do_are_signs T).mono (by decide)
  have IL : Does P w K mg base 5 "is_line" ["signs"] (spIsLine K) := (do_is_line T).mono (by decide)
  have TL : MDoes P w K mg base C 5 "take_line" ["self", "line"] (spTL K C) := do_take_line T L
  refine T.d_take_piece.does sc_take_piece (fun vs H Q E h => ?_) (fun f cdv A outer s H vs Q E hr h => ?_)
  · obtain ⟨p, dx, lr, ll, a, s, pc, rfl, _⟩ := h
    rfl
  · obtain ⟨p, dx, lr, ll, a, s, pc, rfl, R, hA, hne, hz, kn, ks⟩ := h
    obtain ⟨z, hlast⟩ : ∃ z, pc.getLast? = some z := ⟨_, List.getLast?_eq_some_getLast hne⟩
    refine ⟨_, pss_cons (ps_set (i := 2) sc_take_piece.nd rfl (by first | exact Or.inl rfl | exact Or.inr rfl) (pe_slice sl_list (pv 1) po_none (po_some (pe_un un_neg pe_int))))
      (pss_cons (ps_if (PW.pt (pw_or (pt_cmpR op_ne (pe_ix ix_list (pv 1) (pe_un un_neg pe_int) (fun _ _ => rfl)) (pe_top T.c_LINE_FEED) (nomark _)) (pw_or1 (pt_not (pt_val (pe_do AR hr (pa_cons (pv 2) (pa_cons (pe_top T.c_SHORTEST_LINE) (pa_cons (pe_top T.c_LONGEST_LINE) pa_nil))))))))) (pss_one (ps_ret (pe_top T.c_NOT_SIGNS))) pss_nil)
      (pss_cons (ps_if (pt_not (pt_val (pe_do IL hr (pa_cons (pv 2) pa_nil)))) (pss_one (ps_ret (pe_top T.c_WRONG_SUM))) pss_nil)
      (pss_cons (ps_if (pt_not (pt_val (pe_mdo (pv 0) L.cl TL hr (pa_cons (pv 2) pa_nil)))) (pss_one (ps_ret (pe_top T.c_CANNOT_STAND))) pss_nil)
      (pss_one (ps_ret (pe_top T.c_NO_FAULT)))))), ?_⟩
    refine ⟨_, rfl, _, rfl, _, rfl, a, _, rfl, SqL.of hA, fun c hc => ?_⟩
    have sc := Same.put (o := .lst (cutV (zs (toI pc)) none (some (-1)))) hc
    have ec : (upd H c (.lst (cutV (zs (toI pc)) none (some (-1))))) c = some (.lst (zs (toI pc.dropLast))) := by rw [upd_same, cutV_but hne]
    have ek : ∀ e : Nat, (pc.getLast? ≠ some 10 ∨ signs 2 36 pc.dropLast = false) → pieceMore s pc = .error 1 := fun _ h => by
      unfold pieceMore
      rw [if_pos h]
    refine ⟨_, rfl, _, rfl, a, _, _, _, rfl, rfl, SqL.of (sc _ _ hA), last_at hlast, rfl, _, rfl, ?_⟩
    by_cases h10 : z = 10
    · rw [h10] at hlast ⊢
      refine iteF ?_
      refine ⟨_, rfl, c, pc.dropLast, 2, 36, rfl, SqL.of ec, by rw [List.length_dropLast]; omega, fun H1 s1 => ⟨_, rfl, ?_⟩⟩
      have S1 := sc.trans s1
      refine ite_b (fun h => ?_) (fun h => ?_)
      · have h : signs 2 36 pc.dropLast = false := by simpa using h
        exact kn 1 H1 (ek 0 (.inr h)) S1
      · have h : signs 2 36 pc.dropLast = true := by simpa using h
        have hn : ¬ (pc.getLast? ≠ some 10 ∨ signs 2 36 pc.dropLast = false) := by
          rintro (z | z)
          · exact z hlast
          · rw [h] at z; cases z
        have hsi : pc.dropLast.all isSign = true := by
          unfold signs at h
          simp only [Bool.and_eq_true, decide_eq_true_eq] at h
          exact h.2.2
        refine ⟨_, rfl, c, pc.dropLast, rfl, SqL.of (s1 _ _ ec), hsi, by rw [List.length_dropLast]; omega, fun H2 s2 => ⟨_, rfl, ?_⟩⟩
        have S2 := S1.trans s2
        refine ite_b (fun h2 => ?_) (fun h2 => ?_)
        · have h2 : sum pc.dropLast ≠ 0 := by simpa using h2
          refine kn 2 H2 ?_ S2
          unfold pieceMore
          rw [if_neg hn, if_pos h2]
        · have h2 : sum pc.dropLast = 0 := by simpa using h2
          have hl : Ln pc.dropLast := ln_of h h2
          have hp : pieceMore s pc = match lineMore s pc.dropLast with
              | none => .error 3
              | some u => .ok u := by
            unfold pieceMore
            rw [if_neg hn, if_neg (fun z => z h2)]
            all_goals rfl
          refine ⟨_, rfl, p, dx, _, rfl, S2 _ _ R.ob, rf_no _ _ _ (by decide +kernel) (by decide +kernel) (by decide +kernel) (by decide +kernel) (by decide +kernel), _, rfl, p, dx, lr, ll, c, s, pc.dropLast, rfl, R.same S2, s2 _ _ (s1 _ _ ec), hl, fun e H3 s3 => ⟨_, rfl, iteT ?_⟩, fun u ll' H' e R' hf kp => ⟨_, rfl, iteF ?_⟩⟩
          · refine kn 3 H3 ?_ (S2.trans s3)
            rw [hp, e]
          · refine ks u ll' H' (by rw [hp, e]) R' ?_ fun b o e h1 h2 h3 => kp b o (S2 _ _ e) h1 h2 h3
            rcases hf with hf | hf
            · exact .inl hf
            · exact .inr (S2.free hf)
    · have hd : decide (V.int (z.toNat : Int) = V.int 10) = false := decide_eq_false fun e => h10 (by
        injection e with e
        exact UInt8.toNat_inj.mp (by show z.toNat = 10; omega))
      rw [hd]
      refine iteT (iteT ?_)
      refine kn 1 _ (ek 0 (.inl ?_)) sc
      rw [hlast]
      exact fun e => h10 (Option.some.inj e)
end
end Hb

set_option Elab.async false
set_option linter.all false
set_option maxRecDepth 100000
set_option maxHeartbeats 4000000
namespace Hb
open PySem L2 RgBoard TL
section
variable {P : Program} {w : World} {K : PySem.W.Frag} {mg : Str → Option Value} {base : Heap}
/-! ### told_row -/
def spTold (K : PySem.W.Frag) : Sp := fun vs H Q _ => ∃ (a : Addr) (r : Row), vs = [.ref a] ∧ SqL K H a (zs (rowI r)) ∧ r.name.length ≤ 1000 ∧ NewL H (zs (toldRow r)) Q
theorem do_told_row (T : Txt K mg) : Does P w K mg base 2 "told_row" ["row"] (spTold K) := by
  have NM : Does P w K mg base 1 "name_of" ["row"] (spName K) := do_name_of T
  have PL : Does P w K mg base 1 "place_of" ["row"] (spField K Row.place) := do_place_of T
  have NU : Does P w K mg base 1 "numerator_of" ["row"] (spField K Row.num) := do_numerator_of T
  have DE : Does P w K mg base 1 "denominator_of" ["row"] (spField K Row.den) := do_denominator_of T
  refine T.d_told_row.does sc_told_row (fun vs H Q E h => ?_) (fun f cdv A outer s H vs Q E hr h => ?_)
  · obtain ⟨a, r, rfl, _⟩ := h
    rfl
  · obtain ⟨a, r, rfl, hA, hz, k⟩ := h
    refine ⟨_, pss_cons (ps_set (i := 1) sc_told_row.nd rfl (by first | exact Or.inl rfl | exact Or.inr rfl) (pe_do NM hr (pa_cons (pv 0) pa_nil)))
      (pss_one (ps_ret (pe_op op_cat (pe_op op_cat (pe_lst (pa_cons (pe_callB call_len_seq rfl T.b_len PySem.boot_len (pa_cons (pv 1) pa_nil)) pa_nil)) (pv 1)) (pe_lst (pa_cons (pe_do PL hr (pa_cons (pv 0) pa_nil)) (pa_cons (pe_do NU hr (pa_cons (pv 0) pa_nil)) (pa_cons (pe_do DE hr (pa_cons (pv 0) pa_nil)) pa_nil))))))), ?_⟩
    refine ⟨_, rfl, a, r, rfl, hA, fun p H1 s1 hp e1 => ?_⟩
    refine ⟨_, rfl, p, _, rfl, .inl (SqL.of e1), by show 1 ≤ sizeLine; decide, fun q hq => ?_⟩
    have sq := Same.put (o := .lst [V.int ((zs (toI r.name)).length : Int)]) hq
    refine ⟨_, rfl, ?_⟩
    refine cat_new upd_same (sq _ _ e1) (by rw [List.length_map, toI_length]; show 1 + _ ≤ _; omega) fun u H2 s2 hu e2 => ?_
    have S2 := (s1.trans sq).trans s2
    refine ⟨_, rfl, a, r, rfl, S2.seq hA, _, rfl, a, r, rfl, S2.seq hA, _, rfl, a, r, rfl, S2.seq hA, by show 3 ≤ sizeLine; decide, fun v hv => ?_⟩
    have sv := Same.put (o := .lst [V.int (r.place : Int), V.int (r.num : Int), V.int (r.den : Int)]) hv
    refine cat_new (sv _ _ e2) upd_same (by rw [List.length_append, List.length_map, toI_length]; show 1 + _ + 3 ≤ _; omega) fun g H3 s3 hg e3 => ?_
    refine k g H3 ((S2.trans sv).trans s3) ((S2.trans sv).free hg) ?_
    rw [e3, List.length_map, toI_length]
    unfold toldRow
    simp [zs]
end
end Hb

set_option Elab.async false
set_option linter.all false
set_option maxRecDepth 100000
set_option maxHeartbeats 4000000
namespace Hb
open PySem L2 RgBoard TL
section
variable {P : Program} {w : World} {K : PySem.W.Frag} {mg : Str → Option Value} {base : Heap}
variable {C : Addr}
/-! ### read -/
def spRead (K : PySem.W.Frag) : Sp := fun vs H Q _ => ∃ (a : Addr) (t : Bytes), vs = [.ref a] ∧ SqL K H a (zs (toI t)) ∧ t.length ≤ 100000 ∧ NewL H (zs (readAns t)) Q
theorem pieces_mem : ∀ {t pc : Bytes}, pc ∈ pieces t → pc ≠ [] ∧ pc.length ≤ t.length
  | [], pc, h => by cases h
  | c :: r, pc, h => by
    rw [pieces] at h
    by_cases hc : c = 10
    · rw [if_pos hc] at h
      rcases List.mem_cons.mp h with h | h
      · rw [h]
        exact ⟨by simp, by simp⟩
      · obtain ⟨h1, h2⟩ := pieces_mem h
        exact ⟨h1, by rw [List.length_cons]; omega⟩
    · rw [if_neg hc] at h
      cases e : pieces r with
      | nil =>
        rw [e] at h
        have h : pc ∈ ([[c]] : List Bytes) := h
        rw [List.mem_singleton.mp h]
        exact ⟨by simp, by simp⟩
      | cons x m =>
        rw [e] at h
        have h : pc ∈ (c :: x) :: m := h
        rcases List.mem_cons.mp h with h | h
        · have := (pieces_mem (t := r) (pc := x) (by rw [e]; simp)).2
          rw [h]
          exact ⟨by simp, by rw [List.length_cons, List.length_cons]; omega⟩
        · obtain ⟨h1, h2⟩ := pieces_mem (t := r) (pc := pc) (by rw [e]; exact List.mem_cons_of_mem _ h)
          exact ⟨h1, by rw [List.length_cons]; omega⟩
theorem pieces_count : ∀ t : Bytes, (pieces t).length ≤ t.length
  | [] => Nat.le_refl _
  | c :: r => by
    have ih := pieces_count r
    rw [pieces]
    split
    · rw [List.length_cons, List.length_cons]
      omega
    · cases e : pieces r with
      | nil => show 1 ≤ _; rw [List.length_cons]; omega
      | cons x m =>
        rw [e] at ih
        show m.length + 1 ≤ _
        rw [List.length_cons] at ih ⊢
        omega
/-- read as far as the first i pieces -/
theorem boardP_step {k : Nat} {s : Reading} {ps : List Bytes} {pc : Bytes} : boardP k s (pc :: ps) = match pieceMore s pc with
    | .error e => .error (k, e)
    | .ok u => boardP (k + 1) u ps := rfl
theorem told_len {r : Row} (h : r.name.length ≤ 12) : (toldRow r).length ≤ 16 := by
  unfold toldRow
  rw [List.length_cons, List.length_append, toI_length]
  show _ + 3 + 1 ≤ 16
  omega
theorem told_take {rs : List Row} {i : Nat} {r : Row} (h : rs[i]? = some r) : (rs.take (i + 1)).flatMap toldRow = (rs.take i).flatMap toldRow ++ toldRow r := by
  rw [List.take_add_one, h, List.flatMap_append]
  simp
theorem told_flat_len : ∀ {rs : List Row}, (∀ r ∈ rs, r.name.length ≤ 12) → (rs.flatMap toldRow).length ≤ 16 * rs.length
  | [], _ => Nat.le_refl _
  | r :: rs, h => by
    have h1 := told_len (h r List.mem_cons_self)
    have h2 := told_flat_len (rs := rs) fun x hx => h x (List.mem_cons_of_mem _ hx)
    rw [List.flatMap_cons, List.length_append, List.length_cons]
    omega
theorem do_read (T : Txt K mg) (L : Cl K mg C) : DoesAll P w K mg 7 "read" ["text"] (spRead K) := by
  refine T.d_read.all sc_read (fun vs H Q E h => ?_) (fun base f cdv A outer s H vs Q E hr h => ?_)
  · obtain ⟨a, t, rfl, _⟩ := h
    rfl
  · have PO : Does P w K mg base 6 "pieces_of" ["text"] (spPieces K) := (do_pieces_of T).mono (by decide)
    have TP : Does P w K mg base 6 "take_piece" ["reading", "piece"] (spPc K C) := do_take_piece T L
    have TR : Does P w K mg base 6 "told_row" ["row"] (spTold K) := (do_told_row T).mono (by decide)
    have IW : MDoes P w K mg base C 6 "is_whole" ["self"] (spSelf C whole) := (do_is_whole T L).mono (by decide)
    obtain ⟨fi, fdi, Fi, Mi, bi⟩ := L.i_
    have IN : FnOk P w K mg base CX0 5 fi fdi ["self"] (spInit C) := (ok_init Fi L).mono (by decide)
    obtain ⟨a, t, rfl, hA, hz, k⟩ := h
    have zl : (zs (toI t)).length = t.length := by rw [List.length_map, toI_length]
    refine ⟨_, pss_cons (ps_if (pt_cmpR op_gt (pe_callB call_len_seq rfl T.b_len PySem.boot_len (pa_cons (pv 0) pa_nil)) (pe_top T.c_MOST_BYTES) (nomark _)) (pss_one (ps_ret (pe_lst (pa_cons (pe_top T.c_TOO_MANY) pa_nil)))) pss_nil)
      (pss_cons (ps_set (i := 1) sc_read.nd rfl (by first | exact Or.inl rfl | exact Or.inr rfl) (pe_make0 Mi IN hr rfl L.at_ bi .nil pass0))
      (pss_cons (ps_set (i := 2) sc_read.nd rfl (by first | exact Or.inl rfl | exact Or.inr rfl) (pe_do PO hr (pa_cons (pv 0) pa_nil)))
      (pss_cons (ps_for PassesOwn.never rfl (pi_enum rfl T.b_enumerate (pa_cons (pv 2) pa_nil)) (pg_tup (n := 2) rfl (pgs_cons (pg_name (i := 3) sc_read.nd rfl (Or.inl rfl)) (pgs_cons (pg_name (i := 4) sc_read.nd rfl (Or.inl rfl)) pgs_nil)))
        (pss_cons (ps_set (i := 5) sc_read.nd rfl (by first | exact Or.inl rfl | exact Or.inr rfl) (pe_do TP hr (pa_cons (pv 1) (pa_cons (pv 4) pa_nil))))
        (pss_one (ps_if (pt_cmpR op_ne (pv 5) (pe_top T.c_NO_FAULT) (nomark _)) (pss_one (ps_ret (pe_lst (pa_cons (pe_top T.c_AT_FAULT) (pa_cons (pv 3) (pa_cons (pv 5) pa_nil)))))) pss_nil))))
      (pss_cons (ps_if (pt_not (pt_val (pe_mdo0 (pv 1) L.cl IW hr))) (pss_one (ps_ret (pe_lst (pa_cons (pe_top T.c_AT_FAULT) (pa_cons (pe_callB call_len_seq rfl T.b_len PySem.boot_len (pa_cons (pv 2) pa_nil)) (pa_cons (pe_top T.c_CANNOT_STAND) pa_nil)))))) pss_nil)
      (pss_cons (ps_set (i := 6) sc_read.nd rfl (by first | exact Or.inl rfl | exact Or.inr rfl) (pe_lst (pa_cons (pe_callB call_len_seq rfl T.b_len PySem.boot_len (pa_cons (pe_fld (pv 1) rfl) pa_nil)) pa_nil)))
      (pss_cons (ps_for PassesOwn.never rfl (pi_list (pe_fld (pv 1) rfl)) (pg_name (i := 7) sc_read.nd rfl (Or.inl rfl))
        (pss_one (ps_expr (pe_bm PySem.F.plainAttrs_list PySem.F.slot_list_extend PySem.F.type_list_extend mt_extend (pv 6) (pa_cons (pe_do TR hr (pa_cons (pv 7) pa_nil)) pa_nil)))))
      (pss_one (ps_ret (pv 6))))))))), ?_⟩
    unfold readAns at k
    refine ⟨_, rfl, a, _, rfl, .inl hA, _, _, rfl, rfl, _, rfl, ?_⟩
    rw [zl]
    refine ite_b (fun h => ?_) (fun h => ?_)
    · have h : (65536 : Int) < (t.length : Int) := of_decide_eq_true h
      rw [if_pos (show 65536 < t.length by omega)] at k
      exact ⟨by show 1 ≤ sizeLine; decide, fun p hp => k p _ (Same.put hp) hp upd_same⟩
    · have h : ¬ (65536 : Int) < (t.length : Int) := of_decide_eq_false h
      rw [if_neg (show ¬ 65536 < t.length by omega), readBoard_eq] at k
      intro x dx nx ndx nex
      refine ⟨x, dx, rfl, upd_same, fun lr0 ll0 H1 R1 flr fll kp => ⟨rfl, ?_⟩⟩
      have s0 : Same H (upd (upd H dx (.own x)) x (.ins C dx [])) := fun b o e => by
        rw [upd_ne (ne_of_none e nx), upd_ne (ne_of_none e ndx)]
        exact e
      have s1 : Same H H1 := Same.made nx ndx kp
      have flr0 : H lr0 = none := s0.free flr
      have fll0 : H ll0 = none := s0.free fll
      refine ⟨_, rfl, a, t, rfl, s1.seq hA, by omega, fun q bs H2 s2 hq eq hN => ?_⟩
      have hbl := Paired.length hN
      have hpc := pieces_count t
      have R2 := R1.same s2
      have ob2 := R2.ob
      obtain ⟨as2, ha2, _⟩ := R1.rws
      obtain ⟨bs2, hb2, _⟩ := R1.lns
      have qx : q ≠ x := fun e => by rw [e, R1.ob] at hq; cases hq
      have qlr : q ≠ lr0 := fun e => by rw [e, ha2] at hq; cases hq
      have qll : q ≠ ll0 := fun e => by rw [e, hb2] at hq; cases hq
      refine ⟨_, rfl, q, _, rfl, SqL.of eq, ?_⟩
      -- the loop
      refine for_enum (K := K) (a := q) (xs := bs.map V.ref) (fun i σ H3 => (∃ (ll : Addr) (u : Reading), RdAt C H3 x dx lr0 ll u ∧ (ll = ll0 ∨ H2 ll = none) ∧ boardP 0 unread (pieces t) = boardP i u ((pieces t).drop i)) ∧
          (∀ b o, H2 b = some o → b ≠ x → b ≠ lr0 → b ≠ ll0 → H3 b = some o) ∧ ∃ y z v, σ = [some (.ref a), some (.ref x), some (.ref q), y, z, v, none, none])
        ⟨⟨ll0, unread, R2, .inl rfl, rfl⟩, fun b o e _ _ _ => e, _, _, _, rfl⟩ (fun i σ H3 _ ⟨_, kp3, _⟩ => SqL.of (kp3 _ _ eq qx qlr qll)) ?_ ?_
      · rintro i v T1 σ H3 hv ⟨⟨ll, u, R3, hll, hbd⟩, kp3, y, z, w5, rfl⟩ hT
        obtain ⟨b, hb, rfl⟩ := refs_get hv
        obtain ⟨pc, hpc', hb0, hbq, hB⟩ := paired_get hN hb
        have hi : i < (pieces t).length := (List.getElem?_eq_some_iff.mp hpc').1
        obtain ⟨pne, plen⟩ := pieces_mem (List.mem_of_getElem? hpc')
        have hdrop : (pieces t).drop i = pc :: (pieces t).drop (i + 1) := by
          obtain ⟨h1, h2⟩ := List.getElem?_eq_some_iff.mp hpc'
          rw [← h2]
          exact List.drop_eq_getElem_cons h1
        rw [hdrop, boardP_step] at hbd
        have bx : b ≠ x := fun e => by rw [e, R1.ob] at hb0; cases hb0
        have blr : b ≠ lr0 := fun e => by rw [e, ha2] at hb0; cases hb0
        have bll : b ≠ ll0 := fun e => by rw [e, hb2] at hb0; cases hb0
        have hB3 := kp3 _ _ hB bx blr bll
        have sT : Same H3 (upd H3 T1 (.tup [.int (i : Nat), .ref b])) := Same.put hT
        have S3 : ∀ b o, H b = some o → H3 b = some o := fun b o e => kp3 b o (s2 _ _ (s1 _ _ e)) (ne_of_none e nx) (ne_of_none e flr0) (ne_of_none e fll0)
        refine ⟨T1, _, rfl, SqT.of upd_same, rfl, _, _, rfl, _, _, rfl, rfl, ?_⟩
        refine ⟨_, rfl, _, rfl, x, dx, lr0, ll, b, u, pc, rfl, R3.same sT, sT _ _ hB3, pne, by omega, fun e H4 hpm s4 => ?_, fun u' ll' H4 hpm R4 hf kp4 => ?_⟩
        · have e123 : e ≠ 0 := fun e0 => by
            rw [e0] at hpm
            unfold pieceMore at hpm
            split at hpm
            · cases hpm
            · split at hpm
              · cases hpm
              · split at hpm <;> cases hpm
          have S4 : Same H H4 := fun b o e => s4 _ _ (sT _ _ (S3 b o e))
          refine ⟨_, rfl, rfl, _, rfl, ?_⟩
          have hd : decide (V.int (e : Int) = V.int 0) = false := decide_eq_false fun z => e123 (by
            injection z with z
            omega)
          rw [hd]
          refine iteT ⟨_, rfl, _, rfl, by show 3 ≤ sizeLine; decide, fun p hp => ?_⟩
          rw [hbd, hpm] at k
          exact k p _ (S4.trans (Same.put hp)) (S4.free hp) upd_same
        · refine ⟨_, rfl, rfl, _, rfl, iteF ?_⟩
          rw [hpm] at hbd
          refine ⟨⟨ll', u', R4, ?_, hbd⟩, fun c o e h1 h2 h3 => ?_, _, _, _, rfl⟩
          · rcases hf with hf | hf
            · rw [hf]
              exact hll
            · by_cases g3 : ll' = ll0
              · exact .inl g3
              · refine .inr ?_
                cases e2 : H2 ll' with
                | none => rfl
                | some o =>
                  exfalso
                  have f3 : H3 ll' = none := sT.free hf
                  by_cases g1 : ll' = x
                  · rw [g1, R3.ob] at f3; cases f3
                  · by_cases g2 : ll' = lr0
                    · obtain ⟨_, ha3, _⟩ := R3.rws
                      rw [g2, ha3] at f3; cases f3
                    · rw [kp3 _ _ e2 g1 g2 g3] at f3
                      cases f3
          · have h4 : c ≠ ll := by
              rcases hll with hll | hll
              · rw [hll]
                exact h3
              · exact ne_of_none e hll
            exact kp4 c o (sT _ _ (kp3 c o e h1 h2 h3)) h1 h2 h4
      · rintro σ H3 ⟨⟨ll, u, R3, hll, hbd⟩, kp3, y, z, w5, rfl⟩
        rw [List.length_map, hbl, List.drop_length] at hbd
        have S3 : Same H H3 := fun b o e => kp3 b o (s2 _ _ (s1 _ _ e)) (ne_of_none e nx) (ne_of_none e flr0) (ne_of_none e fll0)
        have hbd : boardP 0 unread (pieces t) = if whole u = true then .ok u.rows else .error ((pieces t).length, 3) := hbd
        rw [hbd] at k
        refine ⟨_, rfl, x, dx, _, rfl, R3.ob, rf_no _ _ _ (by decide +kernel) (by decide +kernel) (by decide +kernel) (by decide +kernel) (by decide +kernel), x, dx, lr0, ll, u, rfl, R3, _, rfl, ?_⟩
        refine ite_b (fun h => ?_) (fun h => ?_)
        · have h : whole u = false := by simpa using h
          rw [if_neg (by rw [h]; exact Bool.false_ne_true)] at k
          refine ⟨_, rfl, q, _, rfl, .inl (SqL.of (kp3 _ _ eq qx qlr qll)), by show 3 ≤ sizeLine; decide, fun p hp => ?_⟩
          refine k p _ (S3.trans (Same.put hp)) (S3.free hp) ?_
          rw [upd_same, List.length_map, hbl]
          rfl
        · have h : whole u = true := by simpa using h
          rw [if_pos h] at k
          obtain ⟨as, ha, hR⟩ := R3.rws
          have la := Paired.length hR
          have gr := R3.good.rlen
          have gn : ∀ r ∈ u.rows, r.name.length ≤ 12 := fun r hr => by
            have h1 := (R3.good.rok r hr).1
            unfold Row.ok nameOk at h1
            simp only [Bool.and_eq_true, decide_eq_true_eq] at h1
            exact h1.1.2.1
          refine ⟨_, rfl, x, C, dx, _, _, rfl, R3.ob, L.cl, L.n_rows, rf_rows _ _ _, lr0, _, rfl, .inl (SqL.of ha), by show 1 ≤ sizeLine; decide, fun p hp => ?_⟩
          have sp := Same.put (o := .lst [V.int ((as.map V.ref).length : Int)]) hp
          have px : p ≠ x := fun e => by rw [e, R3.ob] at hp; cases hp
          have plr : p ≠ lr0 := fun e => by rw [e, ha] at hp; cases hp
          refine ⟨_, rfl, x, C, dx, _, _, rfl, sp _ _ R3.ob, L.cl, L.n_rows, rf_rows _ _ _, lr0, rfl, ⟨_, SqL.of (sp _ _ ha)⟩, ?_⟩
          refine for_list (K := K) (a := lr0) (xs := as.map V.ref) (fun i σ H4 => SameB p (upd H3 p (.lst [V.int ((as.map V.ref).length : Int)])) H4 ∧ H4 p = some (.lst (zs ((u.rows.length : Int) :: (u.rows.take i).flatMap toldRow))) ∧ ∃ y z v x8, σ = [some (.ref a), some (.ref x), some (.ref q), y, z, v, some (.ref p), x8])
            ⟨fun _ _ _ h => h, by rw [upd_same, List.length_map, la]; rfl, _, _, _, _, rfl⟩ (fun i σ H4 _ ⟨s4, _⟩ => SqL.of (s4 _ _ plr.symm (sp _ _ ha))) ?_ ?_
          · rintro i v σ H4 hv ⟨s4, h4, y, z, w5, x8, rfl⟩
            obtain ⟨b, hb, rfl⟩ := refs_get hv
            obtain ⟨r, hr', hB⟩ := paired_get hR hb
            have hi : i < u.rows.length := (List.getElem?_eq_some_iff.mp hr').1
            have rn := gn r (List.mem_of_getElem? hr')
            have bp : b ≠ p := fun e => by rw [e, hp] at hB; cases hB
            refine ⟨_, rfl, .inl ⟨rfl, _, SqL.of h4⟩, _, rfl, b, r, rfl, SqL.of (s4 _ _ bp (sp _ _ hB)), by omega, fun g H5 s5 hg e5 => ?_⟩
            have tl := told_flat_len (rs := u.rows.take i) fun x hx => gn x (List.mem_of_mem_take hx)
            rw [List.length_take] at tl
            have tr := told_len rn
            refine ⟨p, g, _, _, rfl, rfl, s5 _ _ h4, e5, ?_, fun c o n e => ?_, ?_, _, _, _, _, rfl⟩
            · rw [List.length_map, List.length_map, List.length_cons, sizeLine_eq]
              omega
            · rw [upd_ne n]
              exact s5 _ _ (s4 _ _ n e)
            · rw [upd_same, told_take hr']
              simp [zs]
          · rintro σ H4 ⟨s4, h4, y, z, w5, x8, rfl⟩
            rw [List.length_map, la, List.take_of_length_le (Nat.le_refl _)] at h4
            refine ⟨_, rfl, k p H4 (fun c o e => ?_) (S3.free hp) h4⟩
            have cp : c ≠ p := ne_of_none (S3 _ _ e) hp
            exact s4 _ _ cp (sp _ _ (S3 _ _ e))
end
end Hb

set_option Elab.async false
set_option linter.all false
set_option maxRecDepth 100000
set_option maxHeartbeats 4000000
namespace Hb
open PySem L2 RgBoard TL
theorem said : PySem.Challenge.rw_handboard_s02_read.wellSaid = true := by decide +kernel
theorem the_start {w : World} {K : PySem.W.Frag} {h : Heap} {args : List PySem.W.WData} {vals : List Value} (hpre : PySem.Challenge.rw_handboard_s02_read.pre args = true) (hwl : PySem.W.WellAll w.params h vals args) (KX : K.In h) :
    ∃ (v : V) (u : Value) (H : Hp), vals = [u] ∧ RelV v u ∧ HofOk PySem.Challenge.rw_handboard_s02_read.prog w K h H ∧
      spRead K [v] H (fun v' H' => ∃ (p : Addr) (ns : List Int), v' = .ref p ∧ H' p = some (.lst (zs ns)) ∧ PySem.Challenge.rw_handboard_s02_read.post args (.list (ns.map PySem.W.WData.int)) = true) E0 := by
  obtain ⟨⟨ns, un⟩, hw, ha, rfl⟩ := (PySem.W.OpenSpec.pre_iff said args).mp hpre
  have hw1 : (PySem.W.Codec.inList 0 66000 (PySem.W.Codec.inInt 0 255) ns && true) = true := hw
  rw [Bool.and_true] at hw1
  unfold PySem.W.Codec.inList PySem.W.Codec.inLen PySem.W.Codec.inNat at hw1
  simp only [Bool.and_eq_true, decide_eq_true_eq] at hw1
  obtain ⟨⟨_, hlen⟩, _⟩ := hw1
  have ha1 : PyWqatda.read_asked ns = true := ha
  have hb := bytes_of (asked_all rfl ha1)
  have hwl1 : PySem.W.WellAll w.params h vals [.list (ns.map PySem.W.WData.int)] := hwl
  cases hwl1 with
  | cons w1 w2 =>
    cases w2
    obtain ⟨a, rfl, pA⟩ := well_list w1 (by omega)
    refine ⟨.ref a, .ref a, Hof K h [a], rfl, rfl, hof_ok (fun b hb => ?_), a, WqatdaNeutral.bytes ns, rfl, ?_, by rw [bytes_len]; omega, fun p H' s hp ep => ⟨p, readAns (WqatdaNeutral.bytes ns), rfl, ep, ?_⟩⟩
    · rw [List.mem_singleton.mp hb]
      exact ⟨_, pA⟩
    · rw [hb]
      exact hof_sq KX List.mem_cons_self pA
    · refine (PySem.W.OpenSpec.post_iff said hw _ []).mpr ?_
      show PySem.W.WData.list ((readAns (WqatdaNeutral.bytes ns)).map PySem.W.WData.int) = PySem.W.WData.list ((PyWqatda.read ns).map PySem.W.WData.int)
      rw [read_spec]
end Hb
open PySem PySem.W PyProof.Rows
set_option maxRecDepth 100000 in
set_option maxHeartbeats 0 in
theorem PySem.Challenge.cw_handboard_s02_read_holds : PySem.Challenge.rw_handboard_s02_read.Holds := by
  w_on; k_headS; (case hw => exact ⟨[.list []], by decide +kernel, by decide +kernel⟩)
  k_fillS
  refine L2.walk_os (r := PySem.Challenge.rw_handboard_s02_read) (k := 7) (x := "text") (sp := Hb.spRead) rfl ⟨rfl, by decide, by decide⟩ (fun w h Y => PySem.W.kIn_of Y) ?F (fun w h args vals hpre hwl KX => Hb.the_start hpre hwl KX)
  case F =>
    intro w mg fa h KX G hmg
    refine (Hb.do_read (C := ?C) ?T ?L).one hmg
    case L =>
      refine' Hb.cl_mk KX G ?aC ?pgC ?hdC ?poC ?saC ?mkC ?kcC ?n_page_count ?n_page_number ?n_on_page ?n_rows ?n_row_lines ?a0 ?i0 ?l0 ?c0 ?k0 ?a1 ?i1 ?l1 ?c1 ?k1 ?a2 ?i2 ?l2 ?c2 ?k2 ?a3 ?i3 ?l3 ?c3 ?k3 ?a4 ?i4 ?l4 ?c4 ?k4 ?a5 ?i5 ?l5 ?c5 ?k5 ?a6 ?i6 ?l6 ?c6 ?k6 ?a7 ?i7 ?l7 ?c7 ?k7 ?a8 ?i8 ?l8 ?c8 ?k8
      (case aC => k_is)
      (case pgC => k_is)
      (case hdC => k_is)
      (case poC => k_is)
      (case saC => k_is)
      (case mkC => k_is)
      (case kcC => k_is)
      (case n_page_count => k_is)
      (case n_page_number => k_is)
      (case n_on_page => k_is)
      (case n_rows => k_is)
      (case n_row_lines => k_is)
      (case a0 => k_is)
      (case i0 => k_is)
      (case l0 => k_is)
      (case c0 => k_is)
      (case k0 => k_is)
      (case a1 => k_is)
      (case i1 => k_is)
      (case l1 => k_is)
      (case c1 => k_is)
      (case k1 => k_is)
      (case a2 => k_is)
      (case i2 => k_is)
      (case l2 => k_is)
      (case c2 => k_is)
      (case k2 => k_is)
      (case a3 => k_is)
      (case i3 => k_is)
      (case l3 => k_is)
      (case c3 => k_is)
      (case k3 => k_is)
      (case a4 => k_is)
      (case i4 => k_is)
      (case l4 => k_is)
      (case c4 => k_is)
      (case k4 => k_is)
      (case a5 => k_is)
      (case i5 => k_is)
      (case l5 => k_is)
      (case c5 => k_is)
      (case k5 => k_is)
      (case a6 => k_is)
      (case i6 => k_is)
      (case l6 => k_is)
      (case c6 => k_is)
      (case k6 => k_is)
      (case a7 => k_is)
      (case i7 => k_is)
      (case l7 => k_is)
      (case c7 => k_is)
      (case k7 => k_is)
      (case a8 => k_is)
      (case i8 => k_is)
      (case l8 => k_is)
      (case c8 => k_is)
      (case k8 => k_is)
    case T =>
      refine' Hb.txt_mk KX G ?h_BLANK ?h_FIRST_LETTER ?h_FIRST_DIGIT ?h_WORTH_OF_FIRST_LETTER ?h_WORTH_OF_FIRST_DIGIT ?h_SIGN_COUNT ?h_SHORTEST_LINE ?h_LONGEST_LINE ?h_MOST_ROWS ?h_LONGEST_NAME ?h_GREATEST_NUMERATOR ?h_GREATEST_DENOMINATOR ?h_LINE_FEED ?h_ROWS_ON_A_PAGE ?h_MOST_PAGES ?h_NO_FAULT ?h_NOT_SIGNS ?h_WRONG_SUM ?h_CANNOT_STAND ?h_TOO_MANY ?h_AT_FAULT ?h_MOST_BYTES ?z_all ?z_enumerate ?z_len ?z_list ?z_ord ?z_range ?z_str ?z_sum ?a0 ?l0 ?c0 ?k0 ?a1 ?l1 ?c1 ?k1 ?a2 ?l2 ?c2 ?k2 ?a3 ?l3 ?c3 ?k3 ?a4 ?l4 ?c4 ?k4 ?a5 ?l5 ?c5 ?k5 ?a6 ?l6 ?c6 ?k6 ?a7 ?l7 ?c7 ?k7 ?a8 ?l8 ?c8 ?k8 ?a9 ?l9 ?c9 ?k9 ?a10 ?l10 ?c10 ?k10 ?a11 ?l11 ?c11 ?k11 ?a12 ?l12 ?c12 ?k12 ?a13 ?l13 ?c13 ?k13 ?a14 ?l14 ?c14 ?k14 ?a15 ?l15 ?c15 ?k15 ?a16 ?l16 ?c16 ?k16 ?a17 ?l17 ?c17 ?k17 ?a18 ?l18 ?c18 ?k18 ?a19 ?l19 ?c19 ?k19 ?a20 ?l20 ?c20 ?k20 ?a21 ?l21 ?c21 ?k21 ?a22 ?l22 ?c22 ?k22 ?a23 ?l23 ?c23 ?k23 ?a24 ?l24 ?c24 ?k24 ?a25 ?l25 ?c25 ?k25 ?a26 ?l26 ?c26 ?k26 ?a27 ?l27 ?c27 ?k27 ?a28 ?l28 ?c28 ?k28
      (case h_BLANK => k_is)
      (case h_FIRST_LETTER => k_is)
      (case h_FIRST_DIGIT => k_is)
      (case h_WORTH_OF_FIRST_LETTER => k_is)
      (case h_WORTH_OF_FIRST_DIGIT => k_is)
      (case h_SIGN_COUNT => k_is)
      (case h_SHORTEST_LINE => k_is)
      (case h_LONGEST_LINE => k_is)
      (case h_MOST_ROWS => k_is)
      (case h_LONGEST_NAME => k_is)
      (case h_GREATEST_NUMERATOR => k_is)
      (case h_GREATEST_DENOMINATOR => k_is)
      (case h_LINE_FEED => k_is)
      (case h_ROWS_ON_A_PAGE => k_is)
      (case h_MOST_PAGES => k_is)
      (case h_NO_FAULT => k_is)
      (case h_NOT_SIGNS => k_is)
      (case h_WRONG_SUM => k_is)
      (case h_CANNOT_STAND => k_is)
      (case h_TOO_MANY => k_is)
      (case h_AT_FAULT => k_is)
      (case h_MOST_BYTES => k_is)
      (case z_all => k_is)
      (case z_enumerate => k_is)
      (case z_len => k_is)
      (case z_list => k_is)
      (case z_ord => k_is)
      (case z_range => k_is)
      (case z_str => k_is)
      (case z_sum => k_is)
      (case a0 => k_is)
      (case l0 => k_is)
      (case c0 => k_is)
      (case k0 => k_is)
      (case a1 => k_is)
      (case l1 => k_is)
      (case c1 => k_is)
      (case k1 => k_is)
      (case a2 => k_is)
      (case l2 => k_is)
      (case c2 => k_is)
      (case k2 => k_is)
      (case a3 => k_is)
      (case l3 => k_is)
      (case c3 => k_is)
      (case k3 => k_is)
      (case a4 => k_is)
      (case l4 => k_is)
      (case c4 => k_is)
      (case k4 => k_is)
      (case a5 => k_is)
      (case l5 => k_is)
      (case c5 => k_is)
      (case k5 => k_is)
      (case a6 => k_is)
      (case l6 => k_is)
      (case c6 => k_is)
      (case k6 => k_is)
      (case a7 => k_is)
      (case l7 => k_is)
      (case c7 => k_is)
      (case k7 => k_is)
      (case a8 => k_is)
      (case l8 => k_is)
      (case c8 => k_is)
      (case k8 => k_is)
      (case a9 => k_is)
      (case l9 => k_is)
      (case c9 => k_is)
      (case k9 => k_is)
      (case a10 => k_is)
      (case l10 => k_is)
      (case c10 => k_is)
      (case k10 => k_is)
      (case a11 => k_is)
      (case l11 => k_is)
      (case c11 => k_is)
      (case k11 => k_is)
      (case a12 => k_is)
      (case l12 => k_is)
      (case c12 => k_is)
      (case k12 => k_is)
      (case a13 => k_is)
      (case l13 => k_is)
      (case c13 => k_is)
      (case k13 => k_is)
      (case a14 => k_is)
      (case l14 => k_is)
      (case c14 => k_is)
      (case k14 => k_is)
      (case a15 => k_is)
      (case l15 => k_is)
      (case c15 => k_is)
      (case k15 => k_is)
      (case a16 => k_is)
      (case l16 => k_is)
      (case c16 => k_is)
      (case k16 => k_is)
      (case a17 => k_is)
      (case l17 => k_is)
      (case c17 => k_is)
      (case k17 => k_is)
      (case a18 => k_is)
      (case l18 => k_is)
      (case c18 => k_is)
      (case k18 => k_is)
      (case a19 => k_is)
      (case l19 => k_is)
      (case c19 => k_is)
      (case k19 => k_is)
      (case a20 => k_is)
      (case l20 => k_is)
      (case c20 => k_is)
      (case k20 => k_is)
      (case a21 => k_is)
      (case l21 => k_is)
      (case c21 => k_is)
      (case k21 => k_is)
      (case a22 => k_is)
      (case l22 => k_is)
      (case c22 => k_is)
      (case k22 => k_is)
      (case a23 => k_is)
      (case l23 => k_is)
      (case c23 => k_is)
      (case k23 => k_is)
      (case a24 => k_is)
      (case l24 => k_is)
      (case c24 => k_is)
      (case k24 => k_is)
      (case a25 => k_is)
      (case l25 => k_is)
      (case c25 => k_is)
      (case k25 => k_is)
      (case a26 => k_is)
      (case l26 => k_is)
      (case c26 => k_is)
      (case k26 => k_is)
      (case a27 => k_is)
      (case l27 => k_is)
      (case c27 => k_is)
      (case k27 => k_is)
      (case a28 => k_is)
      (case l28 => k_is)
      (case c28 => k_is)
      (case k28 => k_is)
#print axioms PySem.Challenge.cw_handboard_s02_read_holds
